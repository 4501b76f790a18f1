import Derived.Test.YtpfkkmacakjmbaaGreatDoorP02
import Derived.Laws.StructEq
import Derived.Test.YtpfkkmacakjmbaaGreatDoorP01
import Derived.Laws.MakeOwn
set_option maxRecDepth 100000
set_option maxHeartbeats 6400000
set_option linter.unusedSimpArgs false
set_option linter.unusedVariables false
namespace Go.Proofs.YtpfkkmacakjmbaaGreatDoor
section
open Go Go.RowKit Sp
theorem blen (s:ByteArray):s.data.toList.length=s.size:=Array.length_toList
end
section
open Go Go.RowKit Sp
attribute [local go_sem ↓] Go.wp_at_zero Go.wp_at_succ
theorem zw (l:List UInt8) (k:Nat) (h:k<l.length):l.getD k 0=l[k]:=by simp[List.getD,h]
end
end Go.Proofs.YtpfkkmacakjmbaaGreatDoor
