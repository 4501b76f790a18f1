import Derived.Test.YtpfkkmacakjmbaaGreatDoorP31
import Derived.Test.YtpfkkmacakjmbaaGreatDoorP25
set_option maxRecDepth 100000
set_option maxHeartbeats 6400000
set_option linter.unusedSimpArgs false
set_option linter.unusedVariables false
namespace Go.Proofs.YtpfkkmacakjmbaaGreatDoor
section
open Go Go.RowKit Sp
attribute [local go_sem ↓] Go.wp_at_zero Go.wp_at_succ
theorem wI (tx:Nat) (inp:ByteArray) (w:World):
  Calls Tryz.prog 86 #[.pointer (some ⟨tx,0,none⟩),.string inp] w fun en w'=>en= .returned (.pointer (some ⟨w.heap.size,0,none⟩))∧w'=w.alloc (.cells #[.pointer (some ⟨tx,0,none⟩),.string inp,.int .i64 0,.slice none 0 0,.slice none 0 0,.int .i64 0] 211):=by
 go_in
 go_wp2_with fail;go_ret;exact⟨rfl,rfl⟩
theorem sD {w:World} {bw tx base:Nat} {inp:ByteArray} {r:Int} {vo vb:Value} {cn:Int} {o:List UInt8} (h:XwC w bw tx inp r vo vb cn) (ho:w.ownsRow base 5 1 vo o.length (Lib.byteCells o)):
  Calls Tryz.prog 89 #[.pointer (some ⟨bw,0,none⟩)] w fun en w'=>en= .returned (.string ⟨o.toArray⟩)∧w'=w:=by
 have c3:=h.c3;have hl:=h.lt;have a0:=fo (l:=o) ho;obtain⟨ao,cap,rfl⟩:=aw ho;clear h ho
 go_in
 go_wp2_with fail;go_ret;exact⟨rfl,rfl⟩
theorem qE (e:Nat) (he:e=0∨(5≤e∧e≤10)) (w:World):
  Calls Tryz.prog 59 #[.int .i64 (bK e)] w fun en w'=>en= .returned (.int .i64 e)∧w'=w:=by
 have:e=0∨e=5∨e=6∨e=7∨e=8∨e=9∨e=10:=by omega
 rcases this with rfl|rfl|rfl|rfl|rfl|rfl|rfl
 ·rw[show bK _=0 from rfl]
  go_in
  go_wp2_with fail;go_ret;exact⟨rfl,rfl⟩
 ·rw[show bK _=1 from rfl]
  go_in
  go_wp2_with fail;go_ret;exact⟨rfl,rfl⟩
 ·rw[show bK _=2 from rfl]
  go_in
  go_wp2_with fail;go_ret;exact⟨rfl,rfl⟩
 ·rw[show bK _=3 from rfl]
  go_in
  go_wp2_with fail;go_ret;exact⟨rfl,rfl⟩
 ·rw[show bK _=4 from rfl]
  go_in
  go_wp2_with fail;go_ret;exact⟨rfl,rfl⟩
 ·rw[show bK _=5 from rfl]
  go_in
  go_wp2_with fail;go_ret;exact⟨rfl,rfl⟩
 ·rw[show bK _=6 from rfl]
  go_in
  go_wp2_with fail;go_ret;exact⟨rfl,rfl⟩
end
end Go.Proofs.YtpfkkmacakjmbaaGreatDoor
