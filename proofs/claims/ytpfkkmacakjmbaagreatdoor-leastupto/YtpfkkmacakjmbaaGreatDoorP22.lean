import Derived.Test.YtpfkkmacakjmbaaGreatDoorP21
import Derived.Test.YtpfkkmacakjmbaaGreatDoorP06
import Derived.Test.YtpfkkmacakjmbaaGreatDoorP12
set_option maxRecDepth 100000
set_option maxHeartbeats 6400000
set_option linter.unusedSimpArgs false
set_option linter.unusedVariables false
namespace Go.Proofs.YtpfkkmacakjmbaaGreatDoor
namespace Sp
theorem vh {s:List V} (h:1≤s.length):cO s++ [er s]=s:=by
 unfold cO er;have hl:s.length-1<s.length:=by omega
 rw[List.getD_eq_getElem?_getD,List.getElem?_eq_getElem hl,Option.getD_some,←List.take_succ_eq_append_getElem hl];exact List.take_of_length_le (by omega)
end Sp
section
open Sp
theorem xL {im:Img}: ∀{bs:List Bod} {i:Nat} {T:eJ},dO im i bs= .ok T→T.length=bs.length∧ ∀(q:Nat) b t,bs[q]?=some b→T[q]?=some t→cZ im b=some t:=by
 intro bs
 induction bs with
 |nil=>intro i T h;simp only[dO]at h;cases h;exact⟨rfl,fun q b t h=>by simp at h⟩
 |cons b bs ih=>
  intro i T h;unfold dO at h
  split at h
  ·cases h
  ·rename_i t ht
   split at h
   ·cases h
   ·rename_i ts hts
    cases h
    obtain⟨h1,h2⟩:=ih hts;refine⟨by simp[h1],fun q b' t' hb ht'=> ?_⟩
    cases q with
    |zero=>simp at hb ht';subst hb ht';exact ht
    |succ q=>simp at hb ht';exact h2 q b' t' hb ht'
end
end Go.Proofs.YtpfkkmacakjmbaaGreatDoor
