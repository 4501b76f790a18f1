import Derived.Test.YtpfkkmacakjmbaaGreatDoorP22
import Derived.Test.YtpfkkmacakjmbaaGreatDoorP12
set_option maxRecDepth 100000
set_option maxHeartbeats 6400000
set_option linter.unusedVariables false
namespace Go.Proofs.YtpfkkmacakjmbaaGreatDoor
section
open Sp
noncomputable def jC (s inp:ByteArray) (cells fuel:Int):List UInt8×Int×Nat:=
 if 40<inp.size∨cells<0∨100<cells∨fuel<0∨4000<fuel then([],0,1)
 else match dQ s with
  | .error (e,_)=>([],0,e)
  | .ok im=>match fI im 0 im.bodies with
   | .error _=>([],0,4)
   | .ok T=>iU im inp T cells.toNat fuel.toNat
theorem ry {im:Img}: ∀{bs:List Bod} {i:Nat} {T:bU},fI im i bs= .ok T→T.length=bs.length∧ ∀(q:Nat) b t,bs[q]?=some b→T[q]?=some t→cG im b=some t:=by
 intro bs
 induction bs with
 |nil=>intro i T h;simp only[fI]at h;cases h;exact⟨rfl,fun q b t h=>by simp at h⟩
 |cons b bs ih=>
  intro i T h;unfold fI at h
  split at h
  ·cases h
  ·rename_i t ht
   split at h
   ·cases h
   ·rename_i ts hts
    cases h
    obtain⟨h1,h2⟩:=ih hts;refine⟨by simp[h1],fun q b' t' hb ht'=> ?_⟩
    cases q with
    |zero=>simp at hb ht';subst hb ht';exact ht
    |succ q=>simp at hb ht';exact h2 q b' t' hb ht'
theorem uM {im:Img} {T:bU} (inp:ByteArray) (cells:Nat) (h:Fit im T): ∀(n:Nat) {f:Fm} {rest:List Fm} {s:Ev},MTn im T f rest s n→(gZ im inp T cells n ⟨f::rest,s⟩).2.2=0∨(5≤(gZ im inp T cells n ⟨f::rest,s⟩).2.2∧(gZ im inp T cells n ⟨f::rest,s⟩).2.2≤10):=by
 intro n
 induction n with
 |zero=>intro f rest s _;right;simp[gZ]
 |succ n ih=>
  intro f rest s hm;obtain⟨b,x,st,l,_,_,he,hx⟩:=mI inp cells h hm;unfold gZ;rw[he]
  cases hr:Sp.stepX im inp T cells x f rest s with
  |go m=>
   rw[hr]at hx;obtain⟨f',r',e,h1⟩:=hx;obtain⟨fr,ev⟩:=m;simp only at e h1⊢;subst e;exact ih h1
  |bad e o=>rw[hr]at hx;right;simp only;omega
  |fin v o=>left;rfl
theorem xb {im:Img} {T:bU} (inp:ByteArray) (cells:Nat) (h:Fit im T) {fu:Nat} (hf:fu≤4000):(iU im inp T cells fu).2.2=0∨(5≤(iU im inp T cells fu).2.2∧(iU im inp T cells fu).2.2≤10):=by
 obtain⟨bs,m,a1,a2⟩:=h.main;have a0:im.bodies.length=bs.length+1:=by rw[a1];simp
 have hq:im.bodies[bs.length]?=some m:=by rw[a1];simp
 have:=uM inp cells h fu ⟨nB h a0 hq,by simp;omega,by simp;omega,by simp;omega⟩;unfold iU;rw[a0];simpa[hq]using this
end
end Go.Proofs.YtpfkkmacakjmbaaGreatDoor
