import Derived.Test.YtpfkkmacakjmbaaGreatDoorP23
import Derived.Test.YtpfkkmacakjmbaaGreatDoorP01
import Derived.Deep.Cut
set_option maxRecDepth 100000
set_option maxHeartbeats 6400000
set_option linter.unusedSimpArgs false
set_option linter.unusedVariables false
namespace Go.Proofs.YtpfkkmacakjmbaaGreatDoor
section
open Go Go.RowKit Sp
attribute [local go_sem ↓] Go.wp_at_zero Go.wp_at_succ
theorem tst {x k:Nat} (h:x=k):((x:Int)==(k:Int))=true:=by rw[beq_iff_eq];omega
theorem tsf {x k:Nat} (h:x≠k):((x:Int)==(k:Int))=false:=by rw[beq_eq_false_iff_ne];omega
theorem fC {im:Img} {inp:ByteArray} {f:Nat} {b:Bod} {d i:Nat} {l:List V} {s:Ev} (h:s.left=0):bN im inp f b d i l s= .bad 5 s.out:=by
 cases f with
 |zero=>rfl
 |succ f=>simp[bN,h]
theorem oF {cc dd:List V→Ev→R} {g:Nat} {l:List V} {s:Ev} {e:Nat} {o:List UInt8} (h0:s.left=0→cc l s= .bad 5 s.out) (hg:s.left≤g) (h:cc l s= .bad e o):fF cc dd g l s= .bad e o:=by
 cases g with
 |zero=>
  have:=h0 (by omega);rw[h]at this;exact this.symm
 |succ g=>simp[fF,h]
theorem rD {s:ByteArray} {im:Img} (hs:s.size≤2000) (hl:ep s= .ok im) (h:(eC s).1=0):dF im:=by
 have hW:gR im:=by
  unfold ep at hl
  split at hl
  ·cases hl
  ·split at hl
   ·cases hl
   ·rename_i im' hr
    split at hl
    ·cases hl
    ·cases hl;exact qF hs hr
 obtain⟨hE,hk⟩:=ux hl;refine⟨hW,hE,hk,fun b hb=> ?_⟩;unfold eC at h;rw[hl]at h;simp only at h
 cases hf:im.bodies.findIdx? (fun b=> !dN im b)with
 |some k=>rw[hf]at h;simp at h
 |none=>
  rw[List.findIdx?_eq_none_iff]at hf;simpa using hf b hb
theorem uf {im:Img} (h:dF im) {mb:Bod} (hm:mb∈im.bodies):LT im.classes [] mb.locals (bP mb []):=by
 have e:bP mb []=mb.locals.map d8:=by simp[bP]
 rw[e];refine⟨by simp,fun j v hv=> ?_⟩;simp only[List.getElem?_map,Option.map_eq_some_iff]at hv;obtain⟨c,hc,rfl⟩:=hv;rw[show mb.locals.getD j 0=c from by rw[List.getD_eq_getElem?_getD,hc];rfl];exact mS h.cls4 ((h.wf.bod mb hm).loc.2 c (List.mem_of_getElem? hc))
theorem oG (im:Img) {fu:Nat} (h:fu≤4000):StT im 88000 ⟨[],0,fu,[]⟩:=⟨⟨fun k ob h=>by simp at h,fun k ob h=>by simp at h,fun k ob j v h=>by simp at h⟩,by simpa using h,by simp;omega,by omega,by simpa using h⟩
theorem rE {im:Img} {inp:ByteArray} {fu:Nat} {mb:Bod} {q:Nat} (hq:im.bodies.length=q+1) (hm:im.bodies[q]?=some mb):lr im inp fu=match bN im inp fu mb 1 0 (bP mb []) ⟨[],0,fu,[]⟩with
  | .bad e o=>(o,0,e)
  | .ok v _ s=>(s.out,v.N,0):=by
 unfold lr;rw[hq,Nat.add_sub_cancel,List.getD_eq_getElem?_getD,hm]
 rfl
end
end Go.Proofs.YtpfkkmacakjmbaaGreatDoor
