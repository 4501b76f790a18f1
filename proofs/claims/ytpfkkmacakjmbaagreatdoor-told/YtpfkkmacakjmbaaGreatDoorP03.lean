import Derived.Test.YtpfkkmacakjmbaaGreatDoorP02
set_option maxRecDepth 100000
set_option maxHeartbeats 6400000
set_option linter.unusedSimpArgs false
set_option linter.unusedVariables false
namespace Go.Proofs.YtpfkkmacakjmbaaGreatDoor
section
open Go Sp
theorem dk {cs:List Cls} (hw:WfC cs) {p:Int} (hp:0≤p):cS cs p<p∧ -1≤cS cs p:=by
 unfold cS
 cases h:cs[p.toNat]? with
 |none=>simp;omega
 |some c=>
  have:=hw _ _ h;simp;omega
theorem tj {cs:List Cls} (hw:WfC cs): ∀{f:Nat} {p y:Int},p<f→bO cs f p y=bO cs (f+1) p y:=by
 intro f
 induction f with
 |zero=>intro p y h;simp[bO];intro h';omega
 |succ f ih=>
  intro p y h;rw[bO,bO]
  by_cases h0:p<0
  ·simp[h0]
  ·simp only[h0,if_false]
   by_cases hy:p=y
   ·simp[hy]
   ·simp only[hy,if_false];have:=dk hw (p:=p) (by omega);exact ih (by omega)
theorem er {cs:List Cls} (hw:WfC cs) {x y:Int} (h0:0≤x) (h1:x≤4):bO cs 5 x y=true↔x=y∨bO cs 5 (cS cs x) y=true:=by
 rw[bO];simp only[if_neg (show¬x<0 by omega)]
 by_cases hy:x=y
 ·simp[hy]
 ·simp only[hy,if_false,false_or];have:=dk hw h0;rw[tj hw (by omega:cS cs x<(4:Nat))]
theorem jm {cs:List Cls} (hw:WfC cs) {x y:Int} (h:x<0):bO cs 5 x y=false:=by
 rw[bO];simp[h]
theorem mS {cs:List Cls} (hw:WfC cs) {x:Int} (h:0≤x):bO cs 5 x x=true:=by
 rw[bO];simp;omega
theorem tk {cs:List Cls} (hw:WfC cs): ∀(k:Nat) {x y:Int},x≤k→k≤4→bO cs 5 x y=true→0≤y∧y≤x:=by
 intro k
 induction k with
 |zero=>
  intro x y hx hk h
  by_cases h0:x<0
  ·rw[jm hw h0]at h;cases h
  ·rcases(er hw (by omega) (by omega)).1 h with rfl|h
   ·omega
   ·have:=dk hw (p:=x) (by omega);rw[jm hw (by omega)]at h;cases h
 |succ k ih=>
  intro x y hx hk h
  by_cases h0:x<0
  ·rw[jm hw h0]at h;cases h
  ·rcases(er hw (by omega) (by omega)).1 h with rfl|h
   ·omega
   ·have:=dk hw (p:=x) (by omega);have:=ih (by omega) (by omega) h;omega
theorem uI {cs:List Cls} (hw:WfC cs): ∀(k:Nat) {x y z:Int},x≤k→k≤4→bO cs 5 x y=true→bO cs 5 y z=true→bO cs 5 x z=true:=by
 intro k
 induction k with
 |zero=>
  intro x y z hx hk h h'
  by_cases h0:x<0
  ·rw[jm hw h0]at h;cases h
  ·rcases(er hw (by omega) (by omega)).1 h with rfl|h
   ·exact h'
   ·have:=dk hw (p:=x) (by omega);rw[jm hw (by omega)]at h;cases h
 |succ k ih=>
  intro x y z hx hk h h'
  by_cases h0:x<0
  ·rw[jm hw h0]at h;cases h
  ·rcases(er hw (by omega) (by omega)).1 h with rfl|h
   ·exact h'
   ·have:=dk hw (p:=x) (by omega);exact(er hw (by omega) (by omega)).2 (Or.inr (ih (by omega) (by omega) h h'))
theorem tm {cs:List Cls} (hw:WfC cs): ∀{f:Nat} {p y:Int},p<f→f≤5→p≤3→
  (j6 cs y f p=45∧ ∀q,bO cs 5 p q=true→bO cs 5 y q=false)∨
  ∃q:Nat,q≤3∧j6 cs y f p=UInt8.ofNat (65+q)∧bO cs 5 p q=true∧bO cs 5 y q=true∧ ∀r,bO cs 5 p r=true→bO cs 5 y r=true→bO cs 5 q r=true:=by
 intro f
 induction f with
 |zero=>intro p y h _ _;left;exact⟨rfl,fun q hq=>by rw[jm hw (by omega)]at hq;cases hq⟩
 |succ f ih=>
  intro p y h hf a0;rw[j6]
  by_cases h0:p<0
  ·left
   rw[if_pos h0];exact⟨rfl,fun q hq=>by rw[jm hw h0]at hq;cases hq⟩
  ·rw[if_neg h0]
   by_cases hy:bO cs 5 y p=true
   ·right
    rw[if_pos hy];refine⟨p.toNat,by omega,rfl,?_,?_,?_⟩
    ·rw[Int.toNat_of_nonneg (by omega)];exact mS hw (by omega)
    ·rw[Int.toNat_of_nonneg (by omega)];exact hy
    ·intro r hr _;rw[Int.toNat_of_nonneg (by omega)];exact hr
   ·rw[if_neg hy];have:=dk hw (p:=p) (by omega);rcases ih (p:=cS cs p) (y:=y) (by omega) (by omega) (by omega)with⟨h1,h2⟩ | ⟨q,hq,h1,h2,h3,h4⟩
    ·left
     refine⟨h1,fun q hq=> ?_⟩;rcases(er hw (by omega) (by omega)).1 hq with rfl|hq
     ·simpa using hy
     ·exact h2 q hq
    ·right
     refine⟨q,hq,h1,(er hw (by omega) (by omega)).2 (Or.inr h2),h3,fun r hr hr'=> ?_⟩;rcases(er hw (by omega) (by omega)).1 hr with rfl|hr
     ·exact absurd hr' hy
     ·exact h4 r hr hr'
abbrev kl (c:UInt8):Int:=(c.toNat:Int)-65
theorem aR {cs:List Cls} {a b:UInt8}:bP cs a b=true↔a=b∨b.toNat=45∨(isC b=true∧a.toNat=122)∨(isC a=true∧isC b=true∧bO cs 5 (kl a) (kl b)=true):=by
 unfold bP;have e:a=b↔a.toNat=b.toNat:=UInt8.toNat_inj.symm;rw[e]
 by_cases h1:a.toNat=b.toNat∨b.toNat=45
 ·simp only[if_pos h1,true_iff];rcases h1 with h|h<;>simp[h]
 ·rw[if_neg h1];have a0:=not_or.1 h1;simp only[a0.1,a0.2,false_or]
  by_cases hb:isC b=false
  ·simp[hb]
  ·have a1:isC b=true:=by simpa using hb
   simp only[hb,if_false,a1,true_and]
   by_cases ha:a.toNat=122
   ·simp[ha]
   ·simp only[ha,if_false,false_or]
    by_cases hc:isC a=false
    ·simp[hc]
    ·have a2:isC a=true:=by simpa using hc
     simp[hc,a2]
theorem fG {cs:List Cls} (a:UInt8):bP cs a a=true:=aR.2 (Or.inl rfl)
theorem ii {cs:List Cls} (hw:WfC cs) {c:UInt8} (h:isC c=true):0≤kl c∧kl c≤3:=by
 rw[bL]at h;unfold kl;omega
theorem kt {cs:List Cls} (hw:WfC cs) {a b c:UInt8} (h:bP cs a b=true) (h':bP cs b c=true):bP cs a c=true:=by
 rw[aR]at h h';rw[aR];rcases h with rfl|h| ⟨h1,h2⟩ | ⟨h1,h2,h3⟩
 ·exact h'
 ·rcases h' with rfl|h'| ⟨h1,h2⟩ | ⟨h1,h2,h3⟩
  ·exact Or.inr (Or.inl h)
  ·exact Or.inr (Or.inl h')
  ·omega
  ·rw[bL]at h1;omega
 ·rcases h' with rfl|h'| ⟨h3,h4⟩ | ⟨h3,h4,h5⟩
  ·exact Or.inr (Or.inr (Or.inl ⟨h1,h2⟩))
  ·exact Or.inr (Or.inl h')
  ·rw[bL]at h1;omega
  ·exact Or.inr (Or.inr (Or.inl ⟨h4,h2⟩))
 ·rcases h' with rfl|h'| ⟨h4,h5⟩ | ⟨h4,h5,h6⟩
  ·exact Or.inr (Or.inr (Or.inr ⟨h1,h2,h3⟩))
  ·exact Or.inr (Or.inl h')
  ·rw[bL]at h2;omega
  ·have:=ii hw h1;exact Or.inr (Or.inr (Or.inr ⟨h1,h5,uI hw 4 (by omega) (by omega) h3 h6⟩))
theorem oY {cs:List Cls} (hw:WfC cs) {a b:UInt8} (h:bP cs a b=true) (h':bP cs b a=true):a=b:=by
 rw[aR]at h h';have e:a.toNat=b.toNat→a=b:=UInt8.toNat_inj.1;rcases h with h|h| ⟨h1,h2⟩ | ⟨h1,h2,h3⟩
 ·exact h
 ·rcases h' with h'|h'| ⟨h1,h2⟩ | ⟨h1,h2,h3⟩
  ·exact h'.symm
  ·exact e (by omega)
  ·omega
  ·rw[bL]at h1;omega
 ·rcases h' with h'|h'| ⟨h3,h4⟩ | ⟨h3,h4,h5⟩
  ·exact h'.symm
  ·omega
  ·rw[bL]at h1;omega
  ·rw[bL]at h4;omega
 ·rcases h' with h'|h'| ⟨h4,h5⟩ | ⟨h4,h5,h6⟩
  ·exact h'.symm
  ·rw[bL]at h1;omega
  ·rw[bL]at h2;omega
  ·have r1:=ii hw h1;have r2:=ii hw h2;have:=tk hw 4 (by omega) (by omega) h3;have:=tk hw 4 (by omega) (by omega) h6
   apply e
   unfold kl at*;omega
theorem tn {cs:List Cls} (hw:WfC cs) {q:Nat} (hq:q≤3):isC (UInt8.ofNat (65+q))=true∧kl (UInt8.ofNat (65+q))=q:=by
 have h:(UInt8.ofNat (65+q)).toNat=65+q:=by simp;omega
 rw[bL];unfold kl;omega
theorem lE {cs:List Cls} (hw:WfC cs) (a b:UInt8):bP cs a (ie cs a b)=true∧bP cs b (ie cs a b)=true∧ ∀c,bP cs a c=true→bP cs b c=true→bP cs (ie cs a b) c=true:=by
 unfold ie
 by_cases h1:bP cs a b=true
 ·rw[if_pos h1];exact⟨h1,fG _,fun c _ h=>h⟩
 rw[if_neg h1]
 by_cases h2:bP cs b a=true
 ·rw[if_pos h2];exact⟨fG _,h2,fun c h _=>h⟩
 rw[if_neg h2];have top: ∀x:UInt8,bP cs x 45=true:=fun x=>aR.2 (Or.inr (Or.inl rfl))
 by_cases h3:isC a=false∨isC b=false
 ·rw[if_pos h3];refine⟨top _,top _,fun c ha hb=> ?_⟩;rw[aR]at ha hb
  have hc:c.toNat=45:=by
   rcases ha with rfl|ha| ⟨p1,p2⟩ | ⟨p1,p2,p3⟩
   ·exact absurd (aR.2 hb) h2
   ·exact ha
   ·rcases hb with rfl|hb| ⟨q1,q2⟩ | ⟨q1,q2,q3⟩
    ·exact absurd (aR.2 (Or.inr (Or.inr (Or.inl ⟨p1,p2⟩)))) h1
    ·exact hb
    ·exact absurd (aR.2 (Or.inl (UInt8.toNat_inj.1 (by omega)))) h1
    ·exact absurd (aR.2 (Or.inr (Or.inr (Or.inl ⟨q1,p2⟩)))) h1
   ·rcases hb with rfl|hb| ⟨q1,q2⟩ | ⟨q1,q2,q3⟩
    ·exact absurd (aR.2 (Or.inr (Or.inr (Or.inr ⟨p1,p2,p3⟩)))) h1
    ·exact hb
    ·exact absurd (aR.2 (Or.inr (Or.inr (Or.inl ⟨p1,q2⟩)))) h2
    ·rcases h3 with h3|h3
     ·rw[h3]at p1;cases p1
     ·rw[h3]at q1;cases q1
  exact aR.2 (Or.inr (Or.inl hc))
 rw[if_neg h3];have ha:isC a=true:=by have:=not_or.1 h3;simpa using this.1
 have hb:isC b=true:=by have:=not_or.1 h3;simpa using this.2
 have r1:=ii hw ha;have r2:=ii hw hb;have hp:=dk hw (p:=kl a) r1.1
 have base: ∀c,bP cs a c=true→bP cs b c=true→c.toNat=45∨(isC c=true∧bO cs 5 (cS cs (kl a)) (kl c)=true∧bO cs 5 (kl b) (kl c)=true):=by
  intro c a1 a0;rw[aR]at a1 a0;rcases a1 with rfl|a1| ⟨p1,p2⟩ | ⟨p1,p2,p3⟩
  ·exact absurd (aR.2 a0) h2
  ·exact Or.inl a1
  ·rw[bL]at ha;omega
  ·rcases a0 with rfl|a0| ⟨q1,q2⟩ | ⟨q1,q2,q3⟩
   ·exact absurd (aR.2 (Or.inr (Or.inr (Or.inr ⟨p1,p2,p3⟩)))) h1
   ·exact Or.inl a0
   ·rw[bL]at hb;omega
   ·rcases(er hw r1.1 (by omega)).1 p3 with h|h
    ·have:a=c:=by
      apply UInt8.toNat_inj.1
      unfold kl at h;omega
     subst this;exact absurd (aR.2 (Or.inr (Or.inr (Or.inr ⟨q1,q2,q3⟩)))) h2
    ·exact Or.inr ⟨p2,h,q3⟩
 rcases tm hw (f:=5) (p:=cS cs (kl a)) (y:=kl b) (by omega) (by omega) (by omega)with⟨e,a2⟩ | ⟨q,hq,e,e1,e2,e3⟩
 ·rw[show j6 cs ((b.toNat:Int)-65) 5 (cS cs ((a.toNat:Int)-65))=45 from e];refine⟨top _,top _,fun c a1 a0=> ?_⟩;rcases base c a1 a0 with h| ⟨_,h4,h5⟩
  ·exact aR.2 (Or.inr (Or.inl h))
  ·rw[a2 _ h4]at h5;cases h5
 ·rw[show j6 cs ((b.toNat:Int)-65) 5 (cS cs ((a.toNat:Int)-65))=UInt8.ofNat (65+q)from e];obtain⟨l1,l2⟩:=tn hw hq;refine⟨?_,?_,fun c a1 a0=> ?_⟩
  ·rw[aR,l2];exact Or.inr (Or.inr (Or.inr ⟨ha,l1,(er hw r1.1 (by omega)).2 (Or.inr e1)⟩))
  ·rw[aR,l2];exact Or.inr (Or.inr (Or.inr ⟨hb,l1,e2⟩))
  ·rcases base c a1 a0 with h| ⟨h3,h4,h5⟩
   ·exact aR.2 (Or.inr (Or.inl h))
   ·rw[aR,l2];exact Or.inr (Or.inr (Or.inr ⟨l1,h3,e3 _ h4 h5⟩))
end
namespace Sp
def WfF (cs:List Cls):Prop:= ∀(j:Nat) (c:Cls),cs[j]?=some c→0≤c.par→bc cs c.par.toNat<+:c.fields
theorem kN {cs ds:List Cls} {k:Nat} (h:k<cs.length):bc (cs++ds) k=bc cs k:=by
 simp[bc,List.getElem?_append_left h]
theorem ra {s:ByteArray}: ∀{k:Nat} {cs:List Cls} {i:Nat} {r:List Cls} {j:Nat},WfC cs→WfF cs→eT s k cs i= .ok (r,j)→WfF r:=by
 intro k
 induction k with
 |zero=>
  intro cs i r j hw hf h;unfold eT at h
  split at h
  ·cases h;exact hf
  ·cases h
 |succ k ih=>
  intro cs i r j hw hf h;unfold eT at h
  split at h
  ·cases h;exact hf
  ·split at h
   ·cases h
   ·rename_i p l hp
    split at h
    ·cases h
    ·rename_i own m ho
     refine ih (pM hw hp ho) ?_ h;intro j c hj hc;rcases Nat.lt_or_ge j cs.length with hl|hl
     ·rw[List.getElem?_append_left hl]at hj;have h1:=hw j c hj;rw[kN (by omega)];exact hf j c hj hc
     ·rw[List.getElem?_append_right hl]at hj
      cases hk:j-cs.length with
      |succ q=>rw[hk]at hj;simp at hj
      |zero=>
       rw[hk]at hj;simp at hj;subst hj;simp only at hc⊢;have h1:=(pL hp).2
       have h2:p.toNat<cs.length:=by
        rcases h1 with h1| ⟨_,h1,h2⟩
        ·omega
        ·simp[aO]at h1;omega
       rw[kN h2,inh,if_neg (by omega)];exact List.prefix_append _ _
theorem kO {cs:List Cls} (hw:WfC cs) (hf:WfF cs): ∀(k:Nat) {x y:Int},x≤k→k≤4→x<cs.length→bO cs 5 x y=true→bc cs y.toNat<+:bc cs x.toNat:=by
 intro k
 induction k with
 |zero=>
  intro x y hx hk hl h;have:=tk hw 0 hx hk h;have:x=y:=by omega
  subst this;exact List.prefix_refl _
 |succ k ih=>
  intro x y hx hk hl h;have h0:=tk hw (k+1) hx hk h;rcases(er hw (by omega) (by omega)).1 h with h1|h1
  ·subst h1;exact List.prefix_refl _
  ·have hp:=dk hw (p:=x) (by omega)
   have a0:0≤cS cs x:=by
    rcases Int.lt_or_le (cS cs x) 0 with h'|h'
    ·rw[jm hw h']at h1;cases h1
    ·exact h'
   refine(ih (by omega) (by omega) (by omega) h1).trans ?_;obtain⟨c,hc⟩: ∃c,cs[x.toNat]?=some c:=⟨_,List.getElem?_eq_getElem (by omega)⟩;have e1:cS cs x=c.par:=by simp[cS,hc]
   have e2:bc cs x.toNat=c.fields:=by simp[bc,hc]
   rw[e1,e2];exact hf _ _ hc (by omega)
def WfL (gs:List Sig) (b:Bod):Prop:=0≤b.cls→ ∃t,b.locals=UInt8.ofNat (65+b.cls.toNat)::gU gs b.meth.toNat::t
theorem xz {s:ByteArray} {cs:List Cls} {gs:List Sig}: ∀{k:Nat} {bs:List Bod} {i:Nat} {r:List Bod} {j:Nat},(∀b∈bs,WfL gs b∧0≤b.cls)→jV s cs gs k bs i= .ok (r,j)→ ∀b∈r,WfL gs b∧0≤b.cls:=by
 intro k
 induction k with
 |zero=>
  intro bs i r j hw h;unfold jV at h
  split at h
  ·cases h;exact hw
  ·cases h
 |succ k ih=>
  intro bs i r j hw h;unfold jV at h
  split at h
  ·cases h;exact hw
  ·split at h
   ·cases h
   ·split at h
    ·cases h
    ·split at h
     ·cases h
     ·split at h
      ·cases h
      ·split at h
       ·cases h
       ·refine ih (fun b hb=> ?_) h;rcases List.mem_append.1 hb with hb|hb
        ·exact hw b hb
        ·rw[List.mem_singleton]at hb;subst hb;exact⟨fun _=>⟨_,rfl⟩,by simp⟩
structure WfE (im:Img):Prop where
 fld:WfF im.classes
 loc: ∀b∈im.bodies,WfL im.sigs b
 main: ∃bs m,im.bodies=bs++ [m]∧m.cls= -1∧ ∀b∈bs,0≤b.cls
theorem vh {s:ByteArray} {im:Img} (h:gv s= .ok im):WfE im:=by
 unfold gv at h
 split at h
 ·cases h
 ·rename_i cs l1 h1
  split at h
  ·cases h
  ·rename_i gs l2 h2
   split at h
   ·cases h
   ·rename_i bs l3 h3
    split at h
    ·cases h
    ·rename_i t l4 h4
     split at h
     ·cases h
     ·rename_i is l5 h5
      split at h
      ·cases h
      ·cases h
       have hb:=xz (fun b hb=>by simp at hb) h3;refine⟨ra (fun j c h=>by simp at h) (fun j c h=>by simp at h) h1,fun b a0=> ?_,⟨bs,_,rfl,rfl,fun b hb'=>(hb b hb').2⟩⟩;simp at a0;rcases a0 with a0|rfl
       ·exact(hb b a0).1
       ·exact fun h=>absurd h (by simp)
theorem vj {s:ByteArray} {im:Img} (h:dR s= .ok im):WfE im∧(∀b∈im.bodies,∀x∈b.code,x.op.toNat=99→0≤cE im.classes im.bodies x.b 5 x.a):=by
 unfold dR at h
 split at h
 ·cases h
 ·split at h
  ·cases h
  ·rename_i im' hr
   split at h
   ·cases h
   ·rename_i hn
    cases h
    refine⟨vh hr,fun b hb x hx ho=> ?_⟩;rw[List.findSome?_eq_none_iff]at hn;have h1:=hn b hb;unfold unl at h1;rw[Option.map_eq_none_iff,List.find?_eq_none]at h1;have h2:=h1 x hx;simp[km,ho]at h2;exact h2
end Sp
end Go.Proofs.YtpfkkmacakjmbaaGreatDoor
