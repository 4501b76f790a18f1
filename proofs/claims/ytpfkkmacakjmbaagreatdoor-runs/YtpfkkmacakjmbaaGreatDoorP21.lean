import Derived.Test.YtpfkkmacakjmbaaGreatDoorP13
import Derived.Lib.ItoaLen
set_option maxRecDepth 100000
set_option maxHeartbeats 6400000
set_option linter.unusedSimpArgs false
set_option linter.unusedVariables false
namespace Go.Proofs.YtpfkkmacakjmbaaGreatDoor
namespace Sp
def VT (cs:List Cls) (hp:List Ob) (t:UInt8):V→Prop
 | .i n=>t.toNat=105∧ -2147483648≤n∧n<2147483648
 | .z=>isR t=true
 | .o k=>isC t=true∧ ∃ob,hp[k]?=some ob∧bk cs 5 ob.cls ((t.toNat:Int)-65)=true
structure HT (cs:List Cls) (hp:List Ob):Prop where
 cls: ∀(k:Nat) ob,hp[k]?=some ob→ob.cls<cs.length
 len: ∀(k:Nat) ob,hp[k]?=some ob→ob.fs.length=(bz cs ob.cls).length
 fs: ∀(k:Nat) ob (j:Nat) v,hp[k]?=some ob→ob.fs[j]?=some v→VT cs hp ((bz cs ob.cls).getD j 0) v
def Ext (hp hp':List Ob):Prop:=hp.length≤hp'.length∧ ∀(k:Nat) ob,hp[k]?=some ob→ ∃ob',hp'[k]?=some ob'∧ob'.cls=ob.cls
theorem Ext.refl (hp:List Ob):Ext hp hp:=⟨Nat.le_refl _,fun _ ob h=>⟨ob,h,rfl⟩⟩
theorem VT.ext {cs:List Cls} {hp hp':List Ob} {t:UInt8} {v:V} (h:VT cs hp t v) (he:Ext hp hp'):VT cs hp' t v:=by
 cases v with
 |i n=>exact h
 |z=>exact h
 |o k=>
  obtain⟨h1,ob,h2,h3⟩:=h;obtain⟨ob',h4,h5⟩:=he.2 k ob h2;exact⟨h1,ob',h4,by rw[h5];exact h3⟩
theorem bE {c:UInt8} (h:isC c=true):isR c=true:=by simp[isR,h]
theorem VT.sub {cs:List Cls} {hp:List Ob} (hw:WfC cs) (hn:cs.length≤4) (hh:HT cs hp) {t t':UInt8} {v:V} (h:VT cs hp t v) (hs:bR cs t t'=true) (h45:t'.toNat≠45):VT cs hp t' v:=by
 rcases aO.1 hs with h1|h1| ⟨h1,h2⟩ | ⟨h1,h2,h3⟩
 ·subst h1;exact h
 ·exact absurd h1 h45
 ·cases v with
  |i n=>exact absurd h.1 (by omega)
  |z=>exact bE h1
  |o k=>have:=bI.1 h.1;omega
 ·cases v with
  |i n=>have:=bI.1 h1;have:=h.1;omega
  |z=>exact bE h2
  |o k=>
   obtain⟨_,ob,h5,h6⟩:=h;have:=hh.cls k ob h5;exact⟨h2,ob,h5,tJ hw 4 (by omega) (by omega) h6 h3⟩
theorem VT.int {cs:List Cls} {hp:List Ob} {t:UInt8} {v:V} (h:VT cs hp t v) (ht:t.toNat=105): ∃n,v= .i n∧ -2147483648≤n∧n<2147483648:=by
 cases v with
 |i n=>exact⟨n,rfl,h.2⟩
 |z=>have h:isR t=true:=h;simp[isR,isC,ht]at h
 |o k=>have:=bI.1 h.1;omega
theorem VT.ref {cs:List Cls} {hp:List Ob} {t:UInt8} {v:V} (h:VT cs hp t v) (ht:isR t=true):v= .z∨ ∃k ob,v= .o k∧hp[k]?=some ob∧isC t=true∧bk cs 5 ob.cls ((t.toNat:Int)-65)=true:=by
 cases v with
 |i n=>have:=h.1;simp[isR,isC,this]at ht
 |z=>exact Or.inl rfl
 |o k=>obtain⟨h1,ob,h2,h3⟩:=h;exact Or.inr ⟨k,ob,rfl,h2,h1,h3⟩
theorem s6 {n:Nat} (hn:n≤4) {c:UInt8} (h:cA n c=true):c.toNat=105∨isC c=true:=by
 simp[cA,aH]at h;rcases h with h|h
 ·exact Or.inl h
 ·exact Or.inr (bI.2 (by omega))
theorem kY {n:Nat} {c:UInt8} (h:cA n c=true):c.toNat≠45:=by
 simp[cA,aH]at h;omega
theorem nz {cs:List Cls} {hp:List Ob} {n:Nat} (hn:n≤4) {c:UInt8} (h:cA n c=true):VT cs hp c (bN c):=by
 unfold bN;rcases s6 hn h with h1|h1
 ·rw[if_pos h1];exact⟨h1,by omega,by omega⟩
 ·rw[if_neg (by have:=bI.1 h1;omega)];exact bE h1
theorem fP {a:Nat} (h:a<4):isC (dg a)=true∧((dg a).toNat:Int)-65=a:=by
 match a,h with
 |0,_=>exact⟨by decide,by decide⟩
 |1,_=>exact⟨by decide,by decide⟩
 |2,_=>exact⟨by decide,by decide⟩
 |3,_=>exact⟨by decide,by decide⟩
theorem o7 (n:Int): -2147483648≤w32 n∧w32 n<2147483648:=by
 unfold w32 RowKit.wrap32;omega
theorem s7 (op:Nat) (a b:Int): -2147483648≤mw op a b∧mw op a b<2147483648:=by
 unfold mw
 repeat' split
 all_goals first|exact o7 _|omega
theorem rt (s:ByteArray) (i:Nat): -2147483648≤eR s i∧eR s i<2147483648:=by
 unfold eR
 split
 ·rename_i h;have:=s[i].toNat_lt;omega
 ·omega
theorem uJ {bs:List Bod} {x m:Int} (h:0≤fe bs x m): ∃b,bs[(fe bs x m).toNat]?=some b∧b.cls=x∧b.meth=m:=by
 unfold fe at*
 cases ho:iK bs x m with
 |none=>rw[ho]at h;simp at h
 |some j=>
  simp;unfold iK at ho;rw[List.findIdx?_eq_some_iff_getElem]at ho;obtain⟨hj,h1,_⟩:=ho;simp at h1;exact⟨bs[j],List.getElem?_eq_getElem hj,h1.1,h1.2⟩
theorem s8 {cs:List Cls} {bs:List Bod} {m:Int}: ∀{f:Nat} {x:Int},0≤cd cs bs m f x→ ∃b,bs[(cd cs bs m f x).toNat]?=some b∧b.meth=m∧bk cs f x b.cls=true∧0≤b.cls:=by
 intro f
 induction f with
 |zero=>intro x h;simp[cd]at h
 |succ f ih=>
  intro x h;simp only[cd]at h⊢
  by_cases hx:x<0
  ·rw[if_pos hx]at h;simp at h
  ·rw[if_neg hx]at h⊢
   by_cases ho:0≤fe bs x m
   ·rw[if_pos ho];obtain⟨b,h1,h2,h3⟩:=uJ ho;exact⟨b,h1,h3,by simp[bk,hx,h2],by omega⟩
   ·rw[if_neg ho]at h⊢;obtain⟨b,h1,h2,h3,h4⟩:=ih h;refine⟨b,h1,h2,?_,h4⟩;simp only[bk];rw[if_neg hx]
    split
    ·rfl
    ·exact h3
theorem ta {cs:List Cls} {bs:List Bod} {m:Int} (hw:WfC cs): ∀{f:Nat} {x:Int},x<f→cd cs bs m f x=cd cs bs m (f+1) x:=by
 intro f
 induction f with
 |zero=>intro x hx;simp[cd];intro h;omega
 |succ f ih=>
  intro x hx;rw[cd]
  conv=>rhs;rw[cd]
  split
  ·rfl
  ·split
   ·rfl
   ·exact ih (by have:=dh hw (p:=x) (by omega);omega)
theorem jB {cs:List Cls} {bs:List Bod} {m:Int} (hw:WfC cs): ∀(k:Nat) {x y:Int},x≤k→k≤4→bk cs 5 x y=true→0≤cd cs bs m 5 y→0≤cd cs bs m 5 x:=by
 intro k
 induction k with
 |zero=>
  intro x y hx hk h hf;have:=sA hw 0 hx hk h;have:x=y:=by omega
  subst this;exact hf
 |succ k ih=>
  intro x y hx hk h hf;have h0:=sA hw (k+1) hx hk h;rcases(eC hw (by omega) (by omega)).1 h with h1|h1
  ·subst h1;exact hf
  ·have hp:=dh hw (p:=x) (by omega);have h2:=ih (x:=bZ cs x) (by omega) (by omega) h1 hf;rw[cd];rw[if_neg (by omega)]
   split
   ·assumption
   ·rw[ta hw (by omega)];exact h2
variable {B:Nat}
theorem lL {cs:List Cls} {a k:Nat}:da cs a k=(bz cs a).getD k 0:=rfl
theorem Ev.at {s:Ev} {k:Nat} {ob:Ob} (h:s.heap[k]?=some ob):s.cls k=ob.cls∧s.fs k=ob.fs:=by simp[Ev.cls,Ev.fs,h]
end Sp
end Go.Proofs.YtpfkkmacakjmbaaGreatDoor
