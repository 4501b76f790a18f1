import Derived.Test.YtpfkkmacakjmbaaGreatDoorP03
import Derived.Test.YtpfkkmacakjmbaaGreatDoorP10
set_option maxRecDepth 100000
set_option maxHeartbeats 6400000
set_option linter.unusedSimpArgs false
set_option linter.unusedVariables false
namespace Go.Proofs.YtpfkkmacakjmbaaGreatDoor
section
open Go Go.RowKit Sp
attribute [local go_sem ↓] Go.wp_at_zero Go.wp_at_succ
theorem iY {w:World} {base e size g n cap:Nat} {xs:List Value} (h:w.ownsRow base e size (.slice (some ⟨g,0,none⟩) n cap) n xs) (k:Nat) (v:Value):(w.setCell ⟨g,k,none⟩ v).ownsRow base e size (.slice (some ⟨g,0,none⟩) n cap) n (xs.set k v):=by
 rcases h.2 with⟨h1,_⟩ | ⟨g',cap',cur,h1,h2,h3,h4,h5,h6,h7⟩
 ·cases h1
 ·have e1:cap=cap':=congrArg (fun v=>match v with|Value.slice _ _ c=>c|_=>0) h1;have e2:g=g':=congrArg (fun v=>match v with|Value.slice (some a) _ _=>a.block|_=>0) h1;subst e1 e2;refine⟨by rw[List.length_set];exact h.1,Or.inr ⟨g,cap,cur.setIfInBounds k v,rfl,h2,heap_setCell_same w g k _ _ _ h3,h4,h5,by simpa using h6,?_⟩⟩;rw[Array.toList_setIfInBounds,List.take_set,h7]
theorem kr {w:World} {base e size g n cap:Nat} {xs:List Value} (h:w.ownsRow base e size (.slice (some ⟨g,0,none⟩) n cap) n xs) (j:Nat):w.frozen? ⟨g,j,none⟩=false:=by
 rcases h.2 with⟨h1,_⟩ | ⟨g',cap',cur,h1,h2,h3,_⟩
 ·cases h1
 ·have e2:g=g':=congrArg (fun v=>match v with|Value.slice (some a) _ _=>a.block|_=>0) h1;subst e2;exact frozen_of_row w g j _ _ h3
theorem sR: ∀{u:List Ins} {a m:Nat},full (a+m) u→ ∃p q,u=p++q∧full a p∧full m q:=by
 intro u
 induction u with
 |nil=>
  intro a m h
  cases a with
  |zero=>exact⟨[],[],rfl,trivial,by simpa using h⟩
  |succ a=>rw[show a+1+m=(a+m)+1 from by omega]at h;cases h
 |cons x u ih=>
  intro a m h
  cases a with
  |zero=>exact⟨[],x::u,rfl,trivial,by simpa using h⟩
  |succ a=>
   rw[show a+1+m=(a+m)+1 from by omega]at h;have h':full ((a+aw x.op)+m) u:=by rw[show a+aw x.op+m=a+m+aw x.op from by omega];exact h
   obtain⟨p,q,h1,h2,h3⟩:=ih h';exact⟨x::p,q,by rw[h1];rfl,h2,h3⟩
section
variable (b:Nat) (s:ByteArray) (src:Bool) (bi:Nat) (vc:Value)
end
theorem uS {u:List Ins} {m:Nat} (h:full (1+m) u):full m (u.drop (sk 1 u)):=by
 obtain⟨p,q,h1,h2,h3⟩:=sR h;subst h1;rw[t7 h2,List.drop_left];exact h3
theorem re {u:List Ins} {m:Nat} (h:full (m+1) u):0<u.length:=by
 cases u with
 |nil=>cases h
 |cons x u=>simp
theorem iZ {n:Nat} {c:UInt8} (h:ce n c=true):okT n c=true:=by simp[okT,h]
theorem rf {n:Nat}:okT n 105=true:=by simp[okT,ce]
theorem py {n a:Nat} (h:a<n) (hn:n≤4):okT n (b8 a)=true:=iZ (by unfold b8;exact mh h hn)
theorem rg {im:Img} (hW:gR im) {bd:Bod} (hbd:jy im.classes im.sigs bd) {x:Ins} (hx:WfN im.classes im.sigs.length bd.locals.length x):okT im.classes.length (bD im.classes im.sigs bd.locals x)=true:=by
 unfold bD
 split
 ·simp[okT]
 split
 ·rename_i h
  have hb:=hx.loc (Or.inl h)
  apply iZ
  rw[List.getD_eq_getElem?_getD,List.getElem?_eq_getElem hb];exact hbd.loc.2 _ (List.getElem_mem hb)
 split
 ·rename_i h
  exact py (hx.cls (by omega)) hW.nc
 split
 ·rename_i h
  have ha:=hx.cls (by omega);have hb:=hx.fld (by omega)
  apply iZ
  have a0:=List.getElem?_eq_getElem ha;unfold bU at hb;unfold bT;rw[a0]at hb⊢;simp at hb⊢;rw[List.getElem?_eq_getElem hb];exact eH (by omega) ((hW.cls _ _ a0).2.2.2 _ (List.getElem_mem hb))
 split
 ·rename_i h
  have hb:=hx.sig h
  apply iZ
  unfold dR;rw[List.getElem?_eq_getElem hb];exact(hW.sig _ (List.getElem_mem hb)).2
 ·exact rf
theorem xu {im:Img} (hW:gR im) {bd:Bod} (hbd:jy im.classes im.sigs bd) {x:Ins} (hx:WfN im.classes im.sigs.length bd.locals.length x) {ts:List UInt8} (hl:ts.length=aw x.op) (hts: ∀c∈ts,okT im.classes.length c=true) {c:UInt8} (h:bk im.classes im.sigs bd.locals x ts=some c):okT im.classes.length c=true:=by
 have hg: ∀k,k<ts.length→okT im.classes.length (ts.getD k 0)=true:=fun k hk=>by
  rw[List.getD_eq_getElem?_getD,List.getElem?_eq_getElem hk];exact hts _ (List.getElem_mem hk)
 unfold bk at h
 split at h
 ·cases h
 split at h
 ·split at h
  ·cases h;exact rf
  ·cases h
 split at h
 ·rename_i h120
  split at h
  ·cases h;exact py (hx.cls (by omega)) hW.nc
  ·cases h
 split at h
 ·rename_i h44
  cases h
  exact hg 1 (by rw[hl];unfold aw;rw[if_neg (by omega),h44];decide)
 split at h
 ·rename_i h105
  split at h
  ·cases h
   have h3:ts.length=3:=by rw[hl];unfold aw;rw[if_pos h105]
   exact qu hW.nc hW.cls (hg 1 (by omega)) (hg 2 (by omega))
  ·cases h
 split at h
 ·split at h
  ·cases h;exact rf
  ·cases h
 ·cases h
  exact rg hW hbd hx
theorem sS {t:List Ins} {g:Nat→Option UInt8}: ∀{n k:Nat} {ts:List UInt8},bF t g n k=some ts→ts.length=n:=by
 intro n
 induction n with
 |zero=>intro k ts h;cases h;rfl
 |succ n ih=>
  intro k ts h;unfold bF at h
  split at h
  ·cases h
  ·rename_i c hc
   cases hp:bF t g n (bg t k)with
   |none=>rw[hp]at h;cases h
   |some us=>rw[hp]at h;simp at h;subst h;simp[ih hp]
theorem uc {im:Img} (hW:gR im) {bd:Bod} (hbd:jy im.classes im.sigs bd): ∀{f i:Nat} {c:UInt8},bS im.classes im.sigs bd.locals bd.code f i=some c→okT im.classes.length c=true:=by
 intro f
 induction f with
 |zero=>intro i c h;cases h
 |succ f ih=>
  have hp: ∀{n k:Nat} {ts:List UInt8},bF bd.code (bS im.classes im.sigs bd.locals bd.code f) n k=some ts→ ∀c∈ts,okT im.classes.length c=true:=by
   intro n
   induction n with
   |zero=>intro k ts h;cases h;simp
   |succ n ihn=>
    intro k ts h;unfold bF at h
    split at h
    ·cases h
    ·rename_i c hc
     cases hp:bF bd.code (bS im.classes im.sigs bd.locals bd.code f) n (bg bd.code k)with
     |none=>rw[hp]at h;cases h
     |some us=>
      rw[hp]at h;simp at h;subst h;intro d hd;rcases List.mem_cons.1 hd with rfl|hd
      ·exact ih hc
      ·exact ihn hp d hd
  intro i c h;unfold bS at h
  split at h
  ·cases h
  ·rename_i x hx
   split at h
   ·cases h
   ·rename_i ts hts
    exact xu hW hbd (hbd.code x (List.mem_of_getElem? hx)) (sS hts) (hp hts) h
theorem pz {s:ByteArray} {e p:Nat} (h:ep s= .error (e,p)):0<e∧e≤3:=by
 unfold ep at h
 split at h
 ·cases h;omega
 ·split at h
  ·cases h;omega
  ·split at h
   ·cases h;omega
   ·cases h
end
end Go.Proofs.YtpfkkmacakjmbaaGreatDoor
