import Derived.Test.YtpfkkmacakjmbaaGreatDoorP01
import Derived.Laws.StructEq
import Derived.Laws.MakeOwn
set_option maxRecDepth 100000
set_option maxHeartbeats 6400000
set_option linter.unusedSimpArgs false
set_option linter.unusedVariables false
namespace Go.Proofs.YtpfkkmacakjmbaaGreatDoor
section
open Go Go.RowKit Sp
theorem blen (s:ByteArray):s.data.toList.length=s.size:=Array.length_toList
end
section
open Go Go.RowKit Sp
attribute [local go_sem ↓] Go.wp_at_zero Go.wp_at_succ
theorem Ac (l:List UInt8) (k:Nat) (h:k<l.length):l.getD k 0=l[k]:=by simp[List.getD,h]
def eh (im:Img):Nat→List Bod→Except Nat (List (List St))
 |_,[]=> .ok []
 |i,b::bs=>
  match db im b with
  |none=> .error i
  |some t=>
   match eh im (i+1) bs with
   | .error e=> .error e
   | .ok ts=> .ok (t::ts)
theorem wg {im:Img}: ∀{bs:List Bod} {i k:Nat} {ts:List (List St)} {b:Bod},(bs.take k).map (db im)=ts.map some→bs[k]?=some b→db im b=none→eh im i bs= .error (i+k):=by
 intro bs
 induction bs with
 |nil=>intro i k ts b _ h;simp at h
 |cons x bs ih=>
  intro i k ts b h1 h2 h3
  cases k with
  |zero=>simp at h2;subst h2;simp[eh,h3]
  |succ k=>
   cases ts with
   |nil=>simp at h1
   |cons t ts=>
    simp at h1 h2;have:=ih (i:=i+1) (k:=k) (by rw[List.map_take];exact h1.2) h2 h3;simp only[eh,h1.1,this]
    congr 1
    omega
theorem yp {im:Img}: ∀{bs:List Bod} {i:Nat} {ts:List (List St)},bs.map (db im)=ts.map some→eh im i bs= .ok ts:=by
 intro bs
 induction bs with
 |nil=>intro i ts h;simp at h;subst h;rfl
 |cons x bs ih=>
  intro i ts h
  cases ts with
  |nil=>simp at h
  |cons t ts=>
   simp at h;simp only[eh,h.1,ih (i:=i+1) h.2]
def qn:St→List UInt8
 |none=> [63,44]
 |some (s,l)=>s++ [124]++l++ [44]
def di (t:List St):List UInt8:=t.flatMap qn++ [59]
def nE (t:List St):Prop:=t.length≤100∧ ∀(k:Nat) s l,t[k]?=some (some (s,l))→s.length≤100∧l.length≤5
theorem wfT.short {nc nl n:Nat} {t:List St} (h:wfT nc nl n t) (hn:n≤100) (hl:nl≤5):nE t:=
 ⟨by rw[h.1];exact hn,fun k s l hk=>by have:=h.okS hn k s l hk;exact⟨this.2.2.2,by rw[this.2.2.1];exact hl⟩⟩
def kH (s:ByteArray):Nat×Nat:=
 match ee s with
 | .error e=>e
 | .ok im=>
  match eh im 0 im.bodies with
  | .error k=>(4,k)
  | .ok _=>(0,0)
def qo (s:ByteArray):List UInt8×Nat:=
 match ee s with
 | .error e=>([],e.1)
 | .ok im=>
  match eh im 0 im.bodies with
  | .error _=>([],4)
  | .ok ts=>(ts.flatMap di,0)
theorem wh {s:ByteArray} {e p:Nat} (h:ee s= .error (e,p)):1≤e∧e≤3:=by
 unfold ee at h
 split at h
 ·cases h;omega
 split at h
 ·cases h;omega
 ·split at h
  ·cases h;omega
  ·cases h
theorem wi {im:Img}: ∀{bs:List Bod} {i:Nat} {ts:List (List St)},eh im i bs= .ok ts→ts.length=bs.length∧ ∀t∈ts,∃b∈bs,db im b=some t:=by
 intro bs
 induction bs with
 |nil=>intro i ts h;simp[eh]at h;subst h;simp
 |cons b bs ih=>
  intro i ts h;simp only[eh]at h
  split at h
  ·cases h
  ·rename_i t ht
   split at h
   ·cases h
   ·rename_i ts' hts
    injection h with h;subst h;have:=ih hts;refine⟨by simp[this.1],?_⟩;intro x hx;simp only[List.mem_cons]at hx;rcases hx with rfl|hx
    ·exact⟨b,by simp,ht⟩
    ·obtain⟨b',h1,h2⟩:=this.2 x hx;exact⟨b',by simp[h1],h2⟩
theorem Ad {α:Type} {f:α→List UInt8} {m:Nat}: ∀{t:List α},(∀o∈t,(f o).length≤m)→(t.flatMap f).length≤m*t.length:=by
 intro t
 induction t with
 |nil=>intro _;simp
 |cons x t ih=>
  intro h;have h1:=h x (by simp);have h2:=ih (fun o ho=>h o (by simp[ho]));simp only[List.flatMap_cons,List.length_append,List.length_cons,Nat.mul_add];omega
theorem qp {t:List St} (h:nE t):(di t).length≤20001:=by
 have:(t.flatMap qn).length≤200*t.length:=by
  apply Ad
  intro o ho;obtain⟨k,hk⟩:=List.mem_iff_getElem?.1 ho
  cases o with
  |none=>simp[qn]
  |some p=>
   obtain⟨s,l⟩:=p;have:=h.2 k s l hk;simp[qn];omega
 have h1:=h.1;simp only[di,List.length_append,List.length_singleton];omega
theorem jC {w:World} {base e size g n cap:Nat} {xs:List Value} (h:w.ownsRow base e size (.slice (some ⟨g,0,none⟩) n cap) n xs) (k:Nat) (v:Value):(w.setCell ⟨g,k,none⟩ v).ownsRow base e size (.slice (some ⟨g,0,none⟩) n cap) n (xs.set k v):=by
 rcases h.2 with⟨h1,_⟩ | ⟨g',cap',cur,h1,h2,h3,h4,h5,h6,h7⟩
 ·cases h1
 ·have e1:cap=cap':=congrArg (fun v=>match v with|Value.slice _ _ c=>c|_=>0) h1;have e2:g=g':=congrArg (fun v=>match v with|Value.slice (some a) _ _=>a.block|_=>0) h1;subst e1 e2;refine⟨by rw[List.length_set];exact h.1,Or.inr ⟨g,cap,cur.setIfInBounds k v,rfl,h2,heap_setCell_same w g k _ _ _ h3,h4,h5,by simpa using h6,?_⟩⟩;rw[Array.toList_setIfInBounds,List.take_set,h7]
theorem kZ {w:World} {base e size g n cap:Nat} {xs:List Value} (h:w.ownsRow base e size (.slice (some ⟨g,0,none⟩) n cap) n xs) (j:Nat):w.frozen? ⟨g,j,none⟩=false:=by
 rcases h.2 with⟨h1,_⟩ | ⟨g',cap',cur,h1,h2,h3,_⟩
 ·cases h1
 ·have e2:g=g':=congrArg (fun v=>match v with|Value.slice (some a) _ _=>a.block|_=>0) h1;subst e2;exact frozen_of_row w g j _ _ h3
theorem tW: ∀{u:List Ins} {a m:Nat},full (a+m) u→ ∃p q,u=p++q∧full a p∧full m q:=by
 intro u
 induction u with
 |nil=>
  intro a m h
  cases a with
  |zero=>exact⟨[],[],rfl,trivial,by simpa using h⟩
  |succ a=>rw[show a+1+m=(a+m)+1 from by omega]at h;cases h
 |cons x u ih=>
  intro a m h
  cases a with
  |zero=>exact⟨[],x::u,rfl,trivial,by simpa using h⟩
  |succ a=>
   rw[show a+1+m=(a+m)+1 from by omega]at h;have h':full ((a+az x.op)+m) u:=by rw[show a+az x.op+m=a+m+az x.op from by omega];exact h
   obtain⟨p,q,h1,h2,h3⟩:=ih h';exact⟨x::p,q,by rw[h1];rfl,h2,h3⟩
section
variable (b:Nat) (s:ByteArray) (src:Bool) (bi:Nat) (vc:Value)
end
theorem wj {u:List Ins} {m:Nat} (h:full (1+m) u):full m (u.drop (sk 1 u)):=by
 obtain⟨p,q,h1,h2,h3⟩:=tW h;subst h1;rw[vm h2,List.drop_left];exact h3
theorem rR {u:List Ins} {m:Nat} (h:full (m+1) u):0<u.length:=by
 cases u with
 |nil=>cases h
 |cons x u=>simp
theorem jD {n:Nat} {c:UInt8} (h:cG n c=true):okT n c=true:=by simp[okT,h]
theorem rS {n:Nat}:okT n 105=true:=by simp[okT,cG]
theorem qq {n a:Nat} (h:a<n) (hn:n≤4):okT n (cL a)=true:=jD (by unfold cL;exact mZ h hn)
theorem rT {im:Img} (hW:gH im) {bd:Bod} (hbd:ki im.classes im.sigs bd) {x:Ins} (hx:WfN im.classes im.sigs.length bd.locals.length x):okT im.classes.length (bE im.classes im.sigs bd.locals x)=true:=by
 unfold bE
 split
 ·simp[okT]
 split
 ·rename_i h
  have hb:=hx.loc (Or.inl h)
  apply jD
  rw[List.getD_eq_getElem?_getD,List.getElem?_eq_getElem hb];exact hbd.loc.2 _ (List.getElem_mem hb)
 split
 ·rename_i h
  exact qq (hx.cls (by omega)) hW.nc
 split
 ·rename_i h
  have ha:=hx.cls (by omega);have hb:=hx.fld (by omega)
  apply jD
  have a0:=List.getElem?_eq_getElem ha;unfold cF at hb;unfold cA;rw[a0]at hb⊢;simp at hb⊢;rw[List.getElem?_eq_getElem hb];exact ez (by omega) ((hW.cls _ _ a0).2.2.2 _ (List.getElem_mem hb))
 split
 ·rename_i h
  have hb:=hx.sig h
  apply jD
  unfold fm;rw[List.getElem?_eq_getElem hb];exact(hW.sig _ (List.getElem_mem hb)).2
 ·exact rS
theorem yq {im:Img} (hW:gH im) {bd:Bod} (hbd:ki im.classes im.sigs bd) {x:Ins} (hx:WfN im.classes im.sigs.length bd.locals.length x) {ts:List UInt8} (hl:ts.length=az x.op) (hts: ∀c∈ts,okT im.classes.length c=true) {c:UInt8} (h:br im.classes im.sigs bd.locals x ts=some c):okT im.classes.length c=true:=by
 have hg: ∀k,k<ts.length→okT im.classes.length (ts.getD k 0)=true:=fun k hk=>by
  rw[List.getD_eq_getElem?_getD,List.getElem?_eq_getElem hk];exact hts _ (List.getElem_mem hk)
 unfold br at h
 split at h
 ·cases h
 split at h
 ·split at h
  ·cases h;exact rS
  ·cases h
 split at h
 ·rename_i h120
  split at h
  ·cases h;exact qq (hx.cls (by omega)) hW.nc
  ·cases h
 split at h
 ·rename_i h44
  cases h
  exact hg 1 (by rw[hl];unfold az;rw[if_neg (by omega),h44];decide)
 split at h
 ·rename_i h105
  split at h
  ·cases h
   have h3:ts.length=3:=by rw[hl];unfold az;rw[if_pos h105]
   exact rp hW.nc hW.cls (hg 1 (by omega)) (hg 2 (by omega))
  ·cases h
 split at h
 ·split at h
  ·cases h;exact rS
  ·cases h
 ·cases h
  exact rT hW hbd hx
theorem tX {t:List Ins} {g:Nat→Option UInt8}: ∀{n k:Nat} {ts:List UInt8},bQ t g n k=some ts→ts.length=n:=by
 intro n
 induction n with
 |zero=>intro k ts h;cases h;rfl
 |succ n ih=>
  intro k ts h;unfold bQ at h
  split at h
  ·cases h
  ·rename_i c hc
   cases hp:bQ t g n (bu t k)with
   |none=>rw[hp]at h;cases h
   |some us=>rw[hp]at h;simp at h;subst h;simp[ih hp]
theorem vq {im:Img} (hW:gH im) {bd:Bod} (hbd:ki im.classes im.sigs bd): ∀{f i:Nat} {c:UInt8},bY im.classes im.sigs bd.locals bd.code f i=some c→okT im.classes.length c=true:=by
 intro f
 induction f with
 |zero=>intro i c h;cases h
 |succ f ih=>
  have hp: ∀{n k:Nat} {ts:List UInt8},bQ bd.code (bY im.classes im.sigs bd.locals bd.code f) n k=some ts→ ∀c∈ts,okT im.classes.length c=true:=by
   intro n
   induction n with
   |zero=>intro k ts h;cases h;simp
   |succ n ihn=>
    intro k ts h;unfold bQ at h
    split at h
    ·cases h
    ·rename_i c hc
     cases hp:bQ bd.code (bY im.classes im.sigs bd.locals bd.code f) n (bu bd.code k)with
     |none=>rw[hp]at h;cases h
     |some us=>
      rw[hp]at h;simp at h;subst h;intro d hd;rcases List.mem_cons.1 hd with rfl|hd
      ·exact ih hc
      ·exact ihn hp d hd
  intro i c h;unfold bY at h
  split at h
  ·cases h
  ·rename_i x hx
   split at h
   ·cases h
   ·rename_i ts hts
    exact yq hW hbd (hbd.code x (List.mem_of_getElem? hx)) (tX hts) (hp hts) h
theorem iQ {s:ByteArray} {e p:Nat} (h:dZ s= .error (e,p)):0<e∧e≤3:=by
 unfold dZ at h
 split at h
 ·cases h;omega
 ·split at h
  ·cases h;omega
  ·split at h
   ·cases h;omega
   ·cases h
end
end Go.Proofs.YtpfkkmacakjmbaaGreatDoor
