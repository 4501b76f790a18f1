import Derived.Test.YtpfkkmacakjmbaaGreatDoorP01
import Derived.Laws.StructEq
import Derived.Laws.MakeOwn
set_option maxRecDepth 100000
set_option maxHeartbeats 6400000
set_option linter.all false
namespace Go.Proofs.YtpfkkmacakjmbaaGreatDoor
section
open Go Go.RowKit Sp
theorem blen (s:ByteArray):s.data.toList.length=s.size:=Array.length_toList
end
section
open Go Go.RowKit Sp
attribute [local go_sem ↓] eF eG
theorem C6 (l:L_) (k:Nat) (h:k<l.length):l.getD k 0=l[k]:=by simp[List.getD,h]
def eR (im:Img):Nat->List Bod->Except Nat (List (List St))
 |_,[]=> .ok []
 |i,b::bs=>
  match dP im b with
  |none=> .error i
  |some t=>
   match eR im (i+1) bs with
   | .error e=> .error e
   | .ok ts=> .ok (t::ts)
theorem zu {im:Img}: ∀{bs:List Bod} {i k:Nat} {ts:List (List St)} {b:Bod},(bs.take k).map (dP im)=ts.map some->bs[k]?=some b->dP im b=none->eR im i bs= .error (i+k):=by
 intro bs
 induction bs with
 |nil=>intro i k ts b _ h;simp at h
 |cons x bs ih=>
  intro i k ts b a c d
  cases k with
  |zero=>simp at c;subst c;simp[eR,d]
  |succ k=>
   cases ts with
   |nil=>simp at a
   |cons t ts=>
    simp at a c;have:=ih (i:=i+1) (k:=k) (by rw[List.map_take];exact a.2) c d;simp only[eR,a.1,this]
    congr 1
    omega
theorem Bl {im:Img}: ∀{bs:List Bod} {i:Nat} {ts:List (List St)},bs.map (dP im)=ts.map some->eR im i bs= .ok ts:=by
 intro bs
 induction bs with
 |nil=>intro i ts h;simp at h;subst h;rfl
 |cons x bs ih=>
  intro i ts h
  cases ts with
  |nil=>simp at h
  |cons t ts=>
   simp at h;simp only[eR,h.1,ih (i:=i+1) h.2]
def s8:St->L_
 |none=> [63,44]
 |some (s,l)=>s++ [124]++l++ [44]
def d7 (t:List St):L_:=t.flatMap s8++ [59]
def qg (t:List St):Prop:=t.length<=100/\ ∀(k:Nat) s l,t[k]?=some (some (s,l))->s.length<=100/\l.length<=5
theorem wfT.short {nc nl n:Nat} {t:List St} (h:wfT nc nl n t) (hn:n<=100) (hl:nl<=5):qg t:=
 ⟨by rw[h.1];exact hn,λk s l hk=>by have:=h.okS hn k s l hk;exact⟨this.2.2.2,by rw[this.2.2.1];exact hl⟩⟩
def jW (s:ByteArray):Nat×Nat:=
 match eZ s with
 | .error e=>e
 | .ok im=>
  match eR im 0 im.zj with
  | .error k=>(4,k)
  | .ok _=>(0,0)
def te (s:ByteArray):L_×Nat:=
 match eZ s with
 | .error e=>([],e.1)
 | .ok im=>
  match eR im 0 im.zj with
  | .error _=>([],4)
  | .ok ts=>(ts.flatMap d7,0)
theorem zw {s:ByteArray} {e p:Nat} (h:eZ s= .error (e,p)):1<=e/\e<=3:=by
 unfold eZ at h
 split at h
 .cases h;omega
 split at h
 .cases h;omega
 .split at h
  .cases h;omega
  .cases h
theorem zD {im:Img}: ∀{bs:List Bod} {i:Nat} {ts:List (List St)},eR im i bs= .ok ts->ts.length=bs.length/\ ∀t∈ts,∃b∈bs,dP im b=some t:=by
 intro bs
 induction bs with
 |nil=>intro i ts h;simp[eR]at h;subst h;simp
 |cons b bs ih=>
  intro i ts h;simp only[eR]at h
  split at h
  .cases h
  .rename_i t ht
   split at h
   .cases h
   .rename_i ts' hts
    injection h with h;subst h;have:=ih hts;refine⟨by simp[this.1],?_⟩;intro x hx;simp only[List.mem_cons]at hx;obtain rfl|hx:=hx
    .exact⟨b,by simp,ht⟩
    .obtain⟨b',a,c⟩:=this.2 x hx;exact⟨b',by simp[a],c⟩
theorem tg {α:Type} {f:α->L_} {m:Nat}: ∀{t:List α},(∀o∈t,(f o).length<=m)->(t.flatMap f).length<=m*t.length:=by
 intro t
 induction t with
 |nil=>intro _;simp
 |cons x t ih=>
  intro h;have a:=h x (by simp);have b:=ih (λo ho=>h o (by simp[ho]));simp only[lu,aV,ie,Nat.mul_add];omega
theorem th {t:List St} (h:qg t):(d7 t).length<=20001:=by
 have:(t.flatMap s8).length<=200*t.length:=by
  apply tg
  intro o b;obtain⟨k,a⟩:=List.mem_iff_getElem?.1 b
  cases o with
  |none=>simp[s8]
  |some p=>
   obtain⟨s,l⟩:=p;have:=h.2 k s l a;simp[s8];omega
 have c:=h.1;simp only[d7,aV,fM];omega
theorem lK {w:World} {base e size g n cap:Nat} {xs:List Value} (h:w.ownsRow base e size (.slice (some ⟨g,0,none⟩) n cap) n xs) (k:Nat) (v:Value):(w.setCell ⟨g,k,none⟩ v).ownsRow base e size (.slice (some ⟨g,0,none⟩) n cap) n (xs.set k v):=by
 obtain⟨b,_⟩ | ⟨g',cap',cur,b,i,j,l,m,p,q⟩:=h.2
 .cases b
 .have d:cap=cap':=congrArg (λv=>match v with|Value.slice _ _ c=>c|_=>0) b;have f:g=g':=congrArg (λv=>match v with|Value.slice (some a) _ _=>a.block|_=>0) b;subst d f;refine⟨by rw[List.length_set];exact h.1,Or.inr ⟨g,cap,cur.setIfInBounds k v,rfl,i,bS w g k _ _ _ j,l,m,by simpa using p,?_⟩⟩;rw[Array.toList_setIfInBounds,List.take_set,q]
theorem nH {w:World} {base e size g n cap:Nat} {xs:List Value} (h:w.ownsRow base e size (.slice (some ⟨g,0,none⟩) n cap) n xs) (j:Nat):w.frozen? ⟨g,j,none⟩=false:=by
 obtain⟨b,_⟩ | ⟨g',cap',cur,b,f,d,_⟩:=h.2
 .cases b
 .have c:g=g':=congrArg (λv=>match v with|Value.slice (some a) _ _=>a.block|_=>0) b;subst c;exact cw w g j _ _ d
theorem xe: ∀{u:List Ins} {a m:Nat},full (a+m) u-> ∃p q,u=p++q/\full a p/\full m q:=by
 intro u
 induction u with
 |nil=>
  intro a m h
  cases a with
  |zero=>exact⟨[],[],rfl,trivial,by simpa using h⟩
  |succ a=>rw[show a+1+m=(a+m)+1 from by omega]at h;cases h
 |cons x u ih=>
  intro a m h
  cases a with
  |zero=>exact⟨[],x::u,rfl,trivial,by simpa using h⟩
  |succ a=>
   rw[show a+1+m=(a+m)+1 from by omega]at h;have h':full ((a+ay x.op)+m) u:=by rw[show a+ay x.op+m=a+m+ay x.op from by omega];exact h
   obtain⟨p,q,b,c,d⟩:=ih h';exact⟨x::p,q,by rw[b];rfl,c,d⟩
section
variable (b:Nat) (s:ByteArray) (src:Bool) (bi:Nat) (vc:Value)
end
theorem zE {u:List Ins} {m:Nat} (h:full (1+m) u):full m (u.drop (sk 1 u)):=by
 obtain⟨p,q,a,b,c⟩:=xe h;subst a;rw[sR b,List.drop_left];exact c
theorem uO {u:List Ins} {m:Nat} (h:full (m+1) u):0<u.length:=by
 cases u with
 |nil=>cases h
 |cons x u=>simp
theorem lL {n:Nat} {c:UInt8} (h:cY n c=true):okT n c=true:=by simp[okT,h]
theorem uP {n:Nat}:okT n 105=true:=by simp[okT,cY]
theorem ti {n a:Nat} (h:a<n) (hn:n<=4):okT n (cE a)=true:=lL (by unfold cE;exact pV h hn)
theorem uQ {im:Img} (hW:iQ im) {bd:Bod} (hbd:lE im.zq im.zx bd) {x:Ins} (hx:WfN im.zq im.zx.length bd.zy.length x):okT im.zq.length (bE im.zq im.zx bd.zy x)=true:=by
 unfold bE
 split
 .simp[okT]
 split
 .rename_i h
  have hb:=hx.loc (Or.inl h)
  apply lL
  rw[bM,aM hb];exact hbd.loc.2 _ (cS hb)
 split
 .rename_i h
  exact ti (hx.cls (by omega)) hW.nc
 split
 .rename_i h
  have ha:=hx.cls (by omega);have hb:=hx.fld (by omega)
  apply lL
  have a:=aM ha;unfold db at hb;unfold dc;rw[a]at hb⊢;simp at hb⊢;rw[aM hb];exact gn (by omega) ((hW.cls _ _ a).2.2.2 _ (cS hb))
 split
 .rename_i h
  have hb:=hx.sig h
  apply lL
  unfold gI;rw[aM hb];exact(hW.sig _ (cS hb)).2
 .exact uP
theorem Bm {im:Img} (hW:iQ im) {bd:Bod} (hbd:lE im.zq im.zx bd) {x:Ins} (hx:WfN im.zq im.zx.length bd.zy.length x) {ts:L_} (hl:ts.length=ay x.op) (hts: ∀c∈ts,okT im.zq.length c=true) {c:UInt8} (h:ba im.zq im.zx bd.zy x ts=some c):okT im.zq.length c=true:=by
 have a: ∀k,k<ts.length->okT im.zq.length (ts.getD k 0)=true:=λk hk=>by
  rw[bM,aM hk];exact hts _ (cS hk)
 unfold ba at h
 split at h
 .cases h
 split at h
 .split at h
  .cases h;exact uP
  .cases h
 split at h
 .rename_i h120
  split at h
  .cases h;exact ti (hx.cls (by omega)) hW.nc
  .cases h
 split at h
 .rename_i h44
  cases h
  exact a 1 (by rw[hl];unfold ay;rw[if_neg (by omega),h44];decide)
 split at h
 .rename_i h105
  split at h
  .cases h
   have b:ts.length=3:=by rw[hl];unfold ay;rw[if_pos h105]
   exact um hW.nc hW.cls (a 1 (by omega)) (a 2 (by omega))
  .cases h
 split at h
 .split at h
  .cases h;exact uP
  .cases h
 .cases h
  exact uQ hW hbd hx
theorem xf {t:List Ins} {g:Nat->Option UInt8}: ∀{n k:Nat} {ts:L_},bO t g n k=some ts->ts.length=n:=by
 intro n
 induction n with
 |zero=>intro k ts h;cases h;rfl
 |succ n ih=>
  intro k ts h;unfold bO at h
  split at h
  .cases h
  .rename_i c hc
   cases hp:bO t g n (bk t k)with
   |none=>rw[hp]at h;cases h
   |some us=>rw[hp]at h;simp at h;subst h;simp[ih hp]
theorem yC {im:Img} (hW:iQ im) {bd:Bod} (hbd:lE im.zq im.zx bd): ∀{f i:Nat} {c:UInt8},cA im.zq im.zx bd.zy bd.code f i=some c->okT im.zq.length c=true:=by
 intro f
 induction f with
 |zero=>intro i c h;cases h
 |succ f ih=>
  have hp: ∀{n k:Nat} {ts:L_},bO bd.code (cA im.zq im.zx bd.zy bd.code f) n k=some ts-> ∀c∈ts,okT im.zq.length c=true:=by
   intro n
   induction n with
   |zero=>intro k ts h;cases h;simp
   |succ n ihn=>
    intro k ts h;unfold bO at h
    split at h
    .cases h
    .rename_i c hc
     cases hp:bO bd.code (cA im.zq im.zx bd.zy bd.code f) n (bk bd.code k)with
     |none=>rw[hp]at h;cases h
     |some us=>
      rw[hp]at h;simp at h;subst h;intro d a;obtain rfl|a:=List.mem_cons.1 a
      .exact ih hc
      .exact ihn hp d a
  intro i c h;unfold cA at h
  split at h
  .cases h
  .rename_i x hx
   split at h
   .cases h
   .rename_i ts hts
    exact Bm hW hbd (hbd.code x (a9 hx)) (xf hts) (hp hts) h
theorem nJ {s:ByteArray} {e p:Nat} (h:dM s= .error (e,p)):0<e/\e<=3:=by
 unfold dM at h
 split at h
 .cases h;omega
 .split at h
  .cases h;omega
  .split at h
   .cases h;omega
   .cases h
end
end Go.Proofs.YtpfkkmacakjmbaaGreatDoor
