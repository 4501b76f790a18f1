import Derived.Test.YtpfkkmacakjmbaaGreatDoorP06
import Derived.Laws.StructEq
import Derived.Laws.MakeOwn
set_option maxRecDepth 100000
set_option maxHeartbeats 6400000
set_option linter.all false
namespace Go.Proofs.YtpfkkmacakjmbaaGreatDoor
open Proofs.Tryz
section
open Go Go.RowKit Sp
def CZ (R:Except (Nat×Nat) Img) (bi:Nat):Value:=match R with
 | .error (e,p)=> .tuple #[.pointer none,.int .i64 e,.int .i64 p]
 | .ok _=> .tuple #[.pointer (some ⟨bi,0,none⟩),.int .i64 0,.int .i64 0]
def tU (R:Except (Nat×Nat) Img) (bi:Nat) (w':World):Prop:=match R with
 | .error _=>True
 | .ok im=>dX w' bi im/\WfI im
theorem tV {α:Type} {f:α->Option Nat}: ∀{l:List α} {k:Nat} {p:Nat} (hk:k<l.length),f l[k]=some p->(∀j (hj:j<l.length),j<k->f l[j]=none)->l.findSome? f=some p:=by
 intro l
 induction l with
 |nil=>intro k p hk;simp at hk
 |cons x l ih=>
  intro k p hk h a0
  cases k with
  |zero=>simp at h;simp[List.findSome?_cons,h]
  |succ k=>
   have h0:=a0 0 (by simp) (by omega);simp at h0 h;rw[List.findSome?_cons,h0]
   exact ih (by simpa using hk) h (λj hj hjk=>by
    have:=a0 (j+1) (by simpa using hj) (by omega)
    rwa [List.getElem_cons_succ]at this)
theorem vL (s:ByteArray) (w:World) (hmax:s.size<=maxLen):
  Calls prog 28 #[.string s,.bool false] w λen w'=>en= .returned (CZ (dQ s) w.heap.size)/\B_ w w'/\tU (dQ s) w.heap.size w':=by
 obtain⟨R,a5⟩: ∃R,dQ s=R:=⟨_,rfl⟩;rw[a5];unfold maxLen at hmax
 by_cases hbig:2000<s.size
 .have a1:R= .error (1,0):=by rw[<-a5,dQ,if_pos hbig]
  subst a1;have hb:(2000:Int)<(s.size:Int):=by omega
  clear a5
  go_in
  go_wp2_with fail
  go_ret3
  exact⟨rfl,But.refl _ _,trivial⟩
 have hs:s.size<=2000:=by omega
 have hb: ¬(2000:Int)<(s.size:Int):=by omega
 have a6:Hid (dQ s=R):=a5;clear a5 hbig
 go_in
 go_wp2_with fail;refine(Au s w hs).mono ?_;rintro en w1 ⟨rfl,b1,hp⟩
 cases hread:ec s with
 |error j=>
  have a1:R= .error (2,j):=by rw[<-a6.out,dQ,if_neg (by omega),hread]
  subst a1;simp only[As];have e1:(0:Int)<=(j:Int):=by omega
  clear hp a6 hread;go_wp2_with fail
  go_ret3
  exact⟨rfl,b1,trivial⟩
 |ok im=>
  rw[hread]at hp;have hW:=mC hs hread;simp only[As];have hI:dX w1 w.heap.size im:=hp;have b4:Hid (ec s= .ok im):=hread;clear hread hp;obtain⟨v0,v1,v2,l,b6,hC,hS,hB,hl,b9⟩:=hI;have hI:dX w1 w.heap.size im:=⟨v0,v1,v2,l,b6,hC,hS,hB,hl,b9⟩;obtain⟨a2,c9,rfl⟩:=aw hB;have e6:l.length<=7:=by have:=hW.nb;rw[<-hl]at this;simpa using this
  have HL:Hid (l.map (·.1)=im.zq):=hl;clear hl;go_wp2_with fail
  go_loopg [9] l.length (λmm ks wr=> ∃(k:Nat),ks= .int .i64 k/\k<=l.length/\k+mm<=l.length/\l.length<=k+mm/\B_ w1 wr/\Hid (∀j (hj:j<l.length),j<k->unl im.zz im.zq l[j].1.code=none))
  case atStart=>exact⟨0,rfl,by omega,by omega,by omega,But.refl _ _,λj hj h=>absurd h (by omega)⟩
  case round=>
   obtain⟨k,rfl,e2,e3,e4,a3,HA⟩:=hrel;have d2:=(b6.but a3 (λh=>h)).c2
   by_cases hlt:k<l.length
   .have hx:=aH hlt;obtain⟨g,rfl,d6,e0,a0⟩:=aF (aj hB a3 (λ_ _ h=>h)) (by omega);have q0:=a0 _ _ (jV hx);have q1:=a0 _ _ (jW hx);have q2:=a0 _ _ (mE hx);have q3:=a0 _ _ (mF hx);have q4:=a0 _ _ (mG hx);have a4:l[k]∈l:=cN hlt;obtain⟨a7,b2⟩:=b9 _ a4;have b3:WfB im.zz im.zj l[k].1:=hW.bod _ (by rw[<-HL.out];exact List.mem_map_of_mem a4)
    have a8:Hid (∀p,unl im.zz im.zq l[k].1.code=some p->R= .error (3,p)):=λp hp=>by
     rw[<-a6.out,dQ,if_neg (by omega),b4.out];simp only;rw[show im.zq.findSome? (λb=>unl im.zz im.zq b.code)=some p from ?_];rw[<-HL.out,List.findSome?_map];rw[HL.out];exact tV hlt hp HA.out
    have b0:Hid (unl im.zz im.zq l[k].1.code=none-> ∀j (hj:j<l.length),j<k+1->unl im.zz im.zq l[j].1.code=none):=λh j hj hjk=>by
     obtain h'|h':=Nat.lt_or_ge j k
     .exact HA.out j hj h'
     .have:j=k:=by omega
      subst this;exact h
    obtain⟨X,hX⟩: ∃X,l[k]=X:=⟨_,rfl⟩;rw[hX]at q0 q1 q2 q3 q4 a7 b2 b3 a8 b0;rw[b2]at q4;obtain⟨Xb,Xk,Xt⟩:=X;simp only at q0 q1 q2 q3 q4 a7 b3 a8 b0;obtain⟨ak,capk,rfl⟩:=aw a7;clear a0 hx hX a4 b2;have e5:(k:Int)<(l.length:Int):=by omega
    go_wp2_with fail;refine(rS w.heap.size im Xb _ _ (hI.but a3) hW b3 (aj a7 a3 (λ_ _ h=>h))).mono ?_;rintro en w2 ⟨rfl,b5⟩
    cases hu:unl im.zz im.zq Xb.code with
    |some p=>
     have a1:R= .error (3,p):=a8.out p hu;subst a1;simp only[De];have e7:(0:Int)<=(p:Int):=by omega
     clear hu q0 q1 q2 q3 q4 d2;go_wp2_with fail
     go_ret3
     exact⟨rfl,(b1.trans a3).trans b5,trivial⟩
    |none=>
     simp only[De];have HH:=b0.out hu;have c7:Hid (∀j (hj:j<l.length),j<k+1->unl im.zz im.zq l[j].1.code=none):=HH;clear hu HH q0 q1 q2 q3 q4 d2;go_wp2_with fail
     go_roundg (l.length-(k+1))
     case measure=>omega
     case rel=>exact⟨k+1,by simp,by omega,by omega,by omega,a3.trans b5,c7⟩
   .have a1:R= .ok im:=by
     rw[<-a6.out,dQ,if_neg (by omega),b4.out];simp only;rw[show im.zq.findSome? (λb=>unl im.zz im.zq b.code)=none from ?_];rw[List.findSome?_eq_none_iff];intro b hb;rw[<-HL.out]at hb;obtain⟨x,hx,rfl⟩:=List.mem_map.1 hb;obtain⟨j,hj,rfl⟩:=List.getElem_of_mem hx;exact HA.out j hj (by omega)
    subst a1;go_wp2_with fail
    go_ret3
    exact⟨rfl,b1.trans a3,hI.but a3,hW⟩
def pq (w:World) (bi:Nat) (cs:List Cls):Prop:=
 ∃v0 v1 v2,ImB w bi v0 v1 v2/\w.ownsRow 0 203 2 v0 cs.length (dA cs)
theorem dX.cls {w:World} {bi:Nat} {im:Img} (h:dX w bi im):pq w bi im.zz:=by
 obtain⟨v0,v1,v2,l,hI,h0,_⟩:=h;exact⟨v0,v1,v2,hI,h0⟩
theorem pq.par {w:World} {bi:Nat} {cs:List Cls} (h:pq w bi cs) (hw:WfC cs) {x:Int} (h0:0<=x) (hx:x<cs.length):
  ∃(g n cap:Nat) (p:Int),w.cell? ⟨bi,0,none⟩=some (.slice (some ⟨g,0,none⟩) n cap)/\x<(n:Int)/\w.cell? ⟨g,x.toNat*2,none⟩=some (.int .i64 p)/\cX cs x=p/\ -1<=p/\p<cs.length:=by
 obtain⟨v0,v1,v2,hI,hO⟩:=h;obtain⟨a0,cap0,rfl⟩:=aw hO;obtain⟨n,rfl⟩:=Int.eq_ofNat_of_zero_le h0;have a5:n<cs.length:=by omega
 have a3:=aH a5;obtain⟨g,rfl,a6,a7,a1⟩:=aF hO (by omega);have a4:=je hw hx h0;have a2:cX cs (n:Int)=cs[n].par:=by unfold cX;rw[Int.toNat_natCast,a3];rfl
 refine⟨g,cs.length,cap0,cs[n].par,hI.c0,by omega,?_,a2,?_,?_⟩
 .rw[Int.toNat_natCast];exact a1 _ _ (mD a3)
 .rw[<-a2];exact a4.1
 .rw[<-a2];exact a4.2
theorem yh (bi:Nat) (cs:List Cls) (x y:Int) (w:World) (hI:pq w bi cs) (hw:WfC cs) (hx0: -1<=x) (hx:x<cs.length):
  Calls prog 122 #[.pointer (some ⟨bi,0,none⟩),.int .i64 x,.int .i64 y] w λen w'=>en= .returned (.bool (bF cs 5 x y))/\w'=w:=by
 obtain⟨R,a1⟩: ∃R,bF cs 5 x y=R:=⟨_,rfl⟩;rw[a1];have a4:Hid (bF cs 5 x y=R):=a1;clear a1
 go_in
 go_wp2_with fail
 go_loopg [1,7] 5 (λmm xs ks wr=> ∃(xv:Int) (kn:Nat),xs= .int .i64 xv/\ks= .int .i64 kn/\kn<=5/\5<=kn+mm/\kn+mm<=5/\wr=w/\ -1<=xv/\xv<cs.length/\Hid (bF cs mm xv y=R))
 case atStart=>exact⟨x,0,rfl,rfl,by omega,by omega,by omega,rfl,hx0,hx,a4⟩
 case round=>
  obtain⟨xv,kn,rfl,rfl,b3,a5,a6,b0,b2,b1,HF⟩:=hrel;subst b0
  by_cases hxn:0<=xv
  .cases gk with
   |zero=>
    have a0:R=false:=by rw[<-HF.out];rfl
    subst a0;have a2: ¬(kn:Int)<=4:=by omega
    go_wp2_with fail;go_ret;exact⟨rfl,rfl⟩
   |succ f=>
    have a2:(kn:Int)<=4:=by omega
    by_cases hxy:xv=y
    .have a0:R=true:=by rw[<-HF.out,bF,if_neg (by omega),if_pos hxy]
     subst a0;have hb:(xv==y)=true:=by simpa using hxy
     clear hxy HF;go_wp2_with fail;go_ret;exact⟨rfl,rfl⟩
    .have HN:Hid (bF cs f (cX cs xv) y=R):=by show _=_;rw[<-HF.out,bF,if_neg (by omega),if_neg hxy]
     have hb:(xv==y)=false:=by simpa using hxy
     obtain⟨g,n,cap,p,d0,hn,hc,a3,a7,a8⟩:=hI.par hw hxn b1;rw[a3]at HN;clear a3 hxy HF;go_wp2_with fail
     go_roundg f
     case measure=>omega
     case rel=>exact⟨p,kn+1,rfl,by simp,by omega,by omega,by omega,rfl,a7,a8,HN⟩
  .have a0:R=false:=by
    rw[<-HF.out]
    cases gk with
    |zero=>rfl
    |succ f=>rw[bF,if_pos (by omega)]
   subst a0
   by_cases a2:(kn:Int)<=4
   .go_wp2_with fail;go_ret;exact⟨rfl,rfl⟩
   .go_wp2_with fail;go_ret;exact⟨rfl,rfl⟩
end
section
open Go Go.RowKit Sp
attribute [local go_sem ↓] dG dH
theorem yi (l:L_) (k:Nat) (h:k<l.length) (h':k<(⟨l.toArray⟩:ByteArray).size):(⟨l.toArray⟩:ByteArray)[k]=l[k]:=rfl
theorem xk (l:L_) (k:Nat) (h:k<l.length):l.getD k 0=l[k]:=by simp[List.getD,h]
def Aw (w:World) (bi:Nat) (gs:List Sig):Prop:=
 ∃v0 v1 v2,ImB w bi v0 v1 v2/\w.ownsRow 0 129 2 v1 gs.length (dr gs)
theorem dX.sig {w:World} {bi:Nat} {im:Img} (h:dX w bi im):Aw w bi im.zj:=by
 obtain⟨v0,v1,v2,l,hI,_,h1,_⟩:=h;exact⟨v0,v1,v2,hI,h1⟩
theorem Aw.at {w:World} {bi:Nat} {gs:List Sig} (h:Aw w bi gs) {k:Nat} (hk:k<gs.length):
  ∃(g n cap:Nat),w.cell? ⟨bi,1,none⟩=some (.slice (some ⟨g,0,none⟩) n cap)/\(k:Int)<(n:Int)/\w.cell? ⟨g,k*2,none⟩=some (.int .u8 (gY gs k).toNat)/\w.cell? ⟨g,k*2+1,none⟩=some (.int .u8 (gZ gs k).toNat)/\bi<w.heap.size/\g<w.heap.size:=by
 obtain⟨v0,v1,v2,hI,hO⟩:=h;obtain⟨a0,cap0,rfl⟩:=aw hO;have a2:=aH hk;obtain⟨g,rfl,a3,a4,a1⟩:=aF hO (by omega);refine⟨g,gs.length,cap0,hI.c1,by omega,?_,?_,hI.lt,a3⟩
 .rw[show gY gs k=gs[k].arg from by simp[gY,a2]];exact a1 _ _ (mH a2)
 .rw[show gZ gs k=gs[k].ret from by simp[gZ,a2]];exact a1 _ _ (rB a2)
theorem pq.flds {w:World} {bi:Nat} {cs:List Cls} (h:pq w bi cs) {k j:Nat} (hk:k<cs.length) (hj:j<bH cs k):
  ∃(g n cap:Nat) (fl:L_),w.cell? ⟨bi,0,none⟩=some (.slice (some ⟨g,0,none⟩) n cap)/\(k:Int)<(n:Int)/\w.cell? ⟨g,k*2+1,none⟩=some (.string ⟨fl.toArray⟩)/\j<fl.length/\fl.getD j 0=cO cs k j/\bi<w.heap.size/\g<w.heap.size:=by
 obtain⟨v0,v1,v2,hI,hO⟩:=h;obtain⟨a0,cap0,rfl⟩:=aw hO;have a2:=aH hk;obtain⟨g,rfl,a3,a4,a1⟩:=aF hO (by omega);refine⟨g,cs.length,cap0,cs[k].fields,hI.c0,by omega,a1 _ _ (fV a2),?_,?_,hI.lt,a3⟩
 .simpa[bH,a2]using hj
 .simp[cO,a2]
def ff (im:Img):Nat->List Bod->Except Nat (List (List St))
 |_,[]=> .ok []
 |i,b::bs=>
  match dR im b with
  |none=> .error i
  |some t=>
   match ff im (i+1) bs with
   | .error e=> .error e
   | .ok ts=> .ok (t::ts)
theorem yj {im:Img}: ∀{bs:List Bod} {i k:Nat} {ts:List (List St)} {b:Bod},(bs.take k).map (dR im)=ts.map some->bs[k]?=some b->dR im b=none->ff im i bs= .error (i+k):=by
 intro bs
 induction bs with
 |nil=>intro i k ts b _ h;simp at h
 |cons x bs ih=>
  intro i k ts b h1 h2 h3
  cases k with
  |zero=>simp at h2;subst h2;simp[ff,h3]
  |succ k=>
   cases ts with
   |nil=>simp at h1
   |cons t ts=>
    simp at h1 h2;have:=ih (i:=i+1) (k:=k) (by rw[List.map_take];exact h1.2) h2 h3;simp only[ff,h1.1,this]
    congr 1
    omega
theorem Ax {im:Img}: ∀{bs:List Bod} {i:Nat} {ts:List (List St)},bs.map (dR im)=ts.map some->ff im i bs= .ok ts:=by
 intro bs
 induction bs with
 |nil=>intro i ts h;simp at h;subst h;rfl
 |cons x bs ih=>
  intro i ts h
  cases ts with
  |nil=>simp at h
  |cons t ts=>
   simp at h;simp only[ff,h.1,ih (i:=i+1) h.2]
def rT:St->L_
 |none=> [63,44]
 |some (s,l)=>s++ [124]++l++ [44]
def dY (t:List St):L_:=t.flatMap rT++ [59]
def pr (t:List St):Prop:=t.length<=100/\ ∀(k:Nat) s l,t[k]?=some (some (s,l))->s.length<=100/\l.length<=5
theorem wfT.short {nc nl n:Nat} {t:List St} (h:wfT nc nl n t) (hn:n<=100) (hl:nl<=5):pr t:=
 ⟨by rw[h.1];exact hn,λk s l hk=>by have:=h.okS hn k s l hk;exact⟨this.2.2.2,by rw[this.2.2.1];exact hl⟩⟩
def jw (s:ByteArray):Nat×Nat:=
 match dQ s with
 | .error e=>e
 | .ok im=>
  match ff im 0 im.zq with
  | .error k=>(4,k)
  | .ok _=>(0,0)
def rU (s:ByteArray):L_×Nat:=
 match dQ s with
 | .error e=>([],e.1)
 | .ok im=>
  match ff im 0 im.zq with
  | .error _=>([],4)
  | .ok ts=>(ts.flatMap dY,0)
theorem yk {s:ByteArray} {e p:Nat} (h:dQ s= .error (e,p)):1<=e/\e<=3:=by
 unfold dQ at h
 split at h
 .cases h;omega
 split at h
 .cases h;omega
 .split at h
  .cases h;omega
  .cases h
theorem yl {im:Img}: ∀{bs:List Bod} {i:Nat} {ts:List (List St)},ff im i bs= .ok ts->ts.length=bs.length/\ ∀t∈ts,∃b∈bs,dR im b=some t:=by
 intro bs
 induction bs with
 |nil=>intro i ts h;simp[ff]at h;subst h;simp
 |cons b bs ih=>
  intro i ts h;simp only[ff]at h
  split at h
  .cases h
  .rename_i t ht
   split at h
   .cases h
   .rename_i ts' hts
    injection h with h;subst h;have:=ih hts;refine⟨by simp[this.1],?_⟩;intro x hx;simp only[List.mem_cons]at hx;obtain rfl|hx:=hx
    .exact⟨b,by simp,ht⟩
    .obtain⟨b',h1,h2⟩:=this.2 x hx;exact⟨b',by simp[h1],h2⟩
theorem B3 {α:Type} {f:α->L_} {m:Nat}: ∀{t:List α},(∀o∈t,(f o).length<=m)->(t.flatMap f).length<=m*t.length:=by
 intro t
 induction t with
 |nil=>intro _;simp
 |cons x t ih=>
  intro h;have h1:=h x (by simp);have h2:=ih (λo ho=>h o (by simp[ho]));simp only[List.flatMap_cons,aZ,List.length_cons,Nat.mul_add];omega
theorem rV {t:List St} (h:pr t):(dY t).length<=20001:=by
 have:(t.flatMap rT).length<=200*t.length:=by
  apply B3
  intro o ho;obtain⟨k,hk⟩:=List.mem_iff_getElem?.1 ho
  cases o with
  |none=>simp[rT]
  |some p=>
   obtain⟨s,l⟩:=p;have:=h.2 k s l hk;simp[rT];omega
 have h1:=h.1;simp only[dY,aZ,dM];omega
theorem iR {w:World} {base e size g n cap:Nat} {xs:List Value} (h:w.ownsRow base e size (.slice (some ⟨g,0,none⟩) n cap) n xs) (k:Nat) (v:Value):(w.setCell ⟨g,k,none⟩ v).ownsRow base e size (.slice (some ⟨g,0,none⟩) n cap) n (xs.set k v):=by
 obtain⟨h1,_⟩ | ⟨g',cap',cur,h1,h2,h3,h4,h5,h6,h7⟩:=h.2
 .cases h1
 .have e1:cap=cap':=congrArg (λv=>match v with|Value.slice _ _ c=>c|_=>0) h1;have e2:g=g':=congrArg (λv=>match v with|Value.slice (some a) _ _=>a.block|_=>0) h1;subst e1 e2;refine⟨by rw[List.length_set];exact h.1,Or.inr ⟨g,cap,cur.setIfInBounds k v,rfl,h2,bG w g k _ _ _ h3,h4,h5,by simpa using h6,?_⟩⟩;rw[Array.toList_setIfInBounds,List.take_set,h7]
theorem gU {w:World} {base e size g n cap:Nat} {xs:List Value} (h:w.ownsRow base e size (.slice (some ⟨g,0,none⟩) n cap) n xs) (j:Nat):w.frozen? ⟨g,j,none⟩=false:=by
 obtain⟨h1,_⟩ | ⟨g',cap',cur,h1,h2,h3,_⟩:=h.2
 .cases h1
 .have e2:g=g':=congrArg (λv=>match v with|Value.slice (some a) _ _=>a.block|_=>0) h1;subst e2;exact b7 w g j _ _ h3
theorem vM: ∀{u:List Ins} {a m:Nat},full (a+m) u-> ∃p q,u=p++q/\full a p/\full m q:=by
 intro u
 induction u with
 |nil=>
  intro a m h
  cases a with
  |zero=>exact⟨[],[],rfl,trivial,by simpa using h⟩
  |succ a=>rw[show a+1+m=(a+m)+1 from by omega]at h;cases h
 |cons x u ih=>
  intro a m h
  cases a with
  |zero=>exact⟨[],x::u,rfl,trivial,by simpa using h⟩
  |succ a=>
   rw[show a+1+m=(a+m)+1 from by omega]at h;have h':full ((a+aA x.op)+m) u:=by rw[show a+aA x.op+m=a+m+aA x.op from by omega];exact h
   obtain⟨p,q,h1,h2,h3⟩:=ih h';exact⟨x::p,q,by rw[h1];rfl,h2,h3⟩
section
variable (b:Nat) (s:ByteArray) (src:Bool) (bi:Nat) (vc:Value)
end
theorem ym {u:List Ins} {m:Nat} (h:full (1+m) u):full m (u.drop (sk 1 u)):=by
 obtain⟨p,q,h1,h2,h3⟩:=vM h;subst h1;rw[xd h2,List.drop_left];exact h3
theorem tW {u:List Ins} {m:Nat} (h:full (m+1) u):0<u.length:=by
 cases u with
 |nil=>cases h
 |cons x u=>simp
theorem kW {n:Nat} {c:UInt8} (h:cZ n c=true):okT n c=true:=by simp[okT,h]
theorem tX {n:Nat}:okT n 105=true:=by simp[okT,cZ]
theorem rW {n a:Nat} (h:a<n) (hn:n<=4):okT n (dI a)=true:=kW (by unfold dI;exact oZ h hn)
theorem tY {im:Img} (hW:jG im) {bd:Bod} (hbd:lM im.zz im.zj bd) {x:Ins} (hx:WfN im.zz im.zj.length bd.locals.length x):okT im.zz.length (cj im.zz im.zj bd.locals x)=true:=by
 unfold cj
 split
 .simp[okT]
 split
 .rename_i h
  have hb:=hx.loc (Or.inl h)
  apply kW
  rw[co,aH hb];exact hbd.loc.2 _ (cN hb)
 split
 .rename_i h
  exact rW (hx.cls (by omega)) hW.nc
 split
 .rename_i h
  have ha:=hx.cls (by omega);have hb:=hx.fld (by omega)
  apply kW
  have a0:=aH ha;unfold bH at hb;unfold cO;rw[a0]at hb⊢;simp at hb⊢;rw[aH hb];exact fK (by omega) ((hW.cls _ _ a0).2.2.2 _ (cN hb))
 split
 .rename_i h
  have hb:=hx.sig h
  apply kW
  unfold gZ;rw[aH hb];exact(hW.sig _ (cN hb)).2
 .exact tX
theorem Ay {im:Img} (hW:jG im) {bd:Bod} (hbd:lM im.zz im.zj bd) {x:Ins} (hx:WfN im.zz im.zj.length bd.locals.length x) {ts:L_} (hl:ts.length=aA x.op) (hts: ∀c∈ts,okT im.zz.length c=true) {c:UInt8} (h:bT im.zz im.zj bd.locals x ts=some c):okT im.zz.length c=true:=by
 have hg: ∀k,k<ts.length->okT im.zz.length (ts.getD k 0)=true:=λk hk=>by
  rw[co,aH hk];exact hts _ (cN hk)
 unfold bT at h
 split at h
 .cases h
 split at h
 .split at h
  .cases h;exact tX
  .cases h
 split at h
 .rename_i h120
  split at h
  .cases h;exact rW (hx.cls (by omega)) hW.nc
  .cases h
 split at h
 .rename_i h44
  cases h
  exact hg 1 (by rw[hl];unfold aA;rw[if_neg (by omega),h44];decide)
 split at h
 .rename_i h105
  split at h
  .cases h
   have h3:ts.length=3:=by rw[hl];unfold aA;rw[if_pos h105]
   exact te hW.nc hW.cls (hg 1 (by omega)) (hg 2 (by omega))
  .cases h
 split at h
 .split at h
  .cases h;exact tX
  .cases h
 .cases h
  exact tY hW hbd hx
theorem vN {t:List Ins} {g:Nat->Option UInt8}: ∀{n k:Nat} {ts:L_},cz t g n k=some ts->ts.length=n:=by
 intro n
 induction n with
 |zero=>intro k ts h;cases h;rfl
 |succ n ih=>
  intro k ts h;unfold cz at h
  split at h
  .cases h
  .rename_i c hc
   cases hp:cz t g n (bO t k)with
   |none=>rw[hp]at h;cases h
   |some us=>rw[hp]at h;simp at h;subst h;simp[ih hp]
theorem xn {im:Img} (hW:jG im) {bd:Bod} (hbd:lM im.zz im.zj bd): ∀{f i:Nat} {c:UInt8},cS im.zz im.zj bd.locals bd.code f i=some c->okT im.zz.length c=true:=by
 intro f
 induction f with
 |zero=>intro i c h;cases h
 |succ f ih=>
  have hp: ∀{n k:Nat} {ts:L_},cz bd.code (cS im.zz im.zj bd.locals bd.code f) n k=some ts-> ∀c∈ts,okT im.zz.length c=true:=by
   intro n
   induction n with
   |zero=>intro k ts h;cases h;simp
   |succ n ihn=>
    intro k ts h;unfold cz at h
    split at h
    .cases h
    .rename_i c hc
     cases hp:cz bd.code (cS im.zz im.zj bd.locals bd.code f) n (bO bd.code k)with
     |none=>rw[hp]at h;cases h
     |some us=>
      rw[hp]at h;simp at h;subst h;intro d hd;obtain rfl|hd:=List.mem_cons.1 hd
      .exact ih hc
      .exact ihn hp d hd
  intro i c h;unfold cS at h
  split at h
  .cases h
  .rename_i x hx
   split at h
   .cases h
   .rename_i ts hts
    exact Ay hW hbd (hbd.code x (bp hx)) (vN hts) (hp hts) h
theorem rX {s:ByteArray} {e p:Nat} (h:fY s= .error (e,p)):0<e/\e<=3:=by
 unfold fY at h
 split at h
 .cases h;omega
 .split at h
  .cases h;omega
  .split at h
   .cases h;omega
   .cases h
end
end Go.Proofs.YtpfkkmacakjmbaaGreatDoor
