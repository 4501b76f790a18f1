import Derived.Test.YtpfkkmacakjmbaaGreatDoorP38
import Derived.Test.YtpfkkmacakjmbaaGreatDoorP31
set_option maxRecDepth 100000
set_option maxHeartbeats 6400000
set_option linter.all false
namespace Go.Proofs.YtpfkkmacakjmbaaGreatDoor
open Proofs.Tryz
section
open Go Go.RowKit Sp
attribute [local go_sem ↓] eF eG
def iX (x:XIt) (p:Nat->List XIt->List XIt) (l:List XIt):List XIt:=
 if x.op.toNat=44 then p 1 (p 0 l++ [dj 100])else if x.op.toNat=105 then jT p l else if x.op.toNat=111 then oD p l else p 1 (p 0 l)++gV x
def iL (is:List Ins):Nat->Nat->List XIt->List XIt
 |0,_,l=>l
 |f+1,j,l=>match is[j]? with
  |none=>l
  |some y=>iX (bQ y) (λk l=>match(eu is j)[k]? with
   |some i=>iL is f i l
   |none=>l) l
def gj (is:List Ins) (f j k:Nat) (l:List XIt):List XIt:=match(eu is j)[k]? with
 |some i=>iL is f i l
 |none=>l
theorem iY {is:List Ins} {j:Nat} {y:Ins} (h:is[j]?=some y) (f:Nat) (l:List XIt):iL is (f+1) j l=iX (bQ y) (gj is f j) l:=by
 rw[iL,h]
 rfl
theorem sI (x:XIt):1<=(gV x).length/\(gV x).length<=2:=by
 unfold gV
 split<;>simp
theorem yk {x y:XIt} (h1:x.op=y.op) (h2:x.cls=y.cls) (h3:x.num=y.num):gV x=gV y:=by
 unfold gV;rw[h1,h2,h3]
theorem A4 {x y:XIt} (h1:x.op=y.op) (h2:x.cls=y.cls) (h3:x.num=y.num) (p:Nat->List XIt->List XIt) (l:List XIt):iX x p l=iX y p l:=by
 unfold iX;rw[h1,yk h1 h2 h3]
theorem oE {x:XIt} {p:Nat->List XIt->List XIt} {a b c:Nat} (l:List XIt) (h0: ∀l,l.length<=(p 0 l).length/\(p 0 l).length<=l.length+a) (h1: ∀l,l.length<=(p 1 l).length/\(p 1 l).length<=l.length+b) (h2: ∀l,l.length<=(p 2 l).length/\(p 2 l).length<=l.length+c):
  l.length<=(iX x p l).length/\(iX x p l).length<=l.length+a+b+(if x.op.toNat=105 then c else 0)+4:=by
 have hl:=sI x;have a0:=h0 l;have a1:=h1 (p 0 l);have d:=h1 (p 0 l++ [dj 100]);have e:=h1 (p 0 l++ [dj 102]);have f:=h2 (aimX (p 0 l).length (p 1 (p 0 l++ [dj 102])++ [dj 106]));simp only[fX,aV,fM]at d e f;unfold iX
 split
 .split<;>omega
 split
 .unfold jT;rw[fX];omega
 split
 .unfold oD;simp only[fX,aV,fM];omega
 .rw[aV];omega
theorem DW (y:Ins):(bQ y).op.toNat=105->ay y.op=3:=by
 intro h;rw[<-tP];unfold ay;rw[if_pos h]
theorem re {is:List Ins} {f j:Nat} (IH: ∀i l,l.length<=(iL is f i l).length/\(iL is f i l).length<=l.length+4*(bk is i-i)) {k i:Nat} (hi: ∀e,(eu is j)[k]?=some e->e=i) (l:List XIt):
  l.length<=(gj is f j k l).length/\(gj is f j k l).length<=l.length+4*(bk is i-i):=by
 unfold gj
 cases h:(eu is j)[k]? with
 |none=>exact⟨bG _,by dsimp only;omega⟩
 |some e=>
  cases hi e h
  exact IH _ l
theorem t9 {is:List Ins} {f j k n:Nat} (h:(eu is j).length<=n) (hk:n<=k) (l:List XIt):gj is f j k l=l:=by
 unfold gj;rw[List.getElem?_eq_none (by omega)]
theorem oY (t:List Ins): ∀(n k:Nat),(cy t n k).length<=n
 |0,_=>bG _
 |n+1,k=>by
  unfold cy;have:=oY t n (bk t k)
  split
  .simp;omega
  .simp
theorem DX (t:List Ins) (n k i:Nat):((cy t n k)[0]?=some i->i=k)/\((cy t n k)[1]?=some i->i=bk t k)/\((cy t n k)[2]?=some i->i=bk t (bk t k)):=by
 have a: ∀n k,(cy t n k)[0]?=some i->i=k:=λn k h=>by
  cases n with
  |zero=>simp[cy]at h
  |succ n=>
   unfold cy at h
   split at h
   .simp at h;exact h.symm
   .simp at h
 have b: ∀n k,(cy t n k)[1]?=some i->i=bk t k:=λn k h=>by
  cases n with
  |zero=>simp[cy]at h
  |succ n=>
   unfold cy at h
   split at h
   .rw[List.getElem?_cons_succ]at h;exact a _ _ h
   .simp at h
 refine⟨a n k,b n k,λh=> ?_⟩
 cases n with
 |zero=>simp[cy]at h
 |succ n=>
  unfold cy at h
  split at h
  .rw[List.getElem?_cons_succ]at h;exact b _ _ h
  .simp at h
theorem pS (t:List Ins) (k:Nat):k<=bk t k:=by
 unfold bk;omega
theorem rf (is:List Ins): ∀(f i:Nat) (l:List XIt),l.length<=(iL is f i l).length/\(iL is f i l).length<=l.length+4*(bk is i-i)
 |0,i,l=>⟨bG _,by rw[iL];omega⟩
 |f+1,j,l=>by
  have IH:=rf is f
  cases hy:is[j]? with
  |none=>rw[iL,hy];exact⟨bG _,by dsimp only;omega⟩
  |some y=>
   rw[iY hy]
   have hp:eu is j=cy is (ay y.op) (j+1):=by
    unfold eu;rw[hy]
   have q:=λe=>DX is (ay y.op) (j+1) e
   rw[<-hp]at q;have hn:=oY is (ay y.op) (j+1);rw[<-hp]at hn;have b0:=λl=>re IH (j:=j) (λe he=>(q e).1 he) l
   have b1:=λl=>re IH (j:=j) (λe he=>(q e).2.1 he) l
   have b2:=λl=>re IH (j:=j) (λe he=>(q e).2.2 he) l
   have h:=pS is (j+1);have k:=pS is (bk is (j+1));have m:=pS is (bk is (bk is (j+1)));have c:=mx hy
   have n:ay y.op<=3:=by
    unfold ay
    repeat' split
    all_goals omega
   have g: ∀p,p+sk 0 (is.drop p)=p:=λp=>by simp[sk]
   have r:j+1+sk 1 (is.drop (j+1))=bk is (j+1):=rfl;have s2:j+1+sk 2 (is.drop (j+1))=bk is (j+1)+sk 1 (is.drop (bk is (j+1))):=ox;have s:j+1+sk 3 (is.drop (j+1))=bk is (j+1)+sk 2 (is.drop (bk is (j+1))):=ox;have t:bk is (j+1)+sk 2 (is.drop (bk is (j+1)))=bk is (bk is (j+1))+sk 1 (is.drop (bk is (bk is (j+1)))):=ox;have v:bk is (j+1)+sk 1 (is.drop (bk is (j+1)))=bk is (bk is (j+1)):=rfl;have z:bk is (bk is (j+1))+sk 1 (is.drop (bk is (bk is (j+1))))=bk is (bk is (bk is (j+1))):=rfl;have d:=DW y;have a:ay y.op=0\/ay y.op=1\/ay y.op=2\/ay y.op=3:=by omega
   obtain a|a|a|a:=a
   .have c0: ∀l:List XIt,l.length<=(gj is f j 0 l).length/\(gj is f j 0 l).length<=l.length+0:=λl=>by rw[t9 hn (by omega)];omega
    have c1: ∀l:List XIt,l.length<=(gj is f j 1 l).length/\(gj is f j 1 l).length<=l.length+0:=λl=>by rw[t9 hn (by omega)];omega
    have b:=oE (x:=bQ y) l c0 c1 b2;rw[a,g]at c
    split at b<;>omega
   .have c1: ∀l:List XIt,l.length<=(gj is f j 1 l).length/\(gj is f j 1 l).length<=l.length+0:=λl=>by rw[t9 hn (by omega)];omega
    have b:=oE (x:=bQ y) l b0 c1 b2;rw[a]at c
    split at b<;>omega
   .have b:=oE (x:=bQ y) l b0 b1 b2;rw[a]at c
    split at b<;>omega
   .have b:=oE (x:=bQ y) l b0 b1 b2;rw[a]at c
    split at b<;>omega
theorem sJ (is:List Ins) (f j k:Nat) (l:List XIt):l.length<=(gj is f j k l).length:=by
 unfold gj
 split
 .exact(rf is f _ l).1
 .exact bG _
section
variable {w0 w w':World} {cb:Nat} {X:bK} {vl vi v:Value} {l:List XIt}
theorem A5 (h:CmS w0 w cb X vl vi v l) (its:List XIt) (j:Nat) (x:XIt) (hI:ItB w0 0 vi its) (hx:its[j]?=some x) (hn:its.length<=1000) (p:Nat->List XIt->List XIt) (hp: ∀k l,l.length<=(p k l).length) (hb:(iX x p l).length<=3000)
  (HP: ∀k,k<=2-> ∀Y v l,CmS w0 Y cb X vl vi v l->(p k l).length<=3000->Calls prog 210 #[.pointer (some ⟨cb,0,none⟩),cR x,.int .i64 k] Y (CmR w0 Y cb X vl vi v (p k l))):
  Calls prog 159 #[.pointer (some ⟨cb,0,none⟩),.int .i64 j] w (CmR w0 w cb X vl vi v (iX x p l)):=by
 obtain⟨LN,y⟩: ∃LN,iX x p l=LN:=⟨_,rfl⟩;rw[y]at hb⊢;have n:=hid y;clear y;have c0:=ce0 h.blk;have c1:=ce1 h.blk;have c2:=ce2 h.blk;have c3:=ce3 h.blk;have c4:=ce4 h.blk;have H:=ae h.blk;have A:=hid (qS X.cls X.meth X.ans vl vi its j x w (ah hI h.old (λ_ _ h=>h)) hx hn);have a:=hid HP;have c:=hid (λY (hY:CmS w0 Y cb X vl vi v l) hb=>yj hY x p hp hb HP);have d:=hid (λY (hY:CmS w0 Y cb X vl vi v l) hb=>A3 hY x p hp hb HP);have i:=hid (λY v l (hY:CmS w0 Y cb X vl vi v l) hb=>hY.last hb x);have e:=hid hp;have M:=hid h;unfold cR at a c d i;clear h HP hI hx hn hp
 go_in
 go_wp2_with fail;refine A.out.mono ?_;rintro en w1 ⟨rfl,E⟩;have g:=hid (M.out.begin E.but x);unfold cR;clear A E c0 c1 c2 c3 c4 H
 by_cases h44:x.op.toNat=44
 .have G:((x.op.toNat:Int)==44)=true:=bA 44 (by omega);have z:=hid (show LN=p 1 (p 0 l++ [dj 100])from n.out.symm.trans (by unfold iX;rw[if_pos h44]));rw[z.out]at hb;have L:=e.out 1 (p 0 l++ [dj 100]);rw[aV,fM]at L;clear h44 c d i e;go_wp2_with fail;refine(g.out.call (a.out 0 (by omega) _ _ _ g.out.s (by omega))).mono ?_;rintro en w2 ⟨rfl,v2,f⟩;have m:=hid f;clear g f;go_wp2_with fail;refine(m.out.lay 100 (by omega)).mono ?_;rintro en S ⟨rfl,P,q⟩;obtain⟨x0,x1,x2,x3,x4⟩:=bI q.b.box;have J:=q.at';have r:=hid q;clear m q;go_wp2_with fail;refine(r.out.call (a.out 1 (by omega) _ _ _ r.out.s (by omega))).mono ?_
  rintro en T ⟨rfl,Q,t⟩;rw[<-z.out]at t;have F:=hid t;clear r t x0 x1 x2 x3 x4;go_wp2_with fail;go_end0;exact F.out.fin
 have G:((x.op.toNat:Int)==44)=false:=aX 44 (by omega)
 by_cases h105:x.op.toNat=105
 .have C:((x.op.toNat:Int)==105)=true:=bA 105 (by omega);have z:=hid (show jT p l=LN from n.out▸(by unfold iX;rw[if_neg h44,if_pos h105]));clear h44 h105 d i e a;rw[z.out]at c;go_wp2_with fail;refine(g.out.call (c.out _ g.out.s hb)).mono ?_;rintro en w2 ⟨rfl,v2,f⟩;have m:=hid f;clear g f c;go_wp2_with fail;go_end0;exact m.out.fin
 have C:((x.op.toNat:Int)==105)=false:=aX 105 (by omega)
 by_cases h111:x.op.toNat=111
 .have D:((x.op.toNat:Int)==111)=true:=bA 111 (by omega);have z:=hid (show oD p l=LN from n.out▸(by unfold iX;rw[if_neg h44,if_neg h105,if_pos h111]));clear h44 h105 h111 c i e a;rw[z.out]at d;go_wp2_with fail;refine(g.out.call (d.out _ g.out.s hb)).mono ?_;rintro en w2 ⟨rfl,v2,f⟩;have m:=hid f;clear g f d;go_wp2_with fail;go_end0;exact m.out.fin
 have D:((x.op.toNat:Int)==111)=false:=aX 111 (by omega);have Z:=e.out 0 l;have L:=e.out 1 (p 0 l);have O:=sI x;have B:=hid (show p 1 (p 0 l)++gV x=LN from n.out▸(by unfold iX;rw[if_neg h44,if_neg h105,if_neg h111]));rw[<-B.out,aV]at hb;clear h44 h105 h111 c d e;go_wp2_with fail;refine(g.out.call (a.out 0 (by omega) _ _ _ g.out.s (by omega))).mono ?_;rintro en w2 ⟨rfl,v2,f⟩;obtain⟨x0,x1,x2,x3,x4⟩:=bI f.b.box;have I:=f.at';have m:=hid f;clear g f;go_wp2_with fail;refine(m.out.call (a.out 1 (by omega) _ _ _ m.out.s (by omega))).mono ?_;rintro en S ⟨rfl,P,q⟩;clear x0 x1 x2 x3 x4 I m;obtain⟨x0,x1,x2,x3,x4⟩:=bI q.b.box
 have J:=q.at';have r:=hid q;clear q a;go_wp2_with fail;refine(r.out.call (i.out _ _ _ r.out.s (by omega))).mono ?_;rintro en T ⟨rfl,Q,t⟩;rw[B.out]at t;have F:=hid t;clear r t x0 x1 x2 x3 x4;go_wp2_with fail;go_end0;exact F.out.fin
end
theorem yX (t:List Ins): ∀(n k e:Nat),e∈cy t n k->k<=e/\e<t.length
 |0,k,e,h=>by simp[cy]at h
 |n+1,k,e,h=>by
  unfold cy at h;have a:=pS t k
  split at h
  .obtain rfl|h:=List.mem_cons.1 h
   .exact⟨bG _,by assumption⟩
   .have:=yX t n _ e h;omega
  .simp at h
theorem DY {t:List Ins} {j k e:Nat} (h:(eu t j)[k]?=some e):j<e/\e<t.length:=by
 unfold eu at h
 split at h
 .have:=yX t _ _ e (a9 h);omega
 .simp at h
theorem A6 (t:List Ins) (j:Nat):(eu t j).length<=3:=by
 unfold eu
 split
 .rename_i y _
  have:=oY t (ay y.op) (j+1)
  have a:ay y.op<=3:=by
   unfold ay
   repeat' split
   all_goals omega
  omega
 .simp
def eN (l:List XIt):Prop:= ∀x∈l,x.num<=3000
theorem eN.app {l l':List XIt} (h:eN l) (h':eN l'):eN (l++l'):=λx hx=>(gH hx).elim (h x) (h' x)
theorem eN.one {x:XIt} (h:x.num<=3000):eN [x]:=λy hy=>by rw[List.mem_singleton.1 hy];exact h
theorem eN.aim {l:List XIt} (h:eN l) (j:Nat) (hl:l.length<=3000):eN (aimX j l):=by
 unfold aimX
 split
 .intro x hx;obtain h1|h1:=List.mem_or_eq_of_mem_set hx
  .exact h x h1
  .rw[h1];exact hl
 .exact h
theorem eN.last {x:XIt} (h:x.num<=3000):eN (gV x):=by
 unfold gV;intro y a;obtain rfl|a:=List.mem_cons.1 a
 .exact h
 .split at a
  .exact eN.one (by show(0:Nat)<=3000;omega) y a
  .simp at a
theorem yl {x:XIt} {p:Nat->List XIt->List XIt} {l:List XIt} (hx:x.num<=3000) (hm: ∀k l,l.length<=(p k l).length) (hp: ∀k l,eN l->(p k l).length<=3000->eN (p k l)) (hb:(iX x p l).length<=3000) (hl:eN l):eN (iX x p l):=by
 have lay: ∀c,eN [dj c]:=λc=>eN.one (by show(0:Nat)<=3000;omega)
 have a0:=hm 0 l;have a1:=hm 1 (p 0 l);have a:=hm 1 (p 0 l++ [dj 100]);have b:=hm 1 (p 0 l++ [dj 102]);have d:=hm 2 (aimX (p 0 l).length (p 1 (p 0 l++ [dj 102])++ [dj 106]));simp only[fX,aV,fM]at a b d;unfold iX at hb⊢
 by_cases h44:x.op.toNat=44
 .rw[if_pos h44]at hb⊢;exact hp 1 _ ((hp 0 l hl (by omega)).app (lay _)) hb
 rw[if_neg h44]at hb⊢
 by_cases h105:x.op.toNat=105
 .rw[if_pos h105]at hb⊢;unfold jT at hb⊢;rw[fX]at hb;exact(hp 2 _ (((hp 1 _ ((hp 0 l hl (by omega)).app (lay _)) (by omega)).app (lay _)).aim _ (by simp only[aV,fM];omega)) hb).aim _ hb
 rw[if_neg h105]at hb⊢
 by_cases h111:x.op.toNat=111
 .rw[if_pos h111]at hb⊢;unfold oD at hb⊢;simp only[fX,aV,fM]at hb;have c1:eN (p 1 (p 0 l++ [dj 102])):=hp 1 _ ((hp 0 l hl (by omega)).app (lay _)) (by omega);have c2:eN [(⟨0,106,45,l.length,none,0,0⟩:XIt)]:=eN.one (by show l.length<=3000;omega);exact(((c1.app (lay _)).app c2).aim _ (by simp only[aV,fM];omega)).app (lay _)
 .rw[if_neg h111]at hb⊢;rw[aV]at hb;exact(hp 1 _ (hp 0 l hl (by omega)) (by omega)).app (eN.last hx)
theorem rg {is:List Ins} (hs: ∀y∈is,(bQ y).num<=3000): ∀(f j:Nat) (l:List XIt),eN l->(iL is f j l).length<=3000->eN (iL is f j l)
 |0,j,l,hl,_=>hl
 |f+1,j,l,hl,hb=>by
  cases hy:is[j]? with
  |none=>rw[iL,hy];exact hl
  |some y=>
   rw[iY hy]at hb⊢;refine yl (hs y (a9 hy)) (sJ is f j) (λk l hl hb=> ?_) hb hl;unfold gj at hb⊢
   split at hb
   .exact rg hs f _ l hl hb
   .exact hl
section
variable {w0 w w':World} {cb:Nat} {X:bK} {vl vi v:Value} {l:List XIt}
theorem wE {is:List Ins} (hI:ItB w0 0 vi X.items) (hN:mB w0 0 X.items is) (hn:is.length<=24): ∀(f j:Nat),j<is.length->is.length<=j+f-> ∀(w:World) (v:Value) (l:List XIt),CmS w0 w cb X vl vi v l->(iL is f j l).length<=3000->
  Calls prog 159 #[.pointer (some ⟨cb,0,none⟩),.int .i64 j] w (CmR w0 w cb X vl vi v (iL is f j l))
 |0,j,hj,hf,_,_,_,_,_=>by omega
 |f+1,j,hj,hf,w,v,l,h,hb=>by
  have d:=aM hj;have g:=hN.len;have hx:=aM (show j<X.items.length by omega);generalize is[j]=y at d;generalize X.items[j]=x at hx;obtain⟨_,g1,g2,m,b⟩:=hN.at' j y x d hx;rw[iY d,<-A4 g1 g2 m]at hb⊢;refine A5 h X.items j x hI hx (by omega) (gj is f j) (sJ is f j) hb ?_;intro k p Y v' l' e a;obtain⟨a',c',c⟩:=aA b;injection c with e1 e2 e3;unfold gj at a⊢
  cases hi:(eu is j)[k]? with
  |none=>
   rw[hi]at a;exact yi e x k (by rw[e2];exact List.getElem?_eq_none_iff.1 hi) (by omega)
  |some i=>
   rw[hi]at a;obtain⟨q,n⟩:=DY hi;exact CL e x k i (by omega) (eu is j) hi b (A6 is j) _ (λZ hZ=>wE hI hN hn f i n (by omega) Z v' l' hZ a)
theorem ua {is:List Ins} (hI:ItB w 0 vi X.items) (hN:mB w 0 X.items is) (hn:is.length<=24) (h0:0<is.length) (hs: ∀y∈is,(bQ y).num<=3000):
  Calls prog 95 #[.agg #[.int .u8 X.cls.toNat,.int .i64 X.meth,.int .u8 X.ans.toNat,vl,vi]] w λen w'=>B_ w w'/\ ∃v',en= .returned v'/\ItB w' 0 v' (iL is 24 0 []++ [dj 116])/\(iL is 24 0 []++ [dj 116]).length<=200/\eN (iL is 24 0 []++ [dj 116]):=by
 have m:=(rf is 24 0 []).2;have z:=tO (t:=is) (k:=0) (by omega);have f:=rg hs 24 0 [] (λx hx=>by simp at hx) (by simp at m;omega);have g:(iL is 24 0 []).length<=96:=by simp at m;omega
 obtain⟨W,h⟩: ∃W,(w.alloc (.cells #[.int .u8 X.cls.toNat,.int .i64 X.meth,.int .u8 X.ans.toNat,vl,vi] 115)).alloc (.cells #[.int .u8 X.cls.toNat,.int .i64 X.meth,.int .u8 X.ans.toNat,vl,vi,S_] 246)=W:=⟨_,rfl⟩;have r:B_ w W:=h▸(ag _ _ _).trans (ag _ _ _);have s:CmB W (w.heap.size+1) (.int .u8 X.cls.toNat) (.int .i64 X.meth) (.int .u8 X.ans.toNat) vl vi S_:=h▸aw (by simp) _;have v:CmS w W (w.heap.size+1) X vl vi S_ []:=⟨r,s,⟨rfl,Or.inl ⟨rfl,rfl⟩⟩,by omega⟩;have i:=hid (wE hI hN hn 24 0 h0 (by omega) W _ _ v (by omega));obtain⟨L,d⟩: ∃L,iL is 24 0 []=L:=⟨_,rfl⟩
 rw[d]at i f g⊢;have q:=hid h;clear m z d v s r hI hN hs h
 go_in
 go_wp2_with fail;rw[q.out];refine i.out.mono ?_;rintro en w1 ⟨rfl,j,v1,e,n⟩;have b:=hid (e.lay (by omega) 116);clear i j n e q;go_wp2_with fail;refine b.out.mono ?_;rintro en w2 ⟨rfl,l,v2,a,p⟩;have c5:=ce5 a.blk;have hcl:=ae a.blk;have c:=hid a;clear b l p a;go_wp2_with fail;exact cV (v2) results95 rfl rfl ⟨c.out.old,v2,rfl,dh c.out.its (Nat.zero_le _),by simp;omega,f.app (eN.one (by show(0:Nat)<=3000;omega))⟩
end
theorem kC {W w:World} {g:Nat} (c:UInt8) (hg:W.heap.size=g) (hb:B_ (W.alloc (.cells #[.int .u8 c.toNat] 5)) w):(convert 112 9 (.slice (some ⟨g,0,none⟩) 1 1)).run prog w= .ok (.string ⟨#[c]⟩) w:=
 iF ((kT W _ c rfl g hg).but hb (λ_ _ h=>h))
def wHx (X:bK):L_:=if X.cls.toNat=45 then 59::X.zy else X.cls::(Lib.itoa X.meth++X.zy.drop 2)
theorem rL (X:bK) (vl vi:Value) (w:World) (hO:BtB w 0 vl X.zy) (hl:X.zy.length<=1000) (hm:X.meth<=3000) (ht:fd w):
  Calls prog 161 #[.agg #[.int .u8 X.cls.toNat,.int .i64 X.meth,.int .u8 X.ans.toNat,vl,vi]] w (CJ w 3000 (wHx X)):=by
 have HT:=hid ht;obtain⟨cls,meth,ans,zy,items⟩:=X;dsimp only at hO hl hm;have D:=hid (λf hf w1 (hB:B_ w w1)=>mL vl zy f w1 (hO.but hB (λ_ _ h=>h)) hl hf);have I:(w.alloc (.cells #[.int .u8 cls.toNat,.int .i64 meth,.int .u8 ans.toNat,vl,vi] 115)).heap[w.heap.size]?=some (.cells #[.int .u8 cls.toNat,.int .i64 meth,.int .u8 ans.toNat,vl,vi] 115):=bj w _;have F:=hid I;have t:Hid (B_ w (w.alloc (.cells #[.int .u8 cls.toNat,.int .i64 meth,.int .u8 ans.toNat,vl,vi] 115))):=hid (ag _ _ _);clear ht hO I
 go_in
 by_cases h45:cls.toNat=45
 .have G:((cls.toNat:Int)==45)=true:=bA 45 (by omega);have A:=hid h45;clear h45;go_wp2_with fail;refine(D.out 0 (by omega) _ t.out).mono ?_;rintro en w1 ⟨S,rfl,z,y,e⟩;have M:=hid y;clear y;have c:=hid (t.out.trans e);clear e F t D;have P:(⟨#[59]⟩:ByteArray).size+S.size<=200000:=by show 1+S.size<=200000;omega
  go_wp2_with fail;exact ra results161 rfl rfl ⟨_,rfl,by simp only[da];show 1+S.size<=3000;omega,by have s:=M.out;have r:=A.out;simp[wHx,dq,r,s],c.out⟩
 .have G:((cls.toNat:Int)==45)=false:=aX 45 (by omega);have A:=hid h45;clear h45;go_wp2_with fail;refine(D.out 2 (by omega) _ t.out).mono ?_;rintro en w1 ⟨x,rfl,Y,E,e⟩;have q:=hid E;clear E;have n:=e.kp F.out;have c:=hid (t.out.trans e);clear e F t D;have E:=ce0 n;have O:=ce1 n;have B:=ae n;clear n;go_wp2_with fail;have i:B_ w1 w1.drew:=aD _ _;refine dr (B_ w1) 10 ?_;have fSA:=hid (λwS (h:(B_ w1) wS)=>(And.intro (h.kc E B) (h.kc O B)));refine cW [0,1,4,5,8] ?_
  iterate 5 (refine dt (v:=?_) rfl i ?_ ?_;rotate_left;(focus (intro wS h;obtain⟨Q,T⟩:=fSA.out wS h;clear h;go_simp;try rfl));dsimp only[Act.put];try simp only[bW])
  try clear fSA
  revert i;generalize w1.drew=w2;intro i;refine kF (k1:=2) (o1:= ?oA2) (k2:=6) (o2:= ?oA6) ?hoA2 ?hoA6 ?hlA2_6 ?hrA2_6 ?stA2 ?stA6
  case hoA2=>rfl
  case hoA6=>rfl
  case hlA2_6=>decide
  case hrA2_6=>kernel_rfl
  case' stA2=>
   intro KS hKS;go_simp;have H:B_ w2 (w2.alloc (.cells #[.int .u8 cls.toNat] 5)):=ag _ _ _;have b:=i.trans H;refine hKS.out _ _ (λ_=>b) ?_;clear hKS KS;refine kF (k1:=3) (o1:= ?oB3) (k2:=6) (o2:= ?oB6) ?hoB3 ?hoB6 ?hlB3_6 ?hrB3_6 ?stB3 ?stB6
   case hoB3=>rfl
   case hoB6=>rfl
   case hlB3_6=>decide
   case hrB3_6=>kernel_rfl
   case' stB3=>
    intro KS hKS;have l:=kC cls rfl (cq _ (w2.alloc (.cells #[.int .u8 cls.toNat] 5)));go_simp;refine hKS.out _ _ (λ_=>b) ?_;clear hKS KS;refine aG (k:=6) rfl ?_;intro KS hKS;go_simp;refine(iI meth (by omega) _ (HT.out.but (c.out.trans b))).mono ?_;rintro en C ⟨d,rfl,L,p,g⟩;have j:=hid p;clear p;have a:=b.trans g;refine hKS.out _ _ (λ_=>a) ?_;clear hKS KS l;have J:(⟨#[cls]⟩:ByteArray).size+d.size<=200000:=by show 1+d.size<=200000;omega
    refine aG (k:=7) rfl ?_;intro KS hKS;go_simp;rw[if_neg (by show¬_<1+d.size;omega)];refine hKS.out _ _ (λ_=>a) ?_;clear hKS KS;refine aG (k:=9) rfl ?_;intro KS hKS;go_simp;rw[if_neg (by show¬_<1+d.size+x.size;omega)];refine hKS.out _ _ (λ_=>a) ?_;clear hKS KS;refine aG (k:=10) rfl ?_;intro KS hKS;go_simp;refine hKS.out _ _ nofun ?_;clear hKS KS;refine dg rfl ?_;go_wp2_with fail;exact ra results161 rfl rfl ⟨_,rfl,by simp only[da];show 1+d.size+x.size<=3000;omega,by have s:=q.out;have m:=j.out;have r:=A.out;simp[wHx,dq,r,s,m],c.out.trans a⟩
   case' stB6=>
    intro KS hKS;go_simp;refine(iI meth (by omega) _ (HT.out.but (c.out.trans b))).mono ?_;rintro en C ⟨d,rfl,L,p,g⟩;have j:=hid p;clear p;have a:=b.trans g;refine hKS.out _ _ (λ_=>a) ?_;clear hKS KS;have l:=kC cls rfl g;refine aG (k:=3) rfl ?_;intro KS hKS;go_simp;refine hKS.out _ _ (λ_=>a) ?_;clear hKS KS l;have J:(⟨#[cls]⟩:ByteArray).size+d.size<=200000:=by show 1+d.size<=200000;omega
    refine aG (k:=7) rfl ?_;intro KS hKS;go_simp;rw[if_neg (by show¬_<1+d.size;omega)];refine hKS.out _ _ (λ_=>a) ?_;clear hKS KS;refine aG (k:=9) rfl ?_;intro KS hKS;go_simp;rw[if_neg (by show¬_<1+d.size+x.size;omega)];refine hKS.out _ _ (λ_=>a) ?_;clear hKS KS;refine aG (k:=10) rfl ?_;intro KS hKS;go_simp;refine hKS.out _ _ nofun ?_;clear hKS KS;refine dg rfl ?_;go_wp2_with fail;exact ra results161 rfl rfl ⟨_,rfl,by simp only[da];show 1+d.size+x.size<=3000;omega,by have s:=q.out;have m:=j.out;have r:=A.out;simp[wHx,dq,r,s,m],c.out.trans a⟩
  case' stA6=>
   intro KS hKS;go_simp;refine(iI meth (by omega) _ (HT.out.but (c.out.trans i))).mono ?_;rintro en C ⟨d,rfl,L,p,g⟩;have j:=hid p;clear p;have b:=i.trans g;refine hKS.out _ _ (λ_=>b) ?_;clear hKS KS;refine aG (k:=2) rfl ?_;intro KS hKS;go_simp;have H:B_ C (C.alloc (.cells #[.int .u8 cls.toNat] 5)):=ag _ _ _;have a:=b.trans H;refine hKS.out _ _ (λ_=>a) ?_;clear hKS KS;have l:=kC cls rfl (cq _ (C.alloc (.cells #[.int .u8 cls.toNat] 5)));refine aG (k:=3) rfl ?_;intro KS hKS;go_simp;refine hKS.out _ _ (λ_=>a) ?_;clear hKS KS l;have J:(⟨#[cls]⟩:ByteArray).size+d.size<=200000:=by show 1+d.size<=200000;omega
   refine aG (k:=7) rfl ?_;intro KS hKS;go_simp;rw[if_neg (by show¬_<1+d.size;omega)];refine hKS.out _ _ (λ_=>a) ?_;clear hKS KS;refine aG (k:=9) rfl ?_;intro KS hKS;go_simp;rw[if_neg (by show¬_<1+d.size+x.size;omega)];refine hKS.out _ _ (λ_=>a) ?_;clear hKS KS;refine aG (k:=10) rfl ?_;intro KS hKS;go_simp;refine hKS.out _ _ nofun ?_;clear hKS KS;refine dg rfl ?_;go_wp2_with fail;exact ra results161 rfl rfl ⟨_,rfl,by simp only[da];show 1+d.size+x.size<=3000;omega,by have s:=q.out;have m:=j.out;have r:=A.out;simp[wHx,dq,r,s,m],c.out.trans a⟩
theorem rM (X:bK) (vl vi v:Value) (l:List XIt) (w:World) (hO:BtB w 0 vl X.zy) (hlo:X.zy.length<=1000) (hm:X.meth<=3000) (hI:ItB w 0 v l) (hl:l.length<=200) (hs:eN l) (ht:fd w):
  Calls prog 96 #[.agg #[.int .u8 X.cls.toNat,.int .i64 X.meth,.int .u8 X.ans.toNat,vl,vi],v] w (CJ w 30000 (wHx X++58::(l.flatMap wIx++ [46]))):=by
 have m:Hid (B_ w (w.alloc (.cells #[.int .u8 X.cls.toNat,.int .i64 X.meth,.int .u8 X.ans.toNat,vl,vi] 115))):=hid (ag _ _ _);have B:=hid (rL X vl vi _ (hO.but m.out (λ_ _ h=>h)) hlo hm (ht.but m.out));have E:=hid (λx hx w1 (n:B_ w w1)=>rc x w1 (ht.but n) (hs x hx));unfold ItB at hI;obtain⟨av,cv,rfl⟩:=aA hI;have D:=hid hI;clear ht hs hI hO
 go_in
 go_wp2_with fail;refine B.out.mono ?_;rintro en w1 ⟨S,rfl,z,y,e⟩;have F:=hid y;clear y;have n:=m.out.trans e;have P:S.size+(⟨#[58]⟩:ByteArray).size<=200000:=by show S.size+1<=200000;omega
 clear B m e;go_wp2_with fail
 go_loopg [5,6] l.length (λmm os ks wr=> ∃(k:Nat) (S:ByteArray),os= .string S/\S.size<=3001+100*k/\ks= .int .i64 k/\k<=l.length/\k+mm<=l.length/\l.length<=k+mm/\B_ w wr/\S.data.toList=wHx X++58::(l.take k).flatMap wIx)
 case atStart=>exact⟨0,_,rfl,by simp only[da];show S.size+1<=3001+0;omega,rfl,by omega,by omega,by omega,n,by simp[dq,F.out]⟩
 case round=>
  obtain⟨k,S',rfl,O,rfl,L,s,M,c,j⟩:=hrel;have d:=hid j;clear s n P z j
  by_cases hlt:k<l.length
  .have t:(k:Int)<(l.length:Int):=by omega
   obtain⟨x,hx⟩: ∃x,l[k]=x:=⟨_,rfl⟩;have b:=aM hlt;rw[hx]at b;obtain⟨g,H,I,J,a⟩:=aL (ah D.out c (λ_ _ h=>h)) (by omega)
   cases H
   have Q:wr.cell? ⟨g,k*5,none⟩=some _:=a _ _ (aW (k:=0) b (by omega));have T:wr.cell? ⟨g,k*5+1,none⟩=some _:=a _ _ (aW (k:=1) b (by omega));have Y:wr.cell? ⟨g,k*5+2,none⟩=some _:=a _ _ (aW (k:=2) b (by omega));have Z:wr.cell? ⟨g,k*5+3,none⟩=some _:=a _ _ (aW (k:=3) b (by omega));have q4:wr.cell? ⟨g,k*5+4,none⟩=some _:=a _ _ (aW (k:=4) b (by omega));have q:=hid (show(l.take (k+1)).flatMap wIx=(l.take k).flatMap wIx++wIx x from by rw[kj hlt,hx,List.flatMap_append];simp);have p:=hid (E.out x (a9 b) wr c);unfold cR at p;clear a hx b;go_wp2_with fail;refine p.out.mono ?_;rintro en w2 ⟨G,rfl,z2,C,f⟩
   have r:=hid C;clear C;have A:S'.size+G.size<=200000:=by omega
   have i:=c.trans f;clear p f Q T Y Z q4;go_wp2_with fail
   go_roundg (l.length-(k+1))
   case measure=>omega
   case rel=>exact⟨k+1,_,rfl,by simp only[da];omega,by simp,by omega,by omega,by omega,i,by rw[dq,d.out,r.out,q.out];simp⟩
  .have t: ¬(k:Int)<(l.length:Int):=by omega
   have A:S'.size+(⟨#[46]⟩:ByteArray).size<=200000:=by show S'.size+1<=200000;omega
   go_wp2_with fail;exact ra results96 rfl rfl ⟨_,rfl,by simp only[da];show S'.size+1<=30000;omega,by rw[dq,d.out,g8 (by omega)];simp,c⟩
def F4 (w:World) (n:Nat) (L:L_) (en:Ending) (w':World):Prop:= ∃s:ByteArray,en= .returned (.string s)/\0<s.size/\s.size<=n/\s.data.toList=L/\B_ w w'
def wCx (cs:List bP) (x:bP):L_:=x.par::(x.fields.drop (bV cs x.par).length++ [46])
def wSx (g:Sig):L_:=[g.arg,g.ret,46]
def wBx (cs:List bP) (ms:List Sig):L_:=cs.flatMap (wCx cs)++59::(ms.flatMap wSx++ [59])
theorem uc (b:Nat) (cs:List bP) (ms:List Sig) (w:World) (hC:TxC w b cs) (hM:TxM w b ms) (hn:cs.length<=10) (hf: ∀x∈cs,x.fields.length<=1000) (hm:ms.length<=10):
  Calls prog 94 #[.pointer (some ⟨b,0,none⟩)] w (F4 w 40000 (wBx cs ms)):=by
 have HC:=hid hC;obtain⟨v0,lc,b7,E,O,z,F⟩:=hC;obtain⟨v1,b8,_,P⟩:=hM;obtain⟨ac,cc,rfl⟩:=aA O;obtain⟨am,cm,rfl⟩:=aA P;have a3:lc.length=cs.length:=by rw[<-z];simp
 have b0:=hid O;have b1:=hid P;have a7:=hid F;have HF:=hid hf;have H:=hid z;have b6:lc.length<=10:=by omega
 have a8:=hid a3;clear O P F hf a3 z
 go_in
 go_wp2_with fail
 go_loopg [3,4] lc.length (λmm os ks wr=> ∃(k:Nat) (S:ByteArray),os= .string S/\S.size<=3000*k/\ks= .int .i64 k/\k<=lc.length/\k+mm<=lc.length/\lc.length<=k+mm/\B_ w wr/\S.data.toList=(cs.take k).flatMap (wCx cs))
 case atStart=>exact⟨0,_,rfl,by show 0<=_;omega,rfl,by omega,by omega,by omega,cq _ _,by simp⟩
 case round=>
  obtain⟨k,S',rfl,a4,rfl,a1,Q,a2,c,Y⟩:=hrel;have I:=hid Y;clear Q Y;have c0:=c.kc b7 E;have Z:b<wr.heap.size:=aP E c.size
  by_cases hlt:k<lc.length
  .have G:(k:Int)<(lc.length:Int):=by omega
   obtain⟨x,hx⟩: ∃x,lc[k]=x:=⟨_,rfl⟩;have e:=aM hlt;rw[hx]at e;obtain⟨x,vf⟩:=x;obtain⟨g,e1,b4,b5,d⟩:=aL (ah b0.out c (λ_ _ h=>h)) (by omega)
   cases e1
   have q0:wr.cell? ⟨g,k*2,none⟩=some (.int .u8 x.par.toNat):=d _ _ (jD e);have q1:wr.cell? ⟨g,k*2+1,none⟩=some vf:=d _ _ (jE e)
   have t:=hid (show(cs.take (k+1)).flatMap (wCx cs)=(cs.take k).flatMap (wCx cs)++(x.par::(x.fields.drop (bV cs x.par).length++ [46]))from by
    have b2:cs[k]?=some x:=by rw[<-H.out];simp[e]
    obtain⟨h1,h2⟩:=bn b2;rw[kj h1,h2,List.flatMap_append];simp[wCx])
   have A:=a9 e;have M:BtB wr 0 vf x.fields:=(a7.out _ A).but c (λ_ _ h=>h);have F:x.fields.length<=1000:=HF.out x (by rw[<-H.out];exact List.mem_map_of_mem (f:=(·.1)) A);clear d hx e A;obtain⟨af,cf,rfl⟩:=aA M;have a0:=bj wr (.cells #[.int .u8 x.par.toNat,.slice af x.fields.length cf] 240);have L:B_ wr (wr.alloc (.cells #[.int .u8 x.par.toNat,.slice af x.fields.length cf] 240)):=ag _ _ _;have D:=hid (nM b cs x.par _ (by omega) ((HC.out.but c).but L))
   have b3:(bV cs x.par).length<=1000:=by
    unfold bV
    split
    .cases he:cs[x.par.toNat-65]? with
     |none=>simp
     |some y=>exact HF.out y (a9 he)
    .simp
   have J:=hid (λw1 (hB:B_ wr w1)=>mL _ x.fields (bV cs x.par).length w1 (M.but hB (λ_ _ h=>h)) F b3);generalize (bV cs x.par).length=nf at*;have s:=hid a0;have m:=hid L;clear a0 L M;go_wp2_with fail;revert s m D;generalize (wr.alloc (.cells #[.int .u8 x.par.toNat,.slice af x.fields.length cf] 240))=w1;intro D s m;refine D.out.mono ?_;rintro en B ⟨rfl,rfl⟩;clear D q0 q1 c0;have y0:=ce0 s.out;have y1:=ce1 s.out;have a5:=ae s.out;go_wp2_with fail;have q:B_ B B.drew:=aD _ _;refine dr (B_ B) 12 ?_;have fSA:=hid (λwS (h:(B_ B) wS)=>(And.intro (h.kc y0 a5) (h.kc y1 a5)))
   refine cW [0,1,2,5,6,7] ?_
   iterate 6 (refine dt (v:=?_) rfl q ?_ ?_;rotate_left;(focus (intro wS h;obtain⟨q0,q1⟩:=fSA.out wS h;clear h;go_simp;try rfl));dsimp only[Act.put];try simp only[bW])
   try clear fSA
   revert q;generalize B.drew=w2;intro q;refine kF (k1:=3) (o1:= ?oA3) (k2:=8) (o2:= ?oA8) ?hoA3 ?hoA8 ?hlA3_8 ?hrA3_8 ?stA3 ?stA8
   case hoA3=>rfl
   case hoA8=>rfl
   case hlA3_8=>decide
   case hrA3_8=>kernel_rfl
   case' stA3=>
    intro KS hKS;go_simp;have hA:B_ w2 (w2.alloc (.cells #[.int .u8 x.par.toNat] 5)):=ag _ _ _;have l:=q.trans hA;refine hKS.out _ _ (λ_=>l) ?_;clear hKS KS;refine kF (k1:=4) (o1:= ?oB4) (k2:=8) (o2:= ?oB8) ?hoB4 ?hoB8 ?hlB4_8 ?hrB4_8 ?stB4 ?stB8
    case hoB4=>rfl
    case hoB8=>rfl
    case hlB4_8=>decide
    case hrB4_8=>kernel_rfl
    case' stB4=>
     intro KS hKS;have r:=kC x.par rfl (cq _ (w2.alloc (.cells #[.int .u8 x.par.toNat] 5)));go_simp;refine hKS.out _ _ (λ_=>l) ?_;clear hKS KS;refine aG (k:=8) rfl ?_;intro KS hKS;go_simp;refine(J.out _ (m.out.trans l)).mono ?_;rintro en w3 ⟨j,rfl,z3,C,p⟩;have n:=hid C;clear C;have a:=l.trans p;refine hKS.out _ _ (λ_=>a) ?_;clear hKS KS r;refine aG (k:=9) rfl ?_;intro KS hKS;go_simp;rw[if_neg (by show¬_<1+j.size;omega)];refine hKS.out _ _ (λ_=>a) ?_;clear hKS KS;refine aG (k:=10) rfl ?_;intro KS hKS;go_simp;rw[if_neg (by show¬_<1+j.size+1;omega)];refine hKS.out _ _ (λ_=>a) ?_;clear hKS KS
     refine aG (k:=11) rfl ?_;intro KS hKS;go_simp;rw[if_neg (by show¬_<S'.size+(1+j.size+1);omega)];refine hKS.out _ _ (λ_=>a) ?_;clear hKS KS;refine aG (k:=12) rfl ?_;intro KS hKS;go_simp;refine hKS.out _ _ nofun ?_;clear hKS KS;refine dg rfl ?_;go_wp2_with fail
     go_roundg (lc.length-(k+1))
     case measure=>omega
     case rel=>exact⟨k+1,_,rfl,by simp only[da];show S'.size+(1+j.size+1)<=_;omega,by simp,by omega,by omega,by omega,c.trans (m.out.trans a),by rw[t.out];simp[dq,I.out,n.out]⟩
    case' stB8=>
     intro KS hKS;go_simp;refine(J.out _ (m.out.trans l)).mono ?_;rintro en w3 ⟨j,rfl,z3,C,p⟩;have n:=hid C;clear C;have a:=l.trans p;refine hKS.out _ _ (λ_=>a) ?_;clear hKS KS;have r:=kC x.par rfl p;refine aG (k:=4) rfl ?_;intro KS hKS;go_simp;refine hKS.out _ _ (λ_=>a) ?_;clear hKS KS r;refine aG (k:=9) rfl ?_;intro KS hKS;go_simp;rw[if_neg (by show¬_<1+j.size;omega)];refine hKS.out _ _ (λ_=>a) ?_;clear hKS KS;refine aG (k:=10) rfl ?_;intro KS hKS;go_simp;rw[if_neg (by show¬_<1+j.size+1;omega)];refine hKS.out _ _ (λ_=>a) ?_;clear hKS KS;refine aG (k:=11) rfl ?_;intro KS hKS;go_simp
     rw[if_neg (by show¬_<S'.size+(1+j.size+1);omega)];refine hKS.out _ _ (λ_=>a) ?_;clear hKS KS;refine aG (k:=12) rfl ?_;intro KS hKS;go_simp;refine hKS.out _ _ nofun ?_;clear hKS KS;refine dg rfl ?_;go_wp2_with fail
     go_roundg (lc.length-(k+1))
     case measure=>omega
     case rel=>exact⟨k+1,_,rfl,by simp only[da];show S'.size+(1+j.size+1)<=_;omega,by simp,by omega,by omega,by omega,c.trans (m.out.trans a),by rw[t.out];simp[dq,I.out,n.out]⟩
   case' stA8=>
    intro KS hKS;go_simp;refine(J.out _ (m.out.trans q)).mono ?_;rintro en w3 ⟨j,rfl,z3,C,p⟩;have n:=hid C;clear C;have l:=q.trans p;refine hKS.out _ _ (λ_=>l) ?_;clear hKS KS;refine aG (k:=3) rfl ?_;intro KS hKS;go_simp;have hA:B_ w3 (w3.alloc (.cells #[.int .u8 x.par.toNat] 5)):=ag _ _ _;have a:=l.trans hA;refine hKS.out _ _ (λ_=>a) ?_;clear hKS KS;have r:=kC x.par rfl (cq _ (w3.alloc (.cells #[.int .u8 x.par.toNat] 5)));refine aG (k:=4) rfl ?_;intro KS hKS;go_simp;refine hKS.out _ _ (λ_=>a) ?_;clear hKS KS r;refine aG (k:=9) rfl ?_;intro KS hKS;go_simp;rw[if_neg (by show¬_<1+j.size;omega)]
    refine hKS.out _ _ (λ_=>a) ?_;clear hKS KS;refine aG (k:=10) rfl ?_;intro KS hKS;go_simp;rw[if_neg (by show¬_<1+j.size+1;omega)];refine hKS.out _ _ (λ_=>a) ?_;clear hKS KS;refine aG (k:=11) rfl ?_;intro KS hKS;go_simp;rw[if_neg (by show¬_<S'.size+(1+j.size+1);omega)];refine hKS.out _ _ (λ_=>a) ?_;clear hKS KS;refine aG (k:=12) rfl ?_;intro KS hKS;go_simp;refine hKS.out _ _ nofun ?_;clear hKS KS;refine dg rfl ?_;go_wp2_with fail
    go_roundg (lc.length-(k+1))
    case measure=>omega
    case rel=>exact⟨k+1,_,rfl,by simp only[da];show S'.size+(1+j.size+1)<=_;omega,by simp,by omega,by omega,by omega,c.trans (m.out.trans a),by rw[t.out];simp[dq,I.out,n.out]⟩
  .have G: ¬(k:Int)<(lc.length:Int):=by omega
   have hz:S'.size+(⟨#[59]⟩:ByteArray).size<=200000:=by show S'.size+1<=200000;omega
   have X:=c;go_wp2_with fail
   go_loopg [3,7] ms.length (λmm os ks wr=> ∃(k:Nat) (S:ByteArray),os= .string S/\S.size<=30001+3*k/\ks= .int .i64 k/\k<=ms.length/\k+mm<=ms.length/\ms.length<=k+mm/\B_ w wr/\S.data.toList=cs.flatMap (wCx cs)++59::(ms.take k).flatMap wSx)
   case atStart=>exact⟨0,_,rfl,by simp only[da];show S'.size+1<=_;omega,rfl,by omega,by omega,by omega,X,by have h:=I.out;rw[g8 (by have:=a8.out;omega)]at h;simp[dq,h]⟩
   case round=>
    clear X hz a4 G a1 a2 hlt c0 Z c I;obtain⟨i,T,rfl,a4,rfl,a1,Q,a2,c,Y⟩:=hrel;have I:=hid Y;clear Q Y;have c1:=c.kc b8 E;have Z:b<wr.heap.size:=aP E c.size
    by_cases hlt:i<ms.length
    .have G:(i:Int)<(ms.length:Int):=by omega
     obtain⟨x,hx⟩: ∃x,ms[i]=x:=⟨_,rfl⟩;have e:=aM hlt;rw[hx]at e;obtain⟨xa,xr⟩:=x;obtain⟨g,e1,b4,b5,d⟩:=aL (ah b1.out c (λ_ _ h=>h)) (by omega)
     cases e1
     have q0:wr.cell? ⟨g,i*2,none⟩=some (.int .u8 xa.toNat):=d _ _ (jz (k:=0) e (by omega));have q1:wr.cell? ⟨g,i*2+1,none⟩=some (.int .u8 xr.toNat):=d _ _ (jz (k:=1) e (by omega));have t:=hid (show(ms.take (i+1)).flatMap wSx=(ms.take i).flatMap wSx++ [xa,xr,46]from by rw[kj hlt,hx,List.flatMap_append];simp[wSx])
     obtain⟨j,r,z3,C⟩: ∃j:ByteArray,(∀(W:World) (g:Nat),W.heap.size=g->(convert 112 9 (.slice (some ⟨g,0,none⟩) 3 3)).run prog (W.alloc (.cells #[.int .u8 xa.toNat,.int .u8 xr.toNat,.int .u8 46] 5))= .ok (.string j) (W.alloc (.cells #[.int .u8 xa.toNat,.int .u8 xr.toNat,.int .u8 46] 5)))/\j.size=3/\j.data.toList=[xa,xr,46]:=
      ⟨⟨#[xa,xr,46]⟩,λW g h=>h▸iF (BtB.lit W 0 (Nat.zero_le _) [xa,xr,46] (by simp)),rfl,rfl⟩
     have HZ:=hid z3;have n:=hid C;have hz:T.size+j.size<=200000:=by omega
     have a6:=hid (c.trans ((ag (λ_=>False) wr (.cells #[.int .u8 xa.toNat,.int .u8 xr.toNat] 243)).trans (ag _ _ (.cells #[.int .u8 xa.toNat,.int .u8 xr.toNat,.int .u8 46] 5))));clear d hx e z3 C;go_wp2_with fail
     go_roundg (ms.length-(i+1))
     case measure=>omega
     case rel=>exact⟨i+1,_,rfl,by rw[da,HZ.out];omega,by simp,by omega,by omega,by omega,a6.out,by rw[dq,I.out,n.out,t.out];simp⟩
    .have G: ¬(i:Int)<(ms.length:Int):=by omega
     have hz:T.size+(⟨#[59]⟩:ByteArray).size<=200000:=by show T.size+1<=200000;omega
     go_wp2_with fail;exact ra results94 rfl rfl ⟨_,rfl,by simp only[da];show 0<T.size+1;omega,by simp only[da];show T.size+1<=_;omega,by rw[dq,I.out,g8 (by omega)];simp[wBx],c⟩
theorem DZ {l:List Ins} (h:full 1 l):0<l.length:=by
 cases l with
 |nil=>cases h
 |cons=>simp
def wHd (d:Bod):L_:=if d.cls<0 then 59::d.zy else UInt8.ofNat (65+d.cls.toNat)::(Lib.itoa d.meth.toNat++d.zy.drop 2)
def wDx (d:Bod):L_:=wHd d++58::((iL d.code 24 0 []++ [dj 116]).flatMap wIx++ [46])
def wAx (im:Img):L_:=wBx (im.zq.map toX) im.zx++im.zj.flatMap wDx
theorem rN (b:Nat) (im:Img) (w:World) (hT:eS w b im) (hW:iQ im) (ht:fd w):Calls prog 62 #[.pointer (some ⟨b,0,none⟩)] w (F4 w 1000000 (wAx im)):=by
 have a6: ∀x∈im.zq.map toX,x.fields.length<=1000:=by
  intro x hx;obtain⟨c,hc,rfl⟩:=List.mem_map.1 hx;obtain⟨j,hj⟩:=List.mem_iff_getElem?.1 hc;have Z:=(hW.cls j c hj).2.2.1;have J:=(bn hj).1;have h3:=hW.nc
  show c.fields.length<=1000
  omega
 obtain⟨bs,⟨v2,b5,P,lb,A,q,T⟩,t⟩:=hT.bod;have G:=hid (uc b _ _ w hT.cls hT.met (by have:=hW.nc;simp;omega) a6 (by have:=hW.ns;omega));obtain⟨ab,cb,rfl⟩:=aA A;have c6:lb.length=im.zj.length:=by rw[<-t.1,<-q];simp
 have b9:=hW.nb
 have D:=hid (λ(k:Nat) (x:bK×Value×Value) (hx:lb[k]?=some x)=>show∃d,im.zj[k]?=some d/\BdN w 0 im.zx x.1 d from by
  have hk:=(bn hx).1;have Z:bs[k]?=some x.1:=by rw[<-q];simp[hx]
  have J:=aM (show k<im.zj.length by omega);exact⟨_,J,t.2 k _ _ Z J⟩)
 have a0:=hid A;have a1:=hid T;have HW:=hid hW;have HT:=hid ht;clear A T hW ht hT t q;have b2:lb.length<=7:=by omega
 go_in
 go_wp2_with fail;refine G.out.mono ?_;rintro en w1 ⟨S,rfl,z0,z,y,L⟩;have I:=hid y;clear G y;go_wp2_with fail
 go_loopg [3,4] lb.length (λmm os ks wr=> ∃(k:Nat) (S:ByteArray),os= .string S/\0<S.size/\S.size<=40000+30000*k/\ks= .int .i64 k/\k<=lb.length/\k+mm<=lb.length/\lb.length<=k+mm/\B_ w wr/\S.data.toList=wBx (im.zq.map toX) im.zx++(im.zj.take k).flatMap wDx)
 case atStart=>exact⟨0,_,rfl,z0,by omega,rfl,by omega,by omega,by omega,L,by rw[I.out];simp⟩
 case round=>
  clear z0 z L;obtain⟨k,S',rfl,z0,d6,rfl,b7,a8,b8,f,hY⟩:=hrel;have HY:=hid hY;clear a8 hY I;have c2:=f.kc b5 P;have Q:b<wr.heap.size:=aP P f.size
  by_cases hlt:k<lb.length
  .have b0:(k:Int)<(lb.length:Int):=by omega
   obtain⟨x,hx⟩: ∃x,lb[k]=x:=⟨_,rfl⟩;have i:=aM hlt;rw[hx]at i;obtain⟨d,hd,r⟩:=D.out k x i;obtain⟨C,B⟩:=a1.out x (a9 i);obtain⟨X,vl,vi⟩:=x;dsimp only at C B r;have m:=HW.out.bod d (a9 hd);obtain⟨g,e1,n,b6,a⟩:=aL (ah a0.out f (λ_ _ h=>h)) (by omega)
   cases e1
   have q0:wr.cell? ⟨g,k*5,none⟩=some _:=a _ _ (br (k:=0) i (by omega));have q1:wr.cell? ⟨g,k*5+1,none⟩=some _:=a _ _ (br (k:=1) i (by omega));have q2:wr.cell? ⟨g,k*5+2,none⟩=some _:=a _ _ (br (k:=2) i (by omega));have q3:wr.cell? ⟨g,k*5+3,none⟩=some vl:=a _ _ (br (k:=3) i (by omega));have q4:wr.cell? ⟨g,k*5+4,none⟩=some vi:=a _ _ (br (k:=4) i (by omega))
   have s: ∀y∈d.code,(bQ y).num<=3000:=λy hy=>by
    have:=(m.code y hy).num;unfold bQ aJ
    split<;>(dsimp only;omega)
   have p:mB wr 0 X.items d.code:=by
    refine⟨r.its.len,λk y x hy hx=> ?_⟩;obtain⟨e1,e2,e3,e4,e5⟩:=r.its.at' k y x hy hx;exact⟨e1,e2,e3,e4,ah e5 f (λ_ _ h=>h)⟩
   have F:=hid (ua (X:=X) (vl:=vl) (ah B f (λ_ _ h=>h)) p m.len (DZ m.full) s);have b3:X.zy.length<=1000:=by rw[r.loc];have:=m.loc.1;omega
   have b4:X.meth<=3000:=by
    rw[r.meth]
    show d.meth.toNat<=3000
    have:=HW.out.ns;obtain h|h:=m.cls<;>omega
   have H:=hid (λw1 (hB:B_ wr w1) v l=>rM X vl vi v l w1 (C.but (f.trans hB) (λ_ _ h=>h)) b3 b4)
   have a2:=hid (show(im.zj.take (k+1)).flatMap wDx=(im.zj.take k).flatMap wDx++(wHx X++58::((iL d.code 24 0 []++ [dj 116]).flatMap wIx++ [46]))from by
    obtain⟨Z,J⟩:=bn hd
    have hh:wHd d=wHx X:=by
     unfold wHd wHx;rw[r.cls,r.meth,r.loc];have h4:=HW.out.nc;obtain h|h:=m.cls
     .simp[aR,h.1]
     .rw[if_neg (by omega),if_neg (by simp only[aR];rw[if_neg (by omega)];simp;omega)];simp only[aR];rw[if_neg (by omega)]
    rw[kj Z,J,List.flatMap_append,<-hh];simp[wDx])
   clear a hx i r C B m s p hd;go_wp2_with fail;refine F.out.mono ?_;rintro en w2 ⟨e,v',rfl,O,b1,Y⟩;have E:=hid (H.out w2 e v' _ O b1 Y (HT.out.but (f.trans e)));have a7:g<w2.heap.size:=aP n e.size;replace q0:=e.kc q0 n;replace q1:=e.kc q1 n;replace q2:=e.kc q2 n;replace q3:=e.kc q3 n;replace q4:=e.kc q4 n;replace c2:=e.kc c2 Q;have a5:b<w2.heap.size:=aP Q e.size;clear F H O Y;go_wp2_with fail;refine E.out.mono ?_;rintro en w3 ⟨S3,rfl,z3,y3,M⟩;have a3:=hid y3;clear y3;have e0:S'.size+S3.size<=1000000:=by omega
   have a4:=(f.trans e).trans M;clear E e M q0 q1 q2 q3 q4 c2;go_wp2_with fail
   go_roundg (lb.length-(k+1))
   case measure=>omega
   case rel=>exact⟨k+1,_,rfl,by rw[da];omega,by rw[da];omega,by simp,by omega,by omega,by omega,a4,by rw[dq,HY.out,a3.out,a2.out];simp⟩
  .have b0: ¬(k:Int)<(lb.length:Int):=by omega
   go_wp2_with fail;exact ra results62 rfl rfl ⟨_,rfl,z0,by omega,by rw[HY.out,g8 (by omega)];rfl,f⟩
theorem oF (s:ByteArray) (w:World) (hmax:s.size<=maxLen) (ht:fd w):
  Calls prog 35 #[.string s] w λen w'=>(∃r:ByteArray,en= .returned (.tuple #[.string r,.int .i64 (dN s).1])/\((dN s).1=0->0<r.size/\ ∃im,dM s= .ok im/\r.data.toList=wAx im)/\((dN s).1≠0->r=⟨#[]⟩))/\B_ w w':=by
 have key:Calls prog 60 #[.string s] w λen w'=>B_ w w'/\((∃p:Int,en= .returned (.agg #[.int .i64 (dN s).1,.int .i64 p,.pointer none,S_])/\0<(dN s).1)\/((dN s).1=0/\ ∃im g,en= .returned (.agg #[.int .i64 0,.int .i64 0,.pointer (some ⟨g,0,none⟩),S_])/\eS w' g im/\iQ im/\dM s= .ok im)):=by
  refine(j8 s w hmax).mono ?_;rintro en w' ⟨B,c⟩;refine⟨B,?_⟩;unfold mG at c;unfold dN
  cases hl:dM s with
  |error e=>
   rw[hl]at c;obtain⟨e,p⟩:=e;exact Or.inl ⟨p,c,(nJ hl).1⟩
  |ok im=>
   rw[hl]at c;simp only at c⊢
   cases ht:im.zj.findIdx? (λb=> !fa im b)with
   |some k=>
    rw[ht]at c;exact Or.inl ⟨k,c,by show 0<4;omega⟩
   |none=>
    rw[ht]at c;obtain⟨g,t,x,A⟩:=c;exact Or.inr ⟨rfl,im,g,t,A,x,rfl⟩
 have q:=hid key;have HT:=hid ht;clear key ht;generalize (dN s).1=e at*
 go_in
 go_wp2_with fail;refine q.out.mono ?_;rintro en w1 ⟨d,m⟩;clear q;obtain⟨p,rfl,E⟩ | ⟨rfl,im,g,rfl,i,C,f⟩:=m
 .have D:((e:Int)!=0)=true:=by rw[bne_iff_ne];omega
  go_wp2_with fail
  go_quiet (fail)
  go_wp2_with fail;exact cU (v:= .tuple #[.string ⟨#[]⟩,.int .i64 e]) (by simp[results,results35,go_sem]) rfl ⟨⟨_,rfl,by omega,λ_=>rfl⟩,(d.trans (ag _ _ _)).trans (bp _ _ _)⟩
 .have n:=hid (λob=>rN g im (w1.alloc ob) (i.but (ag (λ_=>False) w1 ob)) C ((HT.out.but d).but (ag _ w1 ob)));have a:=hid f;clear i f;go_wp2_with fail;refine(n.out _).mono ?_;rintro en w2 ⟨S,rfl,j,z,y,l⟩;clear n;go_wp2_with fail;exact cU (v:= .tuple #[.string S,.int .i64 0]) (by simp[results,results35,go_sem]) rfl ⟨⟨S,rfl,by first|exact⟨j,im,a.out,y⟩ |exact⟨λ_=>⟨j,im,a.out,y⟩,λh=>absurd rfl h⟩ |exact⟨⟨j,im,a.out,y⟩,λh=>absurd rfl h⟩ |exact⟨⟨j,im,a.out,y⟩,trivial⟩⟩,(d.trans (ag _ _ _)).trans l⟩
end
end Go.Proofs.YtpfkkmacakjmbaaGreatDoor
