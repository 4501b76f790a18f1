import Derived.Test.YtpfkkmacakjmbaaGreatDoorP37
import Derived.Test.YtpfkkmacakjmbaaGreatDoorP29
set_option maxRecDepth 100000
set_option maxHeartbeats 6400000
set_option linter.all false
namespace Go.Proofs.YtpfkkmacakjmbaaGreatDoor
open Proofs.Tryz
section
open Go Go.RowKit Sp
attribute [local go_sem ↓] dG dH
def kM (x:XIt) (p:Nat->List XIt->List XIt) (l:List XIt):List XIt:=
 if x.op.toNat=44 then p 1 (p 0 l++ [fc 100])else if x.op.toNat=105 then kA p l else if x.op.toNat=111 then oG p l else p 1 (p 0 l)++iv x
def lx (is:List Ins):Nat->Nat->List XIt->List XIt
 |0,_,l=>l
 |f+1,j,l=>match is[j]? with
  |none=>l
  |some y=>kM (bY y) (λk l=>match(ek is j)[k]? with
   |some i=>lx is f i l
   |none=>l) l
def ly (is:List Ins) (f j k:Nat) (l:List XIt):List XIt:=match(ek is j)[k]? with
 |some i=>lx is f i l
 |none=>l
theorem sR {is:List Ins} {j:Nat} {y:Ins} (h:is[j]?=some y) (f:Nat) (l:List XIt):lx is (f+1) j l=kM (bY y) (ly is f j) l:=by
 rw[lx,h]
 rfl
theorem rx (x:XIt):1<=(iv x).length/\(iv x).length<=2:=by
 unfold iv
 split<;>simp
theorem wR {x y:XIt} (h1:x.op=y.op) (h2:x.cls=y.cls) (h3:x.num=y.num):iv x=iv y:=by
 unfold iv;rw[h1,h2,h3]
theorem zM {x y:XIt} (h1:x.op=y.op) (h2:x.cls=y.cls) (h3:x.num=y.num) (p:Nat->List XIt->List XIt) (l:List XIt):kM x p l=kM y p l:=by
 unfold kM;rw[h1,wR h1 h2 h3]
theorem nD {x:XIt} {p:Nat->List XIt->List XIt} {a b c:Nat} (l:List XIt) (h0: ∀l,l.length<=(p 0 l).length/\(p 0 l).length<=l.length+a) (h1: ∀l,l.length<=(p 1 l).length/\(p 1 l).length<=l.length+b) (h2: ∀l,l.length<=(p 2 l).length/\(p 2 l).length<=l.length+c):
  l.length<=(kM x p l).length/\(kM x p l).length<=l.length+a+b+(if x.op.toNat=105 then c else 0)+4:=by
 have hl:=rx x;have a0:=h0 l;have a1:=h1 (p 0 l);have a2:=h1 (p 0 l++ [fc 100]);have a3:=h1 (p 0 l++ [fc 102]);have a4:=h2 (aimX (p 0 l).length (p 1 (p 0 l++ [fc 102])++ [fc 106]));simp only[fy,aZ,dM]at a2 a3 a4;unfold kM
 split
 .split<;>omega
 split
 .unfold kA;rw[fy];omega
 split
 .unfold oG;simp only[fy,aZ,dM];omega
 .rw[aZ];omega
theorem CO (y:Ins):(bY y).op.toNat=105->aA y.op=3:=by
 intro h;rw[<-sE];unfold aA;rw[if_pos h]
theorem qr {is:List Ins} {f j:Nat} (IH: ∀i l,l.length<=(lx is f i l).length/\(lx is f i l).length<=l.length+4*(bO is i-i)) {k i:Nat} (hi: ∀e,(ek is j)[k]?=some e->e=i) (l:List XIt):
  l.length<=(ly is f j k l).length/\(ly is f j k l).length<=l.length+4*(bO is i-i):=by
 unfold ly
 cases h:(ek is j)[k]? with
 |none=>exact⟨b8 _,by dsimp only;omega⟩
 |some e=>
  cases hi e h
  exact IH _ l
theorem sS {is:List Ins} {f j k n:Nat} (h:(ek is j).length<=n) (hk:n<=k) (l:List XIt):ly is f j k l=l:=by
 unfold ly;rw[List.getElem?_eq_none (by omega)]
theorem nZ (t:List Ins): ∀(n k:Nat),(di t n k).length<=n
 |0,_=>b8 _
 |n+1,k=>by
  unfold di;have:=nZ t n (bO t k)
  split
  .simp;omega
  .simp
theorem CP (t:List Ins) (n k i:Nat):((di t n k)[0]?=some i->i=k)/\((di t n k)[1]?=some i->i=bO t k)/\((di t n k)[2]?=some i->i=bO t (bO t k)):=by
 have h0: ∀n k,(di t n k)[0]?=some i->i=k:=λn k h=>by
  cases n with
  |zero=>simp[di]at h
  |succ n=>
   unfold di at h
   split at h
   .simp at h;exact h.symm
   .simp at h
 have h1: ∀n k,(di t n k)[1]?=some i->i=bO t k:=λn k h=>by
  cases n with
  |zero=>simp[di]at h
  |succ n=>
   unfold di at h
   split at h
   .rw[List.getElem?_cons_succ]at h;exact h0 _ _ h
   .simp at h
 refine⟨h0 n k,h1 n k,λh=> ?_⟩
 cases n with
 |zero=>simp[di]at h
 |succ n=>
  unfold di at h
  split at h
  .rw[List.getElem?_cons_succ]at h;exact h1 _ _ h
  .simp at h
theorem oX (t:List Ins) (k:Nat):k<=bO t k:=by
 unfold bO;omega
theorem qs (is:List Ins): ∀(f i:Nat) (l:List XIt),l.length<=(lx is f i l).length/\(lx is f i l).length<=l.length+4*(bO is i-i)
 |0,i,l=>⟨b8 _,by rw[lx];omega⟩
 |f+1,j,l=>by
  have IH:=qs is f
  cases hy:is[j]? with
  |none=>rw[lx,hy];exact⟨b8 _,by dsimp only;omega⟩
  |some y=>
   rw[sR hy]
   have hp:ek is j=di is (aA y.op) (j+1):=by
    unfold ek;rw[hy]
   have q:=λe=>CP is (aA y.op) (j+1) e
   rw[<-hp]at q;have hn:=nZ is (aA y.op) (j+1);rw[<-hp]at hn;have b0:=λl=>qr IH (j:=j) (λe he=>(q e).1 he) l
   have b1:=λl=>qr IH (j:=j) (λe he=>(q e).2.1 he) l
   have b2:=λl=>qr IH (j:=j) (λe he=>(q e).2.2 he) l
   have e0:=oX is (j+1);have e1:=oX is (bO is (j+1));have e2:=oX is (bO is (bO is (j+1)));have hE:=lJ hy
   have h3:aA y.op<=3:=by
    unfold aA
    repeat' split
    all_goals omega
   have hz: ∀p,p+sk 0 (is.drop p)=p:=λp=>by simp[sk]
   have s1:j+1+sk 1 (is.drop (j+1))=bO is (j+1):=rfl;have s2:j+1+sk 2 (is.drop (j+1))=bO is (j+1)+sk 1 (is.drop (bO is (j+1))):=m9;have s3:j+1+sk 3 (is.drop (j+1))=bO is (j+1)+sk 2 (is.drop (bO is (j+1))):=m9;have s4:bO is (j+1)+sk 2 (is.drop (bO is (j+1)))=bO is (bO is (j+1))+sk 1 (is.drop (bO is (bO is (j+1)))):=m9;have s5:bO is (j+1)+sk 1 (is.drop (bO is (j+1)))=bO is (bO is (j+1)):=rfl;have s6:bO is (bO is (j+1))+sk 1 (is.drop (bO is (bO is (j+1))))=bO is (bO is (bO is (j+1))):=rfl;have a0:=CO y;have hA:aA y.op=0\/aA y.op=1\/aA y.op=2\/aA y.op=3:=by omega
   obtain hA|hA|hA|hA:=hA
   .have c0: ∀l:List XIt,l.length<=(ly is f j 0 l).length/\(ly is f j 0 l).length<=l.length+0:=λl=>by rw[sS hn (by omega)];omega
    have c1: ∀l:List XIt,l.length<=(ly is f j 1 l).length/\(ly is f j 1 l).length<=l.length+0:=λl=>by rw[sS hn (by omega)];omega
    have hL:=nD (x:=bY y) l c0 c1 b2;rw[hA,hz]at hE
    split at hL<;>omega
   .have c1: ∀l:List XIt,l.length<=(ly is f j 1 l).length/\(ly is f j 1 l).length<=l.length+0:=λl=>by rw[sS hn (by omega)];omega
    have hL:=nD (x:=bY y) l b0 c1 b2;rw[hA]at hE
    split at hL<;>omega
   .have hL:=nD (x:=bY y) l b0 b1 b2;rw[hA]at hE
    split at hL<;>omega
   .have hL:=nD (x:=bY y) l b0 b1 b2;rw[hA]at hE
    split at hL<;>omega
theorem ry (is:List Ins) (f j k:Nat) (l:List XIt):l.length<=(ly is f j k l).length:=by
 unfold ly
 split
 .exact(qs is f _ l).1
 .exact b8 _
section
variable {w0 w w':World} {cb:Nat} {X:bM} {vl vi v:Value} {l:List XIt}
theorem zN (h:CmS w0 w cb X vl vi v l) (its:List XIt) (j:Nat) (x:XIt) (hI:ItB w0 0 vi its) (hx:its[j]?=some x) (hn:its.length<=1000) (p:Nat->List XIt->List XIt) (hp: ∀k l,l.length<=(p k l).length) (hb:(kM x p l).length<=3000)
  (HP: ∀k,k<=2-> ∀Y v l,CmS w0 Y cb X vl vi v l->(p k l).length<=3000->Calls prog 210 #[.pointer (some ⟨cb,0,none⟩),dF x,.int .i64 k] Y (CmR w0 Y cb X vl vi v (p k l))):
  Calls prog 159 #[.pointer (some ⟨cb,0,none⟩),.int .i64 j] w (CmR w0 w cb X vl vi v (kM x p l)):=by
 obtain⟨LN,a8⟩: ∃LN,kM x p l=LN:=⟨_,rfl⟩;rw[a8]at hb⊢;have a5:=hid a8;clear a8;have c0:=ce0 h.blk;have c1:=ce1 h.blk;have c2:=ce2 h.blk;have c3:=ce3 h.blk;have c4:=ce4 h.blk;have b4:=ae h.blk;have b0:=hid (qc X.cls X.meth X.ans vl vi its j x w (aj hI h.old (λ_ _ h=>h)) hx hn);have a0:=hid HP;have a1:=hid (λY (hY:CmS w0 Y cb X vl vi v l) hb=>wQ hY x p hp hb HP);have a2:=hid (λY (hY:CmS w0 Y cb X vl vi v l) hb=>zL hY x p hp hb HP);have a4:=hid (λY v l (hY:CmS w0 Y cb X vl vi v l) hb=>hY.last hb x);have a3:=hid hp;have HH:=hid h;unfold dF at a0 a1 a2 a4;clear h HP hI hx hn hp
 go_in
 go_wp2_with fail;refine b0.out.mono ?_;rintro en w1 ⟨rfl,b2⟩;have HG:=hid (HH.out.begin b2.but x);unfold dF;clear b0 b2 c0 c1 c2 c3 c4 b4
 by_cases h44:x.op.toNat=44
 .have b3:((x.op.toNat:Int)==44)=true:=bk 44 (by omega);have HE:=hid (show LN=p 1 (p 0 l++ [fc 100])from a5.out.symm.trans (by unfold kM;rw[if_pos h44]));rw[HE.out]at hb;have n1:=a3.out 1 (p 0 l++ [fc 100]);rw[aZ,dM]at n1;clear h44 a1 a2 a4 a3;go_wp2_with fail;refine(HG.out.call (a0.out 0 (by omega) _ _ _ HG.out.s (by omega))).mono ?_;rintro en w2 ⟨rfl,v2,h2⟩;have H2:=hid h2;clear HG h2;go_wp2_with fail;refine(H2.out.lay 100 (by omega)).mono ?_;rintro en w3 ⟨rfl,v3,h3⟩;obtain⟨x0,x1,x2,x3,x4⟩:=bN h3.b.box;have b6:=h3.at';have H3:=hid h3;clear H2 h3;go_wp2_with fail;refine(H3.out.call (a0.out 1 (by omega) _ _ _ H3.out.s (by omega))).mono ?_
  rintro en w4 ⟨rfl,v4,h4⟩;rw[<-HE.out]at h4;have H4:=hid h4;clear H3 h4 x0 x1 x2 x3 x4;go_wp2_with fail;go_end0;exact H4.out.fin
 have b3:((x.op.toNat:Int)==44)=false:=aU 44 (by omega)
 by_cases h105:x.op.toNat=105
 .have a6:((x.op.toNat:Int)==105)=true:=bk 105 (by omega);have HE:=hid (show kA p l=LN from a5.out▸(by unfold kM;rw[if_neg h44,if_pos h105]));clear h44 h105 a2 a4 a3 a0;rw[HE.out]at a1;go_wp2_with fail;refine(HG.out.call (a1.out _ HG.out.s hb)).mono ?_;rintro en w2 ⟨rfl,v2,h2⟩;have H2:=hid h2;clear HG h2 a1;go_wp2_with fail;go_end0;exact H2.out.fin
 have a6:((x.op.toNat:Int)==105)=false:=aU 105 (by omega)
 by_cases h111:x.op.toNat=111
 .have a7:((x.op.toNat:Int)==111)=true:=bk 111 (by omega);have HE:=hid (show oG p l=LN from a5.out▸(by unfold kM;rw[if_neg h44,if_neg h105,if_pos h111]));clear h44 h105 h111 a1 a4 a3 a0;rw[HE.out]at a2;go_wp2_with fail;refine(HG.out.call (a2.out _ HG.out.s hb)).mono ?_;rintro en w2 ⟨rfl,v2,h2⟩;have H2:=hid h2;clear HG h2 a2;go_wp2_with fail;go_end0;exact H2.out.fin
 have a7:((x.op.toNat:Int)==111)=false:=aU 111 (by omega);have n0:=a3.out 0 l;have n1:=a3.out 1 (p 0 l);have b9:=rx x;have b1:=hid (show p 1 (p 0 l)++iv x=LN from a5.out▸(by unfold kM;rw[if_neg h44,if_neg h105,if_neg h111]));rw[<-b1.out,aZ]at hb;clear h44 h105 h111 a1 a2 a3;go_wp2_with fail;refine(HG.out.call (a0.out 0 (by omega) _ _ _ HG.out.s (by omega))).mono ?_;rintro en w2 ⟨rfl,v2,h2⟩;obtain⟨x0,x1,x2,x3,x4⟩:=bN h2.b.box;have b5:=h2.at';have H2:=hid h2;clear HG h2;go_wp2_with fail;refine(H2.out.call (a0.out 1 (by omega) _ _ _ H2.out.s (by omega))).mono ?_;rintro en w3 ⟨rfl,v3,h3⟩;clear x0 x1 x2 x3 x4 b5 H2
 obtain⟨x0,x1,x2,x3,x4⟩:=bN h3.b.box;have b6:=h3.at';have H3:=hid h3;clear h3 a0;go_wp2_with fail;refine(H3.out.call (a4.out _ _ _ H3.out.s (by omega))).mono ?_;rintro en w4 ⟨rfl,v4,h4⟩;rw[b1.out]at h4;have H4:=hid h4;clear H3 h4 x0 x1 x2 x3 x4;go_wp2_with fail;go_end0;exact H4.out.fin
end
theorem xJ (t:List Ins): ∀(n k e:Nat),e∈di t n k->k<=e/\e<t.length
 |0,k,e,h=>by simp[di]at h
 |n+1,k,e,h=>by
  unfold di at h;have h1:=oX t k
  split at h
  .obtain rfl|h:=List.mem_cons.1 h
   .exact⟨b8 _,by assumption⟩
   .have:=xJ t n _ e h;omega
  .simp at h
theorem CQ {t:List Ins} {j k e:Nat} (h:(ek t j)[k]?=some e):j<e/\e<t.length:=by
 unfold ek at h
 split at h
 .have:=xJ t _ _ e (bp h);omega
 .simp at h
theorem zO (t:List Ins) (j:Nat):(ek t j).length<=3:=by
 unfold ek
 split
 .rename_i y _
  have:=nZ t (aA y.op) (j+1)
  have h3:aA y.op<=3:=by
   unfold aA
   repeat' split
   all_goals omega
  omega
 .simp
def ey (l:List XIt):Prop:= ∀x∈l,x.num<=3000
theorem ey.app {l l':List XIt} (h:ey l) (h':ey l'):ey (l++l'):=λx hx=>(List.mem_append.1 hx).elim (h x) (h' x)
theorem ey.one {x:XIt} (h:x.num<=3000):ey [x]:=λy hy=>by rw[List.mem_singleton.1 hy];exact h
theorem ey.aim {l:List XIt} (h:ey l) (j:Nat) (hl:l.length<=3000):ey (aimX j l):=by
 unfold aimX
 split
 .intro x hx;obtain h1|h1:=List.mem_or_eq_of_mem_set hx
  .exact h x h1
  .rw[h1];exact hl
 .exact h
theorem ey.last {x:XIt} (h:x.num<=3000):ey (iv x):=by
 unfold iv;intro y hy;obtain rfl|hy:=List.mem_cons.1 hy
 .exact h
 .split at hy
  .exact ey.one (by show(0:Nat)<=3000;omega) y hy
  .simp at hy
theorem wT {x:XIt} {p:Nat->List XIt->List XIt} {l:List XIt} (hx:x.num<=3000) (hm: ∀k l,l.length<=(p k l).length) (hp: ∀k l,ey l->(p k l).length<=3000->ey (p k l)) (hb:(kM x p l).length<=3000) (hl:ey l):ey (kM x p l):=by
 have lay: ∀c,ey [fc c]:=λc=>ey.one (by show(0:Nat)<=3000;omega)
 have a0:=hm 0 l;have a1:=hm 1 (p 0 l);have a2:=hm 1 (p 0 l++ [fc 100]);have a3:=hm 1 (p 0 l++ [fc 102]);have a4:=hm 2 (aimX (p 0 l).length (p 1 (p 0 l++ [fc 102])++ [fc 106]));simp only[fy,aZ,dM]at a2 a3 a4;unfold kM at hb⊢
 by_cases h44:x.op.toNat=44
 .rw[if_pos h44]at hb⊢;exact hp 1 _ ((hp 0 l hl (by omega)).app (lay _)) hb
 rw[if_neg h44]at hb⊢
 by_cases h105:x.op.toNat=105
 .rw[if_pos h105]at hb⊢;unfold kA at hb⊢;rw[fy]at hb;exact(hp 2 _ (((hp 1 _ ((hp 0 l hl (by omega)).app (lay _)) (by omega)).app (lay _)).aim _ (by simp only[aZ,dM];omega)) hb).aim _ hb
 rw[if_neg h105]at hb⊢
 by_cases h111:x.op.toNat=111
 .rw[if_pos h111]at hb⊢;unfold oG at hb⊢;simp only[fy,aZ,dM]at hb;have c1:ey (p 1 (p 0 l++ [fc 102])):=hp 1 _ ((hp 0 l hl (by omega)).app (lay _)) (by omega);have c2:ey [(⟨0,106,45,l.length,none,0,0⟩:XIt)]:=ey.one (by show l.length<=3000;omega);exact(((c1.app (lay _)).app c2).aim _ (by simp only[aZ,dM];omega)).app (lay _)
 .rw[if_neg h111]at hb⊢;rw[aZ]at hb;exact(hp 1 _ (hp 0 l hl (by omega)) (by omega)).app (ey.last hx)
theorem qt {is:List Ins} (hs: ∀y∈is,(bY y).num<=3000): ∀(f j:Nat) (l:List XIt),ey l->(lx is f j l).length<=3000->ey (lx is f j l)
 |0,j,l,hl,_=>hl
 |f+1,j,l,hl,hb=>by
  cases hy:is[j]? with
  |none=>rw[lx,hy];exact hl
  |some y=>
   rw[sR hy]at hb⊢;refine wT (hs y (bp hy)) (ry is f j) (λk l hl hb=> ?_) hb hl;unfold ly at hb⊢
   split at hb
   .exact qt hs f _ l hl hb
   .exact hl
section
variable {w0 w w':World} {cb:Nat} {X:bM} {vl vi v:Value} {l:List XIt}
theorem vp {is:List Ins} (hI:ItB w0 0 vi X.items) (hN:lN w0 0 X.items is) (hn:is.length<=24): ∀(f j:Nat),j<is.length->is.length<=j+f-> ∀(w:World) (v:Value) (l:List XIt),CmS w0 w cb X vl vi v l->(lx is f j l).length<=3000->
  Calls prog 159 #[.pointer (some ⟨cb,0,none⟩),.int .i64 j] w (CmR w0 w cb X vl vi v (lx is f j l))
 |0,j,hj,hf,_,_,_,_,_=>by omega
 |f+1,j,hj,hf,w,v,l,h,hb=>by
  have hy:=aH hj;have a2:=hN.len;have hx:=aH (show j<X.items.length by omega);generalize is[j]=y at hy;generalize X.items[j]=x at hx;obtain⟨_,g1,g2,g3,a0⟩:=hN.at' j y x hy hx;rw[sR hy,<-zM g1 g2 g3]at hb⊢;refine zN h X.items j x hI hx (by omega) (ly is f j) (ry is f j) hb ?_;intro k hk Y v' l' hS a1;obtain⟨a',c',a3⟩:=aw a0;injection a3 with e1 e2 e3;unfold ly at a1⊢
  cases hi:(ek is j)[k]? with
  |none=>
   rw[hi]at a1;exact wP hS x k (by rw[e2];exact List.getElem?_eq_none_iff.1 hi) (by omega)
  |some i=>
   rw[hi]at a1;obtain⟨i1,i2⟩:=CQ hi;exact BB hS x k i (by omega) (ek is j) hi a0 (zO is j) _ (λZ hZ=>vp hI hN hn f i i2 (by omega) Z v' l' hZ a1)
theorem sT {is:List Ins} (hI:ItB w 0 vi X.items) (hN:lN w 0 X.items is) (hn:is.length<=24) (h0:0<is.length) (hs: ∀y∈is,(bY y).num<=3000):
  Calls prog 95 #[.agg #[.int .u8 X.cls.toNat,.int .i64 X.meth,.int .u8 X.ans.toNat,vl,vi]] w λen w'=>B_ w w'/\ ∃v' l,en= .returned v'/\ItB w' 0 v' l/\l.length<=200/\ey l:=by
 have hL:=(qs is 24 0 []).2;have hE:=sD (t:=is) (k:=0) (by omega);have a6:=qt hs 24 0 [] (λx hx=>by simp at hx) (by simp at hL;omega);have a1:(lx is 24 0 []).length<=96:=by simp at hL;omega
 obtain⟨W,hW⟩: ∃W,(w.alloc (.cells #[.int .u8 X.cls.toNat,.int .i64 X.meth,.int .u8 X.ans.toNat,vl,vi] 115)).alloc (.cells #[.int .u8 X.cls.toNat,.int .i64 X.meth,.int .u8 X.ans.toNat,vl,vi,S_] 246)=W:=⟨_,rfl⟩;have hB:B_ w W:=hW▸(ag _ _ _).trans (ag _ _ _);have hC:CmB W (w.heap.size+1) (.int .u8 X.cls.toNat) (.int .i64 X.meth) (.int .u8 X.ans.toNat) vl vi S_:=hW▸aB (by simp) _;have hS:CmS w W (w.heap.size+1) X vl vi S_ []:=⟨hB,hC,⟨rfl,Or.inl ⟨rfl,rfl⟩⟩,by omega⟩;have HC:=hid (vp hI hN hn 24 0 h0 (by omega) W _ _ hS (by omega));obtain⟨L,a4⟩: ∃L,lx is 24 0 []=L:=⟨_,rfl⟩
 rw[a4]at HC a6 a1;have HW:=hid hW;clear hL hE a4 hS hC hB hI hN hs hW
 go_in
 go_wp2_with fail;rw[HW.out];refine HC.out.mono ?_;rintro en w1 ⟨rfl,a7,v1,a5,b0⟩;have a2:=hid (a5.lay (by omega) 116);clear HC a7 b0 a5 HW;go_wp2_with fail;refine a2.out.mono ?_;rintro en w2 ⟨rfl,a8,v2,a0,b1⟩;have c5:=ce5 a0.blk;have b2:=ae a0.blk;have a3:=hid a0;clear a2 a8 b1 a0;go_wp2_with fail;exact du (v2) results95 rfl rfl ⟨a3.out.old,v2,_,rfl,dn a3.out.its (Nat.zero_le _),by simp;omega,a6.app (ey.one (by show(0:Nat)<=3000;omega))⟩
end
theorem jT {W w:World} {g:Nat} (c:UInt8) (hg:W.heap.size=g) (hb:B_ (W.alloc (.cells #[.int .u8 c.toNat] 5)) w):(convert 112 9 (.slice (some ⟨g,0,none⟩) 1 1)).run prog w= .ok (.string ⟨#[c]⟩) w:=
 ij ((kt W _ c rfl g hg).but hb (λ_ _ h=>h))
theorem qL (X:bM) (vl vi:Value) (w:World) (hO:BtB w 0 vl X.locals) (hl:X.locals.length<=1000) (hm:X.meth<=3000) (ht:fj w):
  Calls prog 161 #[.agg #[.int .u8 X.cls.toNat,.int .i64 X.meth,.int .u8 X.ans.toNat,vl,vi]] w (Bz w 3000):=by
 have HT:=hid ht;obtain⟨cls,meth,ans,locals,items⟩:=X;dsimp only at hO hl hm;have HF:=hid (λf hf w1 (hB:B_ w w1)=>lZ vl locals f w1 (hO.but hB (λ_ _ h=>h)) hl hf);have hX:(w.alloc (.cells #[.int .u8 cls.toNat,.int .i64 meth,.int .u8 ans.toNat,vl,vi] 115)).heap[w.heap.size]?=some (.cells #[.int .u8 cls.toNat,.int .i64 meth,.int .u8 ans.toNat,vl,vi] 115):=aO w _;have HX:=hid hX;have HB:Hid (B_ w (w.alloc (.cells #[.int .u8 cls.toNat,.int .i64 meth,.int .u8 ans.toNat,vl,vi] 115))):=hid (ag _ _ _);clear ht hO hX
 go_in
 by_cases h45:cls.toNat=45
 .have b0:((cls.toNat:Int)==45)=true:=bk 45 (by omega);clear h45;go_wp2_with fail;refine(HF.out 0 (by omega) _ HB.out).mono ?_;rintro en w1 ⟨S,rfl,z,a3⟩;have a2:=hid (HB.out.trans a3);clear a3 HX HB HF;have hz:(⟨#[59]⟩:ByteArray).size+S.size<=200000:=by show 1+S.size<=200000;omega
  go_wp2_with fail;exact qp results161 rfl rfl ⟨_,rfl,by simp only[db];show 1+S.size<=3000;omega,a2.out⟩
 .have b0:((cls.toNat:Int)==45)=false:=aU 45 (by omega);clear h45;go_wp2_with fail;refine(HF.out 2 (by omega) _ HB.out).mono ?_;rintro en w1 ⟨S0,rfl,z0,a3⟩;have a7:=a3.kp HX.out;have a2:=hid (HB.out.trans a3);clear a3 HX HB HF;have y0:=ce0 a7;have y1:=ce1 a7;have a8:=ae a7;clear a7;go_wp2_with fail;have a5:B_ w1 w1.drew:=aD _ _;refine dv (B_ w1) 10 ?_;have fSA:=hid (λwS (h:(B_ w1) wS)=>(And.intro (h.kc y0 a8) (h.kc y1 a8)));refine dg [0,1,4,5,8] ?_
  iterate 5 (refine dw (v:=?_) rfl a5 ?_ ?_;rotate_left;(focus (intro wS h;obtain⟨q0,q1⟩:=fSA.out wS h;clear h;go_simp;try rfl));dsimp only[Act.put];try simp only[cH])
  try clear fSA
  revert a5;generalize w1.drew=w2;intro a5;refine jY (k1:=2) (o1:= ?oA2) (k2:=6) (o2:= ?oA6) ?hoA2 ?hoA6 ?hlA2_6 ?hrA2_6 ?stA2 ?stA6
  case hoA2=>rfl
  case hoA6=>rfl
  case hlA2_6=>decide
  case hrA2_6=>kernel_rfl
  case' stA2=>
   intro KS hKS;go_simp;have hA:B_ w2 (w2.alloc (.cells #[.int .u8 cls.toNat] 5)):=ag _ _ _;have a1:=a5.trans hA;refine hKS.out _ _ (λ_=>a1) ?_;clear hKS KS;refine jY (k1:=3) (o1:= ?oB3) (k2:=6) (o2:= ?oB6) ?hoB3 ?hoB6 ?hlB3_6 ?hrB3_6 ?stB3 ?stB6
   case hoB3=>rfl
   case hoB6=>rfl
   case hlB3_6=>decide
   case hrB3_6=>kernel_rfl
   case' stB3=>
    intro KS hKS;have a6:=jT cls rfl (But.refl _ (w2.alloc (.cells #[.int .u8 cls.toNat] 5)));go_simp;refine hKS.out _ _ (λ_=>a1) ?_;clear hKS KS;refine aG (k:=6) rfl ?_;intro KS hKS;go_simp;refine(il meth (by omega) _ (HT.out.but (a2.out.trans a1))).mono ?_;rintro en w3 ⟨S3,rfl,z3,a4⟩;have a0:=a1.trans a4;refine hKS.out _ _ (λ_=>a0) ?_;clear hKS KS a6;have z1:(⟨#[cls]⟩:ByteArray).size+S3.size<=200000:=by show 1+S3.size<=200000;omega
    refine aG (k:=7) rfl ?_;intro KS hKS;go_simp;rw[if_neg (by show¬_<1+S3.size;omega)];refine hKS.out _ _ (λ_=>a0) ?_;clear hKS KS;refine aG (k:=9) rfl ?_;intro KS hKS;go_simp;rw[if_neg (by show¬_<1+S3.size+S0.size;omega)];refine hKS.out _ _ (λ_=>a0) ?_;clear hKS KS;refine aG (k:=10) rfl ?_;intro KS hKS;go_simp;refine hKS.out _ _ nofun ?_;clear hKS KS;refine dl rfl ?_;go_wp2_with fail;exact qp results161 rfl rfl ⟨_,rfl,by simp only[db];show 1+S3.size+S0.size<=3000;omega,a2.out.trans a0⟩
   case' stB6=>
    intro KS hKS;go_simp;refine(il meth (by omega) _ (HT.out.but (a2.out.trans a1))).mono ?_;rintro en w3 ⟨S3,rfl,z3,a4⟩;have a0:=a1.trans a4;refine hKS.out _ _ (λ_=>a0) ?_;clear hKS KS;have a6:=jT cls rfl a4;refine aG (k:=3) rfl ?_;intro KS hKS;go_simp;refine hKS.out _ _ (λ_=>a0) ?_;clear hKS KS a6;have z1:(⟨#[cls]⟩:ByteArray).size+S3.size<=200000:=by show 1+S3.size<=200000;omega
    refine aG (k:=7) rfl ?_;intro KS hKS;go_simp;rw[if_neg (by show¬_<1+S3.size;omega)];refine hKS.out _ _ (λ_=>a0) ?_;clear hKS KS;refine aG (k:=9) rfl ?_;intro KS hKS;go_simp;rw[if_neg (by show¬_<1+S3.size+S0.size;omega)];refine hKS.out _ _ (λ_=>a0) ?_;clear hKS KS;refine aG (k:=10) rfl ?_;intro KS hKS;go_simp;refine hKS.out _ _ nofun ?_;clear hKS KS;refine dl rfl ?_;go_wp2_with fail;exact qp results161 rfl rfl ⟨_,rfl,by simp only[db];show 1+S3.size+S0.size<=3000;omega,a2.out.trans a0⟩
  case' stA6=>
   intro KS hKS;go_simp;refine(il meth (by omega) _ (HT.out.but (a2.out.trans a5))).mono ?_;rintro en w3 ⟨S3,rfl,z3,a4⟩;have a1:=a5.trans a4;refine hKS.out _ _ (λ_=>a1) ?_;clear hKS KS;refine aG (k:=2) rfl ?_;intro KS hKS;go_simp;have hA:B_ w3 (w3.alloc (.cells #[.int .u8 cls.toNat] 5)):=ag _ _ _;have a0:=a1.trans hA;refine hKS.out _ _ (λ_=>a0) ?_;clear hKS KS;have a6:=jT cls rfl (But.refl _ (w3.alloc (.cells #[.int .u8 cls.toNat] 5)));refine aG (k:=3) rfl ?_;intro KS hKS;go_simp;refine hKS.out _ _ (λ_=>a0) ?_;clear hKS KS a6;have z1:(⟨#[cls]⟩:ByteArray).size+S3.size<=200000:=by show 1+S3.size<=200000;omega
   refine aG (k:=7) rfl ?_;intro KS hKS;go_simp;rw[if_neg (by show¬_<1+S3.size;omega)];refine hKS.out _ _ (λ_=>a0) ?_;clear hKS KS;refine aG (k:=9) rfl ?_;intro KS hKS;go_simp;rw[if_neg (by show¬_<1+S3.size+S0.size;omega)];refine hKS.out _ _ (λ_=>a0) ?_;clear hKS KS;refine aG (k:=10) rfl ?_;intro KS hKS;go_simp;refine hKS.out _ _ nofun ?_;clear hKS KS;refine dl rfl ?_;go_wp2_with fail;exact qp results161 rfl rfl ⟨_,rfl,by simp only[db];show 1+S3.size+S0.size<=3000;omega,a2.out.trans a0⟩
theorem qM (X:bM) (vl vi v:Value) (l:List XIt) (w:World) (hO:BtB w 0 vl X.locals) (hlo:X.locals.length<=1000) (hm:X.meth<=3000) (hI:ItB w 0 v l) (hl:l.length<=200) (hs:ey l) (ht:fj w):
  Calls prog 96 #[.agg #[.int .u8 X.cls.toNat,.int .i64 X.meth,.int .u8 X.ans.toNat,vl,vi],v] w (Bz w 30000):=by
 have HB:Hid (B_ w (w.alloc (.cells #[.int .u8 X.cls.toNat,.int .i64 X.meth,.int .u8 X.ans.toNat,vl,vi] 115))):=hid (ag _ _ _);have HH:=hid (qL X vl vi _ (hO.but HB.out (λ_ _ h=>h)) hlo hm (ht.but HB.out));have HW:=hid (λx hx w1 (hB:B_ w w1)=>qq x w1 (ht.but hB) (hs x hx));unfold ItB at hI;obtain⟨av,cv,rfl⟩:=aw hI;have HI:=hid hI;clear ht hs hI hO
 go_in
 go_wp2_with fail;refine HH.out.mono ?_;rintro en w1 ⟨S,rfl,z,a4⟩;have hB:=HB.out.trans a4;have hz:S.size+(⟨#[58]⟩:ByteArray).size<=200000:=by show S.size+1<=200000;omega
 clear HH HB a4;go_wp2_with fail
 go_loopg [5,6] l.length (λmm os ks wr=> ∃(k:Nat) (S:ByteArray),os= .string S/\S.size<=3001+100*k/\ks= .int .i64 k/\k<=l.length/\k+mm<=l.length/\l.length<=k+mm/\B_ w wr)
 case atStart=>exact⟨0,_,rfl,by simp only[db];show S.size+1<=3001+0;omega,rfl,by omega,by omega,by omega,hB⟩
 case round=>
  obtain⟨k,S',rfl,b4,rfl,b2,a6,b3,a2⟩:=hrel;clear a6 hB hz z
  by_cases hlt:k<l.length
  .have a7:(k:Int)<(l.length:Int):=by omega
   obtain⟨x,hx⟩: ∃x,l[k]=x:=⟨_,rfl⟩;have a1:=aH hlt;rw[hx]at a1;obtain⟨g,e1,b0,b1,a0⟩:=aF (aj HI.out a2 (λ_ _ h=>h)) (by omega)
   cases e1
   have q0:wr.cell? ⟨g,k*5,none⟩=some _:=a0 _ _ (aS (k:=0) a1 (by omega));have q1:wr.cell? ⟨g,k*5+1,none⟩=some _:=a0 _ _ (aS (k:=1) a1 (by omega));have q2:wr.cell? ⟨g,k*5+2,none⟩=some _:=a0 _ _ (aS (k:=2) a1 (by omega));have q3:wr.cell? ⟨g,k*5+3,none⟩=some _:=a0 _ _ (aS (k:=3) a1 (by omega));have q4:wr.cell? ⟨g,k*5+4,none⟩=some _:=a0 _ _ (aS (k:=4) a1 (by omega));have HC:=hid (HW.out x (bp a1) wr a2);unfold dF at HC;clear a0 hx a1;go_wp2_with fail;refine HC.out.mono ?_;rintro en w2 ⟨S2,rfl,z2,a5⟩;have a8:S'.size+S2.size<=200000:=by omega
   have a3:=a2.trans a5;clear HC a5 q0 q1 q2 q3 q4;go_wp2_with fail
   go_roundg (l.length-(k+1))
   case measure=>omega
   case rel=>exact⟨k+1,_,rfl,by simp only[db];omega,by simp,by omega,by omega,by omega,a3⟩
  .have a7: ¬(k:Int)<(l.length:Int):=by omega
   have a8:S'.size+(⟨#[46]⟩:ByteArray).size<=200000:=by show S'.size+1<=200000;omega
   go_wp2_with fail;exact qp results96 rfl rfl ⟨_,rfl,by simp only[db];show S'.size+1<=30000;omega,a2⟩
def EY (w:World) (n:Nat) (en:Ending) (w':World):Prop:= ∃s:ByteArray,en= .returned (.string s)/\0<s.size/\s.size<=n/\B_ w w'
theorem sU (b:Nat) (cs:List bV) (ms:List Sig) (w:World) (hC:TxC w b cs) (hM:TxM w b ms) (hn:cs.length<=10) (hf: ∀x∈cs,x.fields.length<=1000) (hm:ms.length<=10):
  Calls prog 94 #[.pointer (some ⟨b,0,none⟩)] w (EY w 40000):=by
 have HC:=hid hC;obtain⟨v0,lc,g2,b5,e2,a6,b6⟩:=hC;obtain⟨v1,g3,_,e3⟩:=hM;obtain⟨ac,cc,rfl⟩:=aw e2;obtain⟨am,cm,rfl⟩:=aw e3;have g0:lc.length=cs.length:=by rw[<-a6];simp
 have f4:=hid e2;have f5:=hid e3;have f3:=hid b6;have HF:=hid hf;have c7:=hid a6;have g1:lc.length<=10:=by omega
 clear e2 e3 b6 hf g0 a6
 go_in
 go_wp2_with fail
 go_loopg [3,4] lc.length (λmm os ks wr=> ∃(k:Nat) (S:ByteArray),os= .string S/\S.size<=3000*k/\ks= .int .i64 k/\k<=lc.length/\k+mm<=lc.length/\lc.length<=k+mm/\B_ w wr)
 case atStart=>exact⟨0,_,rfl,by show 0<=_;omega,rfl,by omega,by omega,by omega,But.refl _ _⟩
 case round=>
  obtain⟨k,S',rfl,f0,rfl,e8,e4,e9,a2⟩:=hrel;clear e4;have c0:=a2.kc g2 b5;have e6:b<wr.heap.size:=bq b5 a2.size
  by_cases hlt:k<lc.length
  .have b9:(k:Int)<(lc.length:Int):=by omega
   obtain⟨x,hx⟩: ∃x,lc[k]=x:=⟨_,rfl⟩;have a3:=aH hlt;rw[hx]at a3;obtain⟨x,vf⟩:=x;obtain⟨g,e1,f7,f8,a0⟩:=aF (aj f4.out a2 (λ_ _ h=>h)) (by omega)
   cases e1
   have q0:wr.cell? ⟨g,k*2,none⟩=some (.int .u8 x.par.toNat):=a0 _ _ (jk a3);have q1:wr.cell? ⟨g,k*2+1,none⟩=some vf:=a0 _ _ (jl a3);have a7:=bp a3;have e0:BtB wr 0 vf x.fields:=(f3.out _ a7).but a2 (λ_ _ h=>h);have b6:x.fields.length<=1000:=HF.out x (by rw[<-c7.out];exact List.mem_map_of_mem (f:=(·.1)) a7);clear a0 hx a3 a7;obtain⟨af,cf,rfl⟩:=aw e0;have e7:=aO wr (.cells #[.int .u8 x.par.toNat,.slice af x.fields.length cf] 240);have d6:B_ wr (wr.alloc (.cells #[.int .u8 x.par.toNat,.slice af x.fields.length cf] 240)):=ag _ _ _;have b4:=hid (rY b cs x.par _ (by omega) ((HC.out.but a2).but d6))
   have f6:(cQ cs x.par).length<=1000:=by
    unfold cQ
    split
    .cases he:cs[x.par.toNat-65]? with
     |none=>simp
     |some y=>exact HF.out y (bp he)
    .simp
   have c9:=hid (λw1 (hB:B_ wr w1)=>lZ _ x.fields (cQ cs x.par).length w1 (e0.but hB (λ_ _ h=>h)) b6 f6);generalize (cQ cs x.par).length=nf at*;have b2:=hid e7;have a5:=hid d6;clear e7 d6 e0;go_wp2_with fail;revert b2 a5 b4;generalize (wr.alloc (.cells #[.int .u8 x.par.toNat,.slice af x.fields.length cf] 240))=w1;intro b4 b2 a5;refine b4.out.mono ?_;rintro en b3 ⟨rfl,rfl⟩;clear b4 q0 q1 c0;have y0:=ce0 b2.out;have y1:=ce1 b2.out;have f1:=ae b2.out;go_wp2_with fail;have b0:B_ b3 b3.drew:=aD _ _;refine dv (B_ b3) 12 ?_;have fSA:=hid (λwS (h:(B_ b3) wS)=>(And.intro (h.kc y0 f1) (h.kc y1 f1)))
   refine dg [0,1,2,5,6,7] ?_
   iterate 6 (refine dw (v:=?_) rfl b0 ?_ ?_;rotate_left;(focus (intro wS h;obtain⟨q0,q1⟩:=fSA.out wS h;clear h;go_simp;try rfl));dsimp only[Act.put];try simp only[cH])
   try clear fSA
   revert b0;generalize b3.drew=w2;intro b0;refine jY (k1:=3) (o1:= ?oA3) (k2:=8) (o2:= ?oA8) ?hoA3 ?hoA8 ?hlA3_8 ?hrA3_8 ?stA3 ?stA8
   case hoA3=>rfl
   case hoA8=>rfl
   case hlA3_8=>decide
   case hrA3_8=>kernel_rfl
   case' stA3=>
    intro KS hKS;go_simp;have hA:B_ w2 (w2.alloc (.cells #[.int .u8 x.par.toNat] 5)):=ag _ _ _;have a4:=b0.trans hA;refine hKS.out _ _ (λ_=>a4) ?_;clear hKS KS;refine jY (k1:=4) (o1:= ?oB4) (k2:=8) (o2:= ?oB8) ?hoB4 ?hoB8 ?hlB4_8 ?hrB4_8 ?stB4 ?stB8
    case hoB4=>rfl
    case hoB8=>rfl
    case hlB4_8=>decide
    case hrB4_8=>kernel_rfl
    case' stB4=>
     intro KS hKS;have b1:=jT x.par rfl (But.refl _ (w2.alloc (.cells #[.int .u8 x.par.toNat] 5)));go_simp;refine hKS.out _ _ (λ_=>a4) ?_;clear hKS KS;refine aG (k:=8) rfl ?_;intro KS hKS;go_simp;refine(c9.out _ (a5.out.trans a4)).mono ?_;rintro en w3 ⟨S3,rfl,z3,a8⟩;have a1:=a4.trans a8;refine hKS.out _ _ (λ_=>a1) ?_;clear hKS KS b1;refine aG (k:=9) rfl ?_;intro KS hKS;go_simp;rw[if_neg (by show¬_<1+S3.size;omega)];refine hKS.out _ _ (λ_=>a1) ?_;clear hKS KS;refine aG (k:=10) rfl ?_;intro KS hKS;go_simp;rw[if_neg (by show¬_<1+S3.size+1;omega)];refine hKS.out _ _ (λ_=>a1) ?_;clear hKS KS
     refine aG (k:=11) rfl ?_;intro KS hKS;go_simp;rw[if_neg (by show¬_<S'.size+(1+S3.size+1);omega)];refine hKS.out _ _ (λ_=>a1) ?_;clear hKS KS;refine aG (k:=12) rfl ?_;intro KS hKS;go_simp;refine hKS.out _ _ nofun ?_;clear hKS KS;refine dl rfl ?_;go_wp2_with fail
     go_roundg (lc.length-(k+1))
     case measure=>omega
     case rel=>exact⟨k+1,_,rfl,by simp only[db];show S'.size+(1+S3.size+1)<=_;omega,by simp,by omega,by omega,by omega,a2.trans (a5.out.trans a1)⟩
    case' stB8=>
     intro KS hKS;go_simp;refine(c9.out _ (a5.out.trans a4)).mono ?_;rintro en w3 ⟨S3,rfl,z3,a8⟩;have a1:=a4.trans a8;refine hKS.out _ _ (λ_=>a1) ?_;clear hKS KS;have b1:=jT x.par rfl a8;refine aG (k:=4) rfl ?_;intro KS hKS;go_simp;refine hKS.out _ _ (λ_=>a1) ?_;clear hKS KS b1;refine aG (k:=9) rfl ?_;intro KS hKS;go_simp;rw[if_neg (by show¬_<1+S3.size;omega)];refine hKS.out _ _ (λ_=>a1) ?_;clear hKS KS;refine aG (k:=10) rfl ?_;intro KS hKS;go_simp;rw[if_neg (by show¬_<1+S3.size+1;omega)];refine hKS.out _ _ (λ_=>a1) ?_;clear hKS KS;refine aG (k:=11) rfl ?_;intro KS hKS;go_simp;rw[if_neg (by show¬_<S'.size+(1+S3.size+1);omega)]
     refine hKS.out _ _ (λ_=>a1) ?_;clear hKS KS;refine aG (k:=12) rfl ?_;intro KS hKS;go_simp;refine hKS.out _ _ nofun ?_;clear hKS KS;refine dl rfl ?_;go_wp2_with fail
     go_roundg (lc.length-(k+1))
     case measure=>omega
     case rel=>exact⟨k+1,_,rfl,by simp only[db];show S'.size+(1+S3.size+1)<=_;omega,by simp,by omega,by omega,by omega,a2.trans (a5.out.trans a1)⟩
   case' stA8=>
    intro KS hKS;go_simp;refine(c9.out _ (a5.out.trans b0)).mono ?_;rintro en w3 ⟨S3,rfl,z3,a8⟩;have a4:=b0.trans a8;refine hKS.out _ _ (λ_=>a4) ?_;clear hKS KS;refine aG (k:=3) rfl ?_;intro KS hKS;go_simp;have hA:B_ w3 (w3.alloc (.cells #[.int .u8 x.par.toNat] 5)):=ag _ _ _;have a1:=a4.trans hA;refine hKS.out _ _ (λ_=>a1) ?_;clear hKS KS;have b1:=jT x.par rfl (But.refl _ (w3.alloc (.cells #[.int .u8 x.par.toNat] 5)));refine aG (k:=4) rfl ?_;intro KS hKS;go_simp;refine hKS.out _ _ (λ_=>a1) ?_;clear hKS KS b1;refine aG (k:=9) rfl ?_;intro KS hKS;go_simp;rw[if_neg (by show¬_<1+S3.size;omega)]
    refine hKS.out _ _ (λ_=>a1) ?_;clear hKS KS;refine aG (k:=10) rfl ?_;intro KS hKS;go_simp;rw[if_neg (by show¬_<1+S3.size+1;omega)];refine hKS.out _ _ (λ_=>a1) ?_;clear hKS KS;refine aG (k:=11) rfl ?_;intro KS hKS;go_simp;rw[if_neg (by show¬_<S'.size+(1+S3.size+1);omega)];refine hKS.out _ _ (λ_=>a1) ?_;clear hKS KS;refine aG (k:=12) rfl ?_;intro KS hKS;go_simp;refine hKS.out _ _ nofun ?_;clear hKS KS;refine dl rfl ?_;go_wp2_with fail
    go_roundg (lc.length-(k+1))
    case measure=>omega
    case rel=>exact⟨k+1,_,rfl,by simp only[db];show S'.size+(1+S3.size+1)<=_;omega,by simp,by omega,by omega,by omega,a2.trans (a5.out.trans a1)⟩
  .have b9: ¬(k:Int)<(lc.length:Int):=by omega
   have hz:S'.size+(⟨#[59]⟩:ByteArray).size<=200000:=by show S'.size+1<=200000;omega
   have e5:=a2;go_wp2_with fail
   go_loopg [3,7] ms.length (λmm os ks wr=> ∃(k:Nat) (S:ByteArray),os= .string S/\S.size<=30001+3*k/\ks= .int .i64 k/\k<=ms.length/\k+mm<=ms.length/\ms.length<=k+mm/\B_ w wr)
   case atStart=>exact⟨0,_,rfl,by simp only[db];show S'.size+1<=_;omega,rfl,by omega,by omega,by omega,e5⟩
   case round=>
    clear e5 hz f0 b9 e8 e9 hlt c0 e6 a2;obtain⟨i,S2,rfl,f0,rfl,e8,e4,e9,a2⟩:=hrel;clear e4;have c1:=a2.kc g3 b5;have e6:b<wr.heap.size:=bq b5 a2.size
    by_cases hlt:i<ms.length
    .have b9:(i:Int)<(ms.length:Int):=by omega
     obtain⟨x,hx⟩: ∃x,ms[i]=x:=⟨_,rfl⟩;have a3:=aH hlt;rw[hx]at a3;obtain⟨xa,xr⟩:=x;obtain⟨g,e1,f7,f8,a0⟩:=aF (aj f5.out a2 (λ_ _ h=>h)) (by omega)
     cases e1
     have q0:wr.cell? ⟨g,i*2,none⟩=some (.int .u8 xa.toNat):=a0 _ _ (fM (k:=0) a3 (by omega));have q1:wr.cell? ⟨g,i*2+1,none⟩=some (.int .u8 xr.toNat):=a0 _ _ (fM (k:=1) a3 (by omega))
     obtain⟨S3,b1,z3⟩: ∃S3:ByteArray,(∀(W:World) (g:Nat),W.heap.size=g->(convert 112 9 (.slice (some ⟨g,0,none⟩) 3 3)).run prog (W.alloc (.cells #[.int .u8 xa.toNat,.int .u8 xr.toNat,.int .u8 46] 5))= .ok (.string S3) (W.alloc (.cells #[.int .u8 xa.toNat,.int .u8 xr.toNat,.int .u8 46] 5)))/\S3.size=3:=
      ⟨⟨#[xa,xr,46]⟩,λW g h=>h▸ij (BtB.lit W 0 (Nat.zero_le _) [xa,xr,46] (by simp)),rfl⟩
     have HZ:=hid z3;have hz:S2.size+S3.size<=200000:=by omega
     have f2:=hid (a2.trans ((ag (λ_=>False) wr (.cells #[.int .u8 xa.toNat,.int .u8 xr.toNat] 243)).trans (ag _ _ (.cells #[.int .u8 xa.toNat,.int .u8 xr.toNat,.int .u8 46] 5))));clear a0 hx a3 z3;go_wp2_with fail
     go_roundg (ms.length-(i+1))
     case measure=>omega
     case rel=>exact⟨i+1,_,rfl,by rw[db,HZ.out];omega,by simp,by omega,by omega,by omega,f2.out⟩
    .have b9: ¬(i:Int)<(ms.length:Int):=by omega
     have hz:S2.size+(⟨#[59]⟩:ByteArray).size<=200000:=by show S2.size+1<=200000;omega
     go_wp2_with fail;exact qp results94 rfl rfl ⟨_,rfl,by simp only[db];show 0<S2.size+1;omega,by simp only[db];show S2.size+1<=_;omega,a2⟩
theorem CR {l:List Ins} (h:full 1 l):0<l.length:=by
 cases l with
 |nil=>cases h
 |cons=>simp
theorem qN (b:Nat) (im:Img) (w:World) (hT:ii w b im) (hW:jG im) (ht:fj w):Calls prog 62 #[.pointer (some ⟨b,0,none⟩)] w (EY w 1000000):=by
 have f4: ∀x∈im.zz.map toX,x.fields.length<=1000:=by
  intro x hx;obtain⟨c,hc,rfl⟩:=List.mem_map.1 hx;obtain⟨j,hj⟩:=List.mem_iff_getElem?.1 hc;have h1:=(hW.cls j c hj).2.2.1;have h2:=(bC hj).1;have h3:=hW.nc
  show c.fields.length<=1000
  omega
 obtain⟨bs,⟨v2,g3,e6,lb,b2,a5,e8⟩,b1⟩:=hT.bod;have b9:=hid (sU b _ _ w hT.cls hT.met (by have:=hW.nc;simp;omega) f4 (by have:=hW.ns;omega));obtain⟨ab,cb,rfl⟩:=aw b2;have h0:lb.length=im.zq.length:=by rw[<-b1.1,<-a5];simp
 have g7:=hW.nb
 have b0:=hid (λ(k:Nat) (x:bM×Value×Value) (hx:lb[k]?=some x)=>show∃d∈im.zq,BdN w 0 im.zj x.1 d from by
  have hk:=(bC hx).1;have h1:bs[k]?=some x.1:=by rw[<-a5];simp[hx]
  have h2:=aH (show k<im.zq.length by omega);exact⟨_,cN _,b1.2 k _ _ h1 h2⟩)
 have f0:=hid b2;have f1:=hid e8;have HW:=hid hW;have HT:=hid ht;clear b2 e8 hW ht hT b1 a5;have g0:lb.length<=7:=by omega
 go_in
 go_wp2_with fail;refine b9.out.mono ?_;rintro en w1 ⟨S,rfl,z0,z,c9⟩;clear b9;go_wp2_with fail
 go_loopg [3,4] lb.length (λmm os ks wr=> ∃(k:Nat) (S:ByteArray),os= .string S/\0<S.size/\S.size<=40000+30000*k/\ks= .int .i64 k/\k<=lb.length/\k+mm<=lb.length/\lb.length<=k+mm/\B_ w wr)
 case atStart=>exact⟨0,_,rfl,z0,by omega,rfl,by omega,by omega,by omega,c9⟩
 case round=>
  clear z0 z c9;obtain⟨k,S',rfl,z0,h4,rfl,g5,f6,g6,a2⟩:=hrel;clear f6;have c2:=a2.kc g3 e6;have e7:b<wr.heap.size:=bq e6 a2.size
  by_cases hlt:k<lb.length
  .have f7:(k:Int)<(lb.length:Int):=by omega
   obtain⟨x,hx⟩: ∃x,lb[k]=x:=⟨_,rfl⟩;have a3:=aH hlt;rw[hx]at a3;obtain⟨d,hd,hX⟩:=b0.out k x a3;obtain⟨b4,b3⟩:=f1.out x (bp a3);obtain⟨X,vl,vi⟩:=x;dsimp only at b4 b3 hX;have a6:=HW.out.bod d hd;obtain⟨g,e1,a7,g4,a0⟩:=aF (aj f0.out a2 (λ_ _ h=>h)) (by omega)
   cases e1
   have q0:wr.cell? ⟨g,k*5,none⟩=some _:=a0 _ _ (ba (k:=0) a3 (by omega));have q1:wr.cell? ⟨g,k*5+1,none⟩=some _:=a0 _ _ (ba (k:=1) a3 (by omega));have q2:wr.cell? ⟨g,k*5+2,none⟩=some _:=a0 _ _ (ba (k:=2) a3 (by omega));have q3:wr.cell? ⟨g,k*5+3,none⟩=some vl:=a0 _ _ (ba (k:=3) a3 (by omega));have q4:wr.cell? ⟨g,k*5+4,none⟩=some vi:=a0 _ _ (ba (k:=4) a3 (by omega))
   have a8: ∀y∈d.code,(bY y).num<=3000:=λy hy=>by
    have:=(a6.code y hy).num;unfold bY bP
    split<;>(dsimp only;omega)
   have a4:lN wr 0 X.items d.code:=by
    refine⟨hX.its.len,λk y x hy hx=> ?_⟩;obtain⟨e1,e2,e3,e4,e5⟩:=hX.its.at' k y x hy hx;exact⟨e1,e2,e3,e4,aj e5 a2 (λ_ _ h=>h)⟩
   have b6:=hid (sT (X:=X) (vl:=vl) (aj b3 a2 (λ_ _ h=>h)) a4 a6.len (CR a6.full) a8);have g1:X.locals.length<=1000:=by rw[hX.loc];have:=a6.loc.1;omega
   have g2:X.meth<=3000:=by
    rw[hX.meth]
    show d.meth.toNat<=3000
    have:=HW.out.ns;obtain h|h:=a6.cls<;>omega
   have c7:=hid (λw1 (hB:B_ wr w1) v l=>qM X vl vi v l w1 (b4.but (a2.trans hB) (λ_ _ h=>h)) g1 g2);clear a0 hx a3 hX b4 b3 a6 a8 a4 hd;go_wp2_with fail;refine b6.out.mono ?_;rintro en w2 ⟨a1,v',l,rfl,e0,f8,e9⟩;have b5:=hid (c7.out w2 a1 v' l e0 f8 e9 (HT.out.but (a2.trans a1)));have f5:g<w2.heap.size:=bq a7 a1.size;replace q0:=a1.kc q0 a7;replace q1:=a1.kc q1 a7;replace q2:=a1.kc q2 a7;replace q3:=a1.kc q3 a7;replace q4:=a1.kc q4 a7;replace c2:=a1.kc c2 e7;have f3:b<w2.heap.size:=bq e7 a1.size;clear b6 c7 e0 e9;go_wp2_with fail;refine b5.out.mono ?_;rintro en w3 ⟨S3,rfl,z3,d6⟩
   have h5:S'.size+S3.size<=1000000:=by omega
   have f2:=(a2.trans a1).trans d6;clear b5 a1 d6 q0 q1 q2 q3 q4 c2;go_wp2_with fail
   go_roundg (lb.length-(k+1))
   case measure=>omega
   case rel=>exact⟨k+1,_,rfl,by rw[db];omega,by rw[db];omega,by simp,by omega,by omega,by omega,f2⟩
  .have f7: ¬(k:Int)<(lb.length:Int):=by omega
   go_wp2_with fail;exact qp results62 rfl rfl ⟨_,rfl,z0,by omega,a2⟩
theorem sV (s:ByteArray) (w:World) (hmax:s.size<=maxLen) (ht:fj w):
  Calls prog 35 #[.string s] w λen w'=>(∃r:ByteArray,en= .returned (.tuple #[.string r,.int .i64 (gD s).1])/\((gD s).1=0->0<r.size))/\B_ w w':=by
 have key:Calls prog 60 #[.string s] w λen w'=>B_ w w'/\((∃p:Int,en= .returned (.agg #[.int .i64 (gD s).1,.int .i64 p,.pointer none,S_])/\0<(gD s).1)\/((gD s).1=0/\ ∃im g,en= .returned (.agg #[.int .i64 0,.int .i64 0,.pointer (some ⟨g,0,none⟩),S_])/\ii w' g im/\jG im)):=by
  refine(jA s w hmax).mono ?_;rintro en w' ⟨hB,hE⟩;refine⟨hB,?_⟩;unfold lV at hE;unfold gD
  cases hl:fY s with
  |error e=>
   rw[hl]at hE;obtain⟨e,p⟩:=e;exact Or.inl ⟨p,hE,(rX hl).1⟩
  |ok im=>
   rw[hl]at hE;simp only at hE⊢
   cases ht:im.zq.findIdx? (λb=> !fe im b)with
   |some k=>
    rw[ht]at hE;exact Or.inl ⟨k,hE,by show 0<4;omega⟩
   |none=>
    rw[ht]at hE;obtain⟨g,h1,h2,h3⟩:=hE;exact Or.inr ⟨rfl,im,g,h1,h3,h2⟩
 have HK:=hid key;have HT:=hid ht;clear key ht;generalize (gD s).1=e at*
 go_in
 go_wp2_with fail;refine HK.out.mono ?_;rintro en w1 ⟨a0,a3⟩;clear HK;obtain⟨p,rfl,he⟩ | ⟨rfl,im,g,rfl,a1,hR⟩:=a3
 .have a4:((e:Int)!=0)=true:=by rw[bne_iff_ne];omega
  go_wp2_with fail
  go_quiet (fail)
  go_wp2_with fail;exact cW (v:= .tuple #[.string ⟨#[]⟩,.int .i64 e]) (by simp[results,results35,go_sem]) rfl ⟨⟨_,rfl,by omega⟩,(a0.trans (ag _ _ _)).trans (aK _ _ _)⟩
 .have HE:=hid (λob=>qN g im (w1.alloc ob) (a1.but (ag (λ_=>False) w1 ob)) hR ((HT.out.but a0).but (ag _ w1 ob)));clear a1;go_wp2_with fail;refine(HE.out _).mono ?_;rintro en w2 ⟨S,rfl,z0,z,a2⟩;clear HE;go_wp2_with fail;exact cW (v:= .tuple #[.string S,.int .i64 0]) (by simp[results,results35,go_sem]) rfl ⟨⟨S,rfl,z0⟩,(a0.trans (ag _ _ _)).trans a2⟩
end
end Go.Proofs.YtpfkkmacakjmbaaGreatDoor
