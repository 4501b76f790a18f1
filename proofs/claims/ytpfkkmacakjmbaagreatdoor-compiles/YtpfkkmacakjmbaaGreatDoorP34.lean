import Derived.Test.YtpfkkmacakjmbaaGreatDoorP33
set_option maxRecDepth 100000
set_option maxHeartbeats 6400000
set_option linter.all false
namespace Go.Proofs.YtpfkkmacakjmbaaGreatDoor
open Proofs.Tryz
section
open Go Go.RowKit Sp
attribute [local go_sem ↓] eY eZ
def jA (x:XIt) (p:Nat->List XIt->List XIt) (l:List XIt):List XIt:=
 if x.op.toNat=44 then p 1 (p 0 l++ [df 100])else if x.op.toNat=105 then kw p l else if x.op.toNat=111 then oF p l else p 1 (p 0 l)++ir x
def jh (is:List Ins):Nat->Nat->List XIt->List XIt
 |0,_,l=>l
 |f+1,j,l=>match is[j]? with
  |none=>l
  |some y=>jA (co y) (λk l=>match(eK is j)[k]? with
   |some i=>jh is f i l
   |none=>l) l
def gM (is:List Ins) (f j k:Nat) (l:List XIt):List XIt:=match(eK is j)[k]? with
 |some i=>jh is f i l
 |none=>l
theorem jB {is:List Ins} {j:Nat} {y:Ins} (h:is[j]?=some y) (f:Nat) (l:List XIt):jh is (f+1) j l=jA (co y) (gM is f j) l:=by
 rw[jh,h]
 rfl
theorem s7 (x:XIt):1<=(ir x).length/\(ir x).length<=2:=by
 unfold ir
 split<;>simp
theorem ya {x y:XIt} (h1:x.op=y.op) (h2:x.cls=y.cls) (h3:x.num=y.num):ir x=ir y:=by
 unfold ir;rw[h1,h2,h3]
theorem AP {x y:XIt} (h1:x.op=y.op) (h2:x.cls=y.cls) (h3:x.num=y.num) (p:Nat->List XIt->List XIt) (l:List XIt):jA x p l=jA y p l:=by
 unfold jA;rw[h1,ya h1 h2 h3]
theorem oG {x:XIt} {p:Nat->List XIt->List XIt} {a b c:Nat} (l:List XIt) (h0: ∀l,l.length<=(p 0 l).length/\(p 0 l).length<=l.length+a) (h1: ∀l,l.length<=(p 1 l).length/\(p 1 l).length<=l.length+b) (h2: ∀l,l.length<=(p 2 l).length/\(p 2 l).length<=l.length+c):
  l.length<=(jA x p l).length/\(jA x p l).length<=l.length+a+b+(if x.op.toNat=105 then c else 0)+4:=by
 have hl:=s7 x;have a0:=h0 l;have a1:=h1 (p 0 l);have d:=h1 (p 0 l++ [df 100]);have e:=h1 (p 0 l++ [df 102]);have f:=h2 (aimX (p 0 l).length (p 1 (p 0 l++ [df 102])++ [df 106]));simp only[gp,aN,dK]at d e f;unfold jA
 split
 .split<;>omega
 split
 .unfold kw;rw[gp];omega
 split
 .unfold oF;simp only[gp,aN,dK];omega
 .rw[aN];omega
theorem DX (y:Ins):(co y).op.toNat=105->az y.op=3:=by
 intro h;rw[<-un];unfold az;rw[if_pos h]
theorem rD {is:List Ins} {f j:Nat} (IH: ∀i l,l.length<=(jh is f i l).length/\(jh is f i l).length<=l.length+4*(aR is i-i)) {k i:Nat} (hi: ∀e,(eK is j)[k]?=some e->e=i) (l:List XIt):
  l.length<=(gM is f j k l).length/\(gM is f j k l).length<=l.length+4*(aR is i-i):=by
 unfold gM
 cases h:(eK is j)[k]? with
 |none=>exact⟨bP _,by dsimp only;omega⟩
 |some e=>
  cases hi e h
  exact IH _ l
theorem uy {is:List Ins} {f j k n:Nat} (h:(eK is j).length<=n) (hk:n<=k) (l:List XIt):gM is f j k l=l:=by
 unfold gM;rw[List.getElem?_eq_none (by omega)]
theorem pm (t:List Ins): ∀(n k:Nat),(de t n k).length<=n
 |0,_=>bP _
 |n+1,k=>by
  unfold de;have:=pm t n (aR t k)
  split
  .simp;omega
  .simp
theorem DY (t:List Ins) (n k i:Nat):((de t n k)[0]?=some i->i=k)/\((de t n k)[1]?=some i->i=aR t k)/\((de t n k)[2]?=some i->i=aR t (aR t k)):=by
 have a: ∀n k,(de t n k)[0]?=some i->i=k:=λn k h=>by
  cases n with
  |zero=>simp[de]at h
  |succ n=>
   unfold de at h
   split at h
   .simp at h;exact h.symm
   .simp at h
 have b: ∀n k,(de t n k)[1]?=some i->i=aR t k:=λn k h=>by
  cases n with
  |zero=>simp[de]at h
  |succ n=>
   unfold de at h
   split at h
   .rw[List.getElem?_cons_succ]at h;exact a _ _ h
   .simp at h
 refine⟨a n k,b n k,λh=> ?_⟩
 cases n with
 |zero=>simp[de]at h
 |succ n=>
  unfold de at h
  split at h
  .rw[List.getElem?_cons_succ]at h;exact b _ _ h
  .simp at h
theorem qd (t:List Ins) (k:Nat):k<=aR t k:=by
 unfold aR;omega
theorem rE (is:List Ins): ∀(f i:Nat) (l:List XIt),l.length<=(jh is f i l).length/\(jh is f i l).length<=l.length+4*(aR is i-i)
 |0,i,l=>⟨bP _,by rw[jh];omega⟩
 |f+1,j,l=>by
  have IH:=rE is f
  cases hy:is[j]? with
  |none=>rw[jh,hy];exact⟨bP _,by dsimp only;omega⟩
  |some y=>
   rw[jB hy]
   have hp:eK is j=de is (az y.op) (j+1):=by
    unfold eK;rw[hy]
   have q:=λe=>DY is (az y.op) (j+1) e
   rw[<-hp]at q;have hn:=pm is (az y.op) (j+1);rw[<-hp]at hn;have d:=λl=>rD IH (j:=j) (λe he=>(q e).1 he) l
   have g:=λl=>rD IH (j:=j) (λe he=>(q e).2.1 he) l
   have b2:=λl=>rD IH (j:=j) (λe he=>(q e).2.2 he) l
   have m:=qd is (j+1);have n:=qd is (aR is (j+1));have r:=qd is (aR is (aR is (j+1)));have c:=mD hy
   have s:az y.op<=3:=by
    unfold az
    repeat' split
    all_goals omega
   have k: ∀p,p+sk 0 (is.drop p)=p:=λp=>by simp[sk]
   have t:j+1+sk 1 (is.drop (j+1))=aR is (j+1):=rfl;have s2:j+1+sk 2 (is.drop (j+1))=aR is (j+1)+sk 1 (is.drop (aR is (j+1))):=oy;have v:j+1+sk 3 (is.drop (j+1))=aR is (j+1)+sk 2 (is.drop (aR is (j+1))):=oy;have z:aR is (j+1)+sk 2 (is.drop (aR is (j+1)))=aR is (aR is (j+1))+sk 1 (is.drop (aR is (aR is (j+1)))):=oy;have A:aR is (j+1)+sk 1 (is.drop (aR is (j+1)))=aR is (aR is (j+1)):=rfl;have B:aR is (aR is (j+1))+sk 1 (is.drop (aR is (aR is (j+1))))=aR is (aR is (aR is (j+1))):=rfl;have h:=DX y;have a:az y.op=0\/az y.op=1\/az y.op=2\/az y.op=3:=by omega
   obtain a|a|a|a:=a
   .have c0: ∀l:List XIt,l.length<=(gM is f j 0 l).length/\(gM is f j 0 l).length<=l.length+0:=λl=>by rw[uy hn (by omega)];omega
    have c1: ∀l:List XIt,l.length<=(gM is f j 1 l).length/\(gM is f j 1 l).length<=l.length+0:=λl=>by rw[uy hn (by omega)];omega
    have b:=oG (x:=co y) l c0 c1 b2;rw[a,k]at c
    split at b<;>omega
   .have c1: ∀l:List XIt,l.length<=(gM is f j 1 l).length/\(gM is f j 1 l).length<=l.length+0:=λl=>by rw[uy hn (by omega)];omega
    have b:=oG (x:=co y) l d c1 b2;rw[a]at c
    split at b<;>omega
   .have b:=oG (x:=co y) l d g b2;rw[a]at c
    split at b<;>omega
   .have b:=oG (x:=co y) l d g b2;rw[a]at c
    split at b<;>omega
theorem s8 (is:List Ins) (f j k:Nat) (l:List XIt):l.length<=(gM is f j k l).length:=by
 unfold gM
 split
 .exact(rE is f _ l).1
 .exact bP _
section
variable {w0 w w':World} {cb:Nat} {X:cZ} {vl vi v:Value} {l:List XIt}
theorem AQ (h:CmS w0 w cb X vl vi v l) (its:List XIt) (j:Nat) (x:XIt) (hI:ItB w0 0 vi its) (hx:its[j]?=some x) (hn:its.length<=1000) (p:Nat->List XIt->List XIt) (hp: ∀k l,l.length<=(p k l).length) (hb:(jA x p l).length<=3000)
  (HP: ∀k,k<=2-> ∀Y v l,CmS w0 Y cb X vl vi v l->(p k l).length<=3000->Calls prog 210 #[.pointer (some ⟨cb,0,none⟩),gn x,.int .i64 k] Y (CmR w0 Y cb X vl vi v (p k l))):
  Calls prog 159 #[.pointer (some ⟨cb,0,none⟩),.int .i64 j] w (CmR w0 w cb X vl vi v (jA x p l)):=by
 obtain⟨LN,y⟩: ∃LN,jA x p l=LN:=⟨_,rfl⟩;rw[y]at hb⊢;have n:=hid y;clear y;have c0:=ce0 h.blk;have c1:=ce1 h.blk;have c2:=ce2 h.blk;have c3:=ce3 h.blk;have c4:=ce4 h.blk;have H:=ae h.blk;have A:=hid (xR X.cls X.meth X.ans vl vi its j x w (ag hI h.old (λ_ _ h=>h)) hx hn);have a:=hid HP;have c:=hid (λY (hY:CmS w0 Y cb X vl vi v l) hb=>xZ hY x p hp hb HP);have d:=hid (λY (hY:CmS w0 Y cb X vl vi v l) hb=>AO hY x p hp hb HP);have i:=hid (λY v l (hY:CmS w0 Y cb X vl vi v l) hb=>hY.last hb x);have e:=hid hp;have O:=hid h;unfold gn at a c d i;clear h HP hI hx hn hp
 go_in
 go_wp2_with fail;refine A.out.mono ?_;rintro en w1 ⟨rfl,E⟩;have g:=hid (O.out.begin E.but x);unfold gn;clear A E c0 c1 c2 c3 c4 H
 by_cases h44:x.op.toNat=44
 .have G:((x.op.toNat:Int)==44)=true:=cI 44 (by omega);have z:=hid (show LN=p 1 (p 0 l++ [df 100])from n.out.symm.trans (by unfold jA;rw[if_pos h44]));rw[z.out]at hb;have M:=e.out 1 (p 0 l++ [df 100]);rw[aN,dK]at M;clear h44 c d i e;go_wp2_with fail;refine(g.out.call (a.out 0 (by omega) _ _ _ g.out.s (by omega))).mono ?_;rintro en L ⟨rfl,v2,f⟩;have m:=hid f;clear g f;go_wp2_with fail;refine(m.out.lay 100 (by omega)).mono ?_;rintro en T ⟨rfl,Q,q⟩;obtain⟨x0,x1,x2,x3,x4⟩:=dp q.b.box;have J:=q.at';have r:=hid q;clear m q;go_wp2_with fail;refine(r.out.call (a.out 1 (by omega) _ _ _ r.out.s (by omega))).mono ?_
  rintro en Z ⟨rfl,S,t⟩;rw[<-z.out]at t;have F:=hid t;clear r t x0 x1 x2 x3 x4;go_wp2_with fail;go_end0;exact F.out.fin
 have G:((x.op.toNat:Int)==44)=false:=cg 44 (by omega)
 by_cases h105:x.op.toNat=105
 .have C:((x.op.toNat:Int)==105)=true:=cI 105 (by omega);have z:=hid (show kw p l=LN from n.out▸(by unfold jA;rw[if_neg h44,if_pos h105]));clear h44 h105 d i e a;rw[z.out]at c;go_wp2_with fail;refine(g.out.call (c.out _ g.out.s hb)).mono ?_;rintro en L ⟨rfl,v2,f⟩;have m:=hid f;clear g f c;go_wp2_with fail;go_end0;exact m.out.fin
 have C:((x.op.toNat:Int)==105)=false:=cg 105 (by omega)
 by_cases h111:x.op.toNat=111
 .have D:((x.op.toNat:Int)==111)=true:=cI 111 (by omega);have z:=hid (show oF p l=LN from n.out▸(by unfold jA;rw[if_neg h44,if_neg h105,if_pos h111]));clear h44 h105 h111 c i e a;rw[z.out]at d;go_wp2_with fail;refine(g.out.call (d.out _ g.out.s hb)).mono ?_;rintro en L ⟨rfl,v2,f⟩;have m:=hid f;clear g f d;go_wp2_with fail;go_end0;exact m.out.fin
 have D:((x.op.toNat:Int)==111)=false:=cg 111 (by omega);have n0:=e.out 0 l;have M:=e.out 1 (p 0 l);have P:=s7 x;have B:=hid (show p 1 (p 0 l)++ir x=LN from n.out▸(by unfold jA;rw[if_neg h44,if_neg h105,if_neg h111]));rw[<-B.out,aN]at hb;clear h44 h105 h111 c d e;go_wp2_with fail;refine(g.out.call (a.out 0 (by omega) _ _ _ g.out.s (by omega))).mono ?_;rintro en L ⟨rfl,v2,f⟩;obtain⟨x0,x1,x2,x3,x4⟩:=dp f.b.box;have I:=f.at';have m:=hid f;clear g f;go_wp2_with fail;refine(m.out.call (a.out 1 (by omega) _ _ _ m.out.s (by omega))).mono ?_;rintro en T ⟨rfl,Q,q⟩;clear x0 x1 x2 x3 x4 I m;obtain⟨x0,x1,x2,x3,x4⟩:=dp q.b.box
 have J:=q.at';have r:=hid q;clear q a;go_wp2_with fail;refine(r.out.call (i.out _ _ _ r.out.s (by omega))).mono ?_;rintro en Z ⟨rfl,S,t⟩;rw[B.out]at t;have F:=hid t;clear r t x0 x1 x2 x3 x4;go_wp2_with fail;go_end0;exact F.out.fin
end
theorem yI (t:List Ins): ∀(n k e:Nat),e∈de t n k->k<=e/\e<t.length
 |0,k,e,h=>by simp[de]at h
 |n+1,k,e,h=>by
  unfold de at h;have a:=qd t k
  split at h
  .obtain rfl|h:=List.mem_cons.1 h
   .exact⟨bP _,by assumption⟩
   .have:=yI t n _ e h;omega
  .simp at h
theorem DZ {t:List Ins} {j k e:Nat} (h:(eK t j)[k]?=some e):j<e/\e<t.length:=by
 unfold eK at h
 split at h
 .have:=yI t _ _ e (bn h);omega
 .simp at h
theorem AR (t:List Ins) (j:Nat):(eK t j).length<=3:=by
 unfold eK
 split
 .rename_i y _
  have:=pm t (az y.op) (j+1)
  have a:az y.op<=3:=by
   unfold az
   repeat' split
   all_goals omega
  omega
 .simp
def eM (l:List XIt):Prop:= ∀x∈l,x.num<=3000
theorem eM.app {l l':List XIt} (h:eM l) (h':eM l'):eM (l++l'):=λx hx=>(gz hx).elim (h x) (h' x)
theorem eM.one {x:XIt} (h:x.num<=3000):eM [x]:=λy hy=>by rw[List.mem_singleton.1 hy];exact h
theorem eM.aim {l:List XIt} (h:eM l) (j:Nat) (hl:l.length<=3000):eM (aimX j l):=by
 unfold aimX
 split
 .intro x a;obtain h1|h1:=List.mem_or_eq_of_mem_set a
  .exact h x h1
  .rw[h1];exact hl
 .exact h
theorem eM.last {x:XIt} (h:x.num<=3000):eM (ir x):=by
 unfold ir;intro y a;obtain rfl|a:=List.mem_cons.1 a
 .exact h
 .split at a
  .exact eM.one (by show(0:Nat)<=3000;omega) y a
  .simp at a
theorem yb {x:XIt} {p:Nat->List XIt->List XIt} {l:List XIt} (hx:x.num<=3000) (hm: ∀k l,l.length<=(p k l).length) (hp: ∀k l,eM l->(p k l).length<=3000->eM (p k l)) (hb:(jA x p l).length<=3000) (hl:eM l):eM (jA x p l):=by
 have lay: ∀c,eM [df c]:=λc=>eM.one (by show(0:Nat)<=3000;omega)
 have a0:=hm 0 l;have a1:=hm 1 (p 0 l);have a:=hm 1 (p 0 l++ [df 100]);have b:=hm 1 (p 0 l++ [df 102]);have d:=hm 2 (aimX (p 0 l).length (p 1 (p 0 l++ [df 102])++ [df 106]));simp only[gp,aN,dK]at a b d;unfold jA at hb⊢
 by_cases h44:x.op.toNat=44
 .rw[if_pos h44]at hb⊢;exact hp 1 _ ((hp 0 l hl (by omega)).app (lay _)) hb
 rw[if_neg h44]at hb⊢
 by_cases h105:x.op.toNat=105
 .rw[if_pos h105]at hb⊢;unfold kw at hb⊢;rw[gp]at hb;exact(hp 2 _ (((hp 1 _ ((hp 0 l hl (by omega)).app (lay _)) (by omega)).app (lay _)).aim _ (by simp only[aN,dK];omega)) hb).aim _ hb
 rw[if_neg h105]at hb⊢
 by_cases h111:x.op.toNat=111
 .rw[if_pos h111]at hb⊢;unfold oF at hb⊢;simp only[gp,aN,dK]at hb;have c1:eM (p 1 (p 0 l++ [df 102])):=hp 1 _ ((hp 0 l hl (by omega)).app (lay _)) (by omega);have c2:eM [(⟨0,106,45,l.length,none,0,0⟩:XIt)]:=eM.one (by show l.length<=3000;omega);exact(((c1.app (lay _)).app c2).aim _ (by simp only[aN,dK];omega)).app (lay _)
 .rw[if_neg h111]at hb⊢;rw[aN]at hb;exact(hp 1 _ (hp 0 l hl (by omega)) (by omega)).app (eM.last hx)
theorem rF {is:List Ins} (hs: ∀y∈is,(co y).num<=3000): ∀(f j:Nat) (l:List XIt),eM l->(jh is f j l).length<=3000->eM (jh is f j l)
 |0,j,l,hl,_=>hl
 |f+1,j,l,hl,hb=>by
  cases hy:is[j]? with
  |none=>rw[jh,hy];exact hl
  |some y=>
   rw[jB hy]at hb⊢;refine yb (hs y (bn hy)) (s8 is f j) (λk l hl hb=> ?_) hb hl;unfold gM at hb⊢
   split at hb
   .exact rF hs f _ l hl hb
   .exact hl
section
variable {w0 w w':World} {cb:Nat} {X:cZ} {vl vi v:Value} {l:List XIt}
theorem wG {is:List Ins} (hI:ItB w0 0 vi X.items) (hN:mG w0 0 X.items is) (hn:is.length<=24): ∀(f j:Nat),j<is.length->is.length<=j+f-> ∀(w:World) (v:Value) (l:List XIt),CmS w0 w cb X vl vi v l->(jh is f j l).length<=3000->
  Calls prog 159 #[.pointer (some ⟨cb,0,none⟩),.int .i64 j] w (CmR w0 w cb X vl vi v (jh is f j l))
 |0,j,hj,hf,_,_,_,_,_=>by omega
 |f+1,j,hj,hf,w,v,l,h,hb=>by
  have e:=aG hj;have m:=hN.len;have d:=aG (show j<X.items.length by omega);generalize is[j]=y at e;generalize X.items[j]=x at d;obtain⟨_,n,p,q,b⟩:=hN.at' j y x e d;rw[jB e,<-AP n p q]at hb⊢;refine AQ h X.items j x hI d (by omega) (gM is f j) (s8 is f j) hb ?_;intro k s Y v' l' g a;obtain⟨a',c',c⟩:=ay b;injection c with e1 e2 e3;unfold gM at a⊢
  cases hi:(eK is j)[k]? with
  |none=>
   rw[hi]at a;exact xY g x k (by rw[e2];exact List.getElem?_eq_none_iff.1 hi) (by omega)
  |some i=>
   rw[hi]at a;obtain⟨t,r⟩:=DZ hi;exact CE g x k i (by omega) (eK is j) hi b (AR is j) _ (λZ hZ=>wG hI hN hn f i r (by omega) Z v' l' hZ a)
theorem uz {is:List Ins} (hI:ItB w 0 vi X.items) (hN:mG w 0 X.items is) (hn:is.length<=24) (h0:0<is.length) (hs: ∀y∈is,(co y).num<=3000):
  Calls prog 95 #[.agg #[.int .u8 X.cls.toNat,.int .i64 X.meth,.int .u8 X.ans.toNat,vl,vi]] w λen w'=>B_ w w'/\ ∃v',en= .returned v'/\ItB w' 0 v' (jh is 24 0 []++ [df 116])/\(jh is 24 0 []++ [df 116]).length<=200/\eM (jh is 24 0 []++ [df 116]):=by
 have m:=(rE is 24 0 []).2;have z:=um (t:=is) (k:=0) (by omega);have f:=rF hs 24 0 [] (λx hx=>by simp at hx) (by simp at m;omega);have g:(jh is 24 0 []).length<=96:=by simp at m;omega
 obtain⟨W,h⟩: ∃W,(w.alloc (.cells #[.int .u8 X.cls.toNat,.int .i64 X.meth,.int .u8 X.ans.toNat,vl,vi] 115)).alloc (.cells #[.int .u8 X.cls.toNat,.int .i64 X.meth,.int .u8 X.ans.toNat,vl,vi,S_] 246)=W:=⟨_,rfl⟩;have r:B_ w W:=h▸(aa _ _ _).trans (aa _ _ _);have s:CmB W (w.heap.size+1) (.int .u8 X.cls.toNat) (.int .i64 X.meth) (.int .u8 X.ans.toNat) vl vi S_:=h▸aB (by simp) _;have v:CmS w W (w.heap.size+1) X vl vi S_ []:=⟨r,s,⟨rfl,Or.inl ⟨rfl,rfl⟩⟩,by omega⟩;have i:=hid (wG hI hN hn 24 0 h0 (by omega) W _ _ v (by omega));obtain⟨L,d⟩: ∃L,jh is 24 0 []=L:=⟨_,rfl⟩
 rw[d]at i f g⊢;have q:=hid h;clear m z d v s r hI hN hs h
 go_in
 go_wp2_with fail;rw[q.out];refine i.out.mono ?_;rintro en w1 ⟨rfl,j,v1,e,n⟩;have b:=hid (e.lay (by omega) 116);clear i j n e q;go_wp2_with fail;refine b.out.mono ?_;rintro en B ⟨rfl,l,v2,a,p⟩;have c5:=ce5 a.blk;have A:=ae a.blk;have c:=hid a;clear b l p a;go_wp2_with fail;exact eh (v2) results95 rfl rfl ⟨c.out.old,v2,rfl,ie c.out.its (Nat.zero_le _),by simp;omega,f.app (eM.one (by show(0:Nat)<=3000;omega))⟩
end
theorem kK {W w:World} {g:Nat} (c:UInt8) (hg:W.heap.size=g) (hb:B_ (W.alloc (.cells #[.int .u8 c.toNat] 5)) w):(convert 112 9 (.slice (some ⟨g,0,none⟩) 1 1)).run prog w= .ok (.string ⟨#[c]⟩) w:=
 rm ((yE W _ c rfl g hg).but hb (λ_ _ h=>h))
def wHx (X:cZ):L_:=if X.cls.toNat=45 then 59::X.zy else X.cls::(Lib.itoa X.meth++X.zy.drop 2)
theorem r7 (X:cZ) (vl vi:Value) (w:World) (hO:BtB w 0 vl X.zy) (hl:X.zy.length<=1000) (hm:X.meth<=3000) (ht:iM w):
  Calls prog 161 #[.agg #[.int .u8 X.cls.toNat,.int .i64 X.meth,.int .u8 X.ans.toNat,vl,vi]] w (CC w 3000 (wHx X)):=by
 have HT:=hid ht;obtain⟨cls,meth,ans,zy,items⟩:=X;dsimp only at hO hl hm;have D:=hid (λf hf w1 (hB:B_ w w1)=>mR vl zy f w1 (hO.but hB (λ_ _ h=>h)) hl hf);have I:(w.alloc (.cells #[.int .u8 cls.toNat,.int .i64 meth,.int .u8 ans.toNat,vl,vi] 115)).heap[w.heap.size]?=some (.cells #[.int .u8 cls.toNat,.int .i64 meth,.int .u8 ans.toNat,vl,vi] 115):=aO w _;have F:=hid I;have t:Hid (B_ w (w.alloc (.cells #[.int .u8 cls.toNat,.int .i64 meth,.int .u8 ans.toNat,vl,vi] 115))):=hid (aa _ _ _);clear ht hO I
 go_in
 by_cases h45:cls.toNat=45
 .have G:((cls.toNat:Int)==45)=true:=cI 45 (by omega);have A:=hid h45;clear h45;go_wp2_with fail;refine(D.out 0 (by omega) _ t.out).mono ?_;rintro en w1 ⟨S,rfl,z,y,e⟩;have M:=hid y;clear y;have c:=hid (t.out.trans e);clear e F t D;have P:(⟨#[59]⟩:ByteArray).size+S.size<=200000:=by show 1+S.size<=200000;omega
  go_wp2_with fail;exact ry results161 rfl rfl ⟨_,rfl,by simp only[cX];show 1+S.size<=3000;omega,by have s:=M.out;have r:=A.out;simp[wHx,dq,r,s],c.out⟩
 .have G:((cls.toNat:Int)==45)=false:=cg 45 (by omega);have A:=hid h45;clear h45;go_wp2_with fail;refine(D.out 2 (by omega) _ t.out).mono ?_;rintro en w1 ⟨x,rfl,Y,E,e⟩;have q:=hid E;clear E;have n:=e.kp F.out;have c:=hid (t.out.trans e);clear e F t D;have E:=ce0 n;have O:=ce1 n;have B:=ae n;clear n;go_wp2_with fail;have i:B_ w1 w1.drew:=aA _ _;refine fR (B_ w1) 10 ?_;have fSA:=hid (λwS (h:(B_ w1) wS)=>(And.intro (h.kc E B) (h.kc O B)));refine eR [0,1,4,5,8] ?_
  iterate 5 (refine fS (v:=?_) rfl i ?_ ?_;rotate_left;(focus (intro wS h;obtain⟨Q,T⟩:=fSA.out wS h;clear h;go_simp;try rfl));dsimp only[Act.put];try simp only[bW])
  try clear fSA
  revert i;generalize w1.drew=w2;intro i;refine pV (k1:=2) (o1:= ?oA2) (k2:=6) (o2:= ?oA6) ?hoA2 ?hoA6 ?hlA2_6 ?hrA2_6 ?stA2 ?stA6
  case hoA2=>rfl
  case hoA6=>rfl
  case hlA2_6=>decide
  case hrA2_6=>kernel_rfl
  case' stA2=>
   intro KS hKS;go_simp;have H:B_ w2 (w2.alloc (.cells #[.int .u8 cls.toNat] 5)):=aa _ _ _;have b:=i.trans H;refine hKS.out _ _ (λ_=>b) ?_;clear hKS KS;refine pV (k1:=3) (o1:= ?oB3) (k2:=6) (o2:= ?oB6) ?hoB3 ?hoB6 ?hlB3_6 ?hrB3_6 ?stB3 ?stB6
   case hoB3=>rfl
   case hoB6=>rfl
   case hlB3_6=>decide
   case hrB3_6=>kernel_rfl
   case' stB3=>
    intro KS hKS;have l:=kK cls rfl (bf _ (w2.alloc (.cells #[.int .u8 cls.toNat] 5)));go_simp;refine hKS.out _ _ (λ_=>b) ?_;clear hKS KS;refine aM (k:=6) rfl ?_;intro KS hKS;go_simp;refine(jd meth (by omega) _ (HT.out.but (c.out.trans b))).mono ?_;rintro en C ⟨d,rfl,L,p,g⟩;have j:=hid p;clear p;have a:=b.trans g;refine hKS.out _ _ (λ_=>a) ?_;clear hKS KS l;have J:(⟨#[cls]⟩:ByteArray).size+d.size<=200000:=by show 1+d.size<=200000;omega
    refine aM (k:=7) rfl ?_;intro KS hKS;go_simp;rw[if_neg (by show¬_<1+d.size;omega)];refine hKS.out _ _ (λ_=>a) ?_;clear hKS KS;refine aM (k:=9) rfl ?_;intro KS hKS;go_simp;rw[if_neg (by show¬_<1+d.size+x.size;omega)];refine hKS.out _ _ (λ_=>a) ?_;clear hKS KS;refine aM (k:=10) rfl ?_;intro KS hKS;go_simp;refine hKS.out _ _ nofun ?_;clear hKS KS;refine eE rfl ?_;go_wp2_with fail;exact ry results161 rfl rfl ⟨_,rfl,by simp only[cX];show 1+d.size+x.size<=3000;omega,by have s:=q.out;have m:=j.out;have r:=A.out;simp[wHx,dq,r,s,m],c.out.trans a⟩
   case' stB6=>
    intro KS hKS;go_simp;refine(jd meth (by omega) _ (HT.out.but (c.out.trans b))).mono ?_;rintro en C ⟨d,rfl,L,p,g⟩;have j:=hid p;clear p;have a:=b.trans g;refine hKS.out _ _ (λ_=>a) ?_;clear hKS KS;have l:=kK cls rfl g;refine aM (k:=3) rfl ?_;intro KS hKS;go_simp;refine hKS.out _ _ (λ_=>a) ?_;clear hKS KS l;have J:(⟨#[cls]⟩:ByteArray).size+d.size<=200000:=by show 1+d.size<=200000;omega
    refine aM (k:=7) rfl ?_;intro KS hKS;go_simp;rw[if_neg (by show¬_<1+d.size;omega)];refine hKS.out _ _ (λ_=>a) ?_;clear hKS KS;refine aM (k:=9) rfl ?_;intro KS hKS;go_simp;rw[if_neg (by show¬_<1+d.size+x.size;omega)];refine hKS.out _ _ (λ_=>a) ?_;clear hKS KS;refine aM (k:=10) rfl ?_;intro KS hKS;go_simp;refine hKS.out _ _ nofun ?_;clear hKS KS;refine eE rfl ?_;go_wp2_with fail;exact ry results161 rfl rfl ⟨_,rfl,by simp only[cX];show 1+d.size+x.size<=3000;omega,by have s:=q.out;have m:=j.out;have r:=A.out;simp[wHx,dq,r,s,m],c.out.trans a⟩
  case' stA6=>
   intro KS hKS;go_simp;refine(jd meth (by omega) _ (HT.out.but (c.out.trans i))).mono ?_;rintro en C ⟨d,rfl,L,p,g⟩;have j:=hid p;clear p;have b:=i.trans g;refine hKS.out _ _ (λ_=>b) ?_;clear hKS KS;refine aM (k:=2) rfl ?_;intro KS hKS;go_simp;have H:B_ C (C.alloc (.cells #[.int .u8 cls.toNat] 5)):=aa _ _ _;have a:=b.trans H;refine hKS.out _ _ (λ_=>a) ?_;clear hKS KS;have l:=kK cls rfl (bf _ (C.alloc (.cells #[.int .u8 cls.toNat] 5)));refine aM (k:=3) rfl ?_;intro KS hKS;go_simp;refine hKS.out _ _ (λ_=>a) ?_;clear hKS KS l;have J:(⟨#[cls]⟩:ByteArray).size+d.size<=200000:=by show 1+d.size<=200000;omega
   refine aM (k:=7) rfl ?_;intro KS hKS;go_simp;rw[if_neg (by show¬_<1+d.size;omega)];refine hKS.out _ _ (λ_=>a) ?_;clear hKS KS;refine aM (k:=9) rfl ?_;intro KS hKS;go_simp;rw[if_neg (by show¬_<1+d.size+x.size;omega)];refine hKS.out _ _ (λ_=>a) ?_;clear hKS KS;refine aM (k:=10) rfl ?_;intro KS hKS;go_simp;refine hKS.out _ _ nofun ?_;clear hKS KS;refine eE rfl ?_;go_wp2_with fail;exact ry results161 rfl rfl ⟨_,rfl,by simp only[cX];show 1+d.size+x.size<=3000;omega,by have s:=q.out;have m:=j.out;have r:=A.out;simp[wHx,dq,r,s,m],c.out.trans a⟩
theorem r8 (X:cZ) (vl vi v:Value) (l:List XIt) (w:World) (hO:BtB w 0 vl X.zy) (hlo:X.zy.length<=1000) (hm:X.meth<=3000) (hI:ItB w 0 v l) (hl:l.length<=200) (hs:eM l) (ht:iM w):
  Calls prog 96 #[.agg #[.int .u8 X.cls.toNat,.int .i64 X.meth,.int .u8 X.ans.toNat,vl,vi],v] w (CC w 30000 (wHx X++58::(l.flatMap wIx++ [46]))):=by
 have n:Hid (B_ w (w.alloc (.cells #[.int .u8 X.cls.toNat,.int .i64 X.meth,.int .u8 X.ans.toNat,vl,vi] 115))):=hid (aa _ _ _);have C:=hid (r7 X vl vi _ (hO.but n.out (λ_ _ h=>h)) hlo hm (ht.but n.out));have F:=hid (λx m w1 (p:B_ w w1)=>rz x w1 (ht.but p) (hs x m));unfold ItB at hI;obtain⟨av,cv,rfl⟩:=ay hI;have E:=hid hI;clear ht hs hI hO
 go_in
 go_wp2_with fail;refine C.out.mono ?_;rintro en w1 ⟨S,rfl,z,y,e⟩;have G:=hid y;clear y;have p:=n.out.trans e;have Q:S.size+(⟨#[58]⟩:ByteArray).size<=200000:=by show S.size+1<=200000;omega
 clear C n e;go_wp2_with fail
 go_loopg [5,6] l.length (λmm os ks wr=> ∃(k:Nat) (S:ByteArray),os= .string S/\S.size<=3001+100*k/\ks= .int .i64 k/\k<=l.length/\k+mm<=l.length/\l.length<=k+mm/\B_ w wr/\S.data.toList=wHx X++58::(l.take k).flatMap wIx)
 case atStart=>exact⟨0,_,rfl,by simp only[cX];show S.size+1<=3001+0;omega,rfl,by omega,by omega,by omega,p,by simp[dq,G.out]⟩
 case round=>
  obtain⟨k,S',rfl,P,rfl,M,t,O,c,j⟩:=hrel;have d:=hid j;clear t p Q z j
  by_cases hlt:k<l.length
  .have A:(k:Int)<(l.length:Int):=by omega
   obtain⟨x,m⟩: ∃x,l[k]=x:=⟨_,rfl⟩;have b:=aG hlt;rw[m]at b;obtain⟨g,I,J,L,a⟩:=aE (ag E.out c (λ_ _ h=>h)) (by omega)
   cases I
   have T:wr.cell? ⟨g,k*5,none⟩=some _:=a _ _ (bq (k:=0) b (by omega));have Y:wr.cell? ⟨g,k*5+1,none⟩=some _:=a _ _ (bq (k:=1) b (by omega));have Z:wr.cell? ⟨g,k*5+2,none⟩=some _:=a _ _ (bq (k:=2) b (by omega));have q3:wr.cell? ⟨g,k*5+3,none⟩=some _:=a _ _ (bq (k:=3) b (by omega));have q4:wr.cell? ⟨g,k*5+4,none⟩=some _:=a _ _ (bq (k:=4) b (by omega));have r:=hid (show(l.take (k+1)).flatMap wIx=(l.take k).flatMap wIx++wIx x from by rw[f7 hlt,m,List.flatMap_append];simp);have q:=hid (F.out x (bn b) wr c);unfold gn at q;clear a m b;go_wp2_with fail;refine q.out.mono ?_;rintro en w2 ⟨H,rfl,z2,D,f⟩
   have s:=hid D;clear D;have B:S'.size+H.size<=200000:=by omega
   have i:=c.trans f;clear q f T Y Z q3 q4;go_wp2_with fail
   go_roundg (l.length-(k+1))
   case measure=>omega
   case rel=>exact⟨k+1,_,rfl,by simp only[cX];omega,by simp,by omega,by omega,by omega,i,by rw[dq,d.out,s.out,r.out];simp⟩
  .have A: ¬(k:Int)<(l.length:Int):=by omega
   have B:S'.size+(⟨#[46]⟩:ByteArray).size<=200000:=by show S'.size+1<=200000;omega
   go_wp2_with fail;exact ry results96 rfl rfl ⟨_,rfl,by simp only[cX];show S'.size+1<=30000;omega,by rw[dq,d.out,fd (by omega)];simp,c⟩
def FN (w:World) (n:Nat) (L:L_) (en:Ending) (w':World):Prop:= ∃s:ByteArray,en= .returned (.string s)/\0<s.size/\s.size<=n/\s.data.toList=L/\B_ w w'
def wCx (cs:List cd) (x:cd):L_:=x.par::(x.fields.drop (cD cs x.par).length++ [46])
def wSx (g:Sig):L_:=[g.arg,g.ret,46]
def wBx (cs:List cd) (ms:List Sig):L_:=cs.flatMap (wCx cs)++59::(ms.flatMap wSx++ [59])
theorem uA (b:Nat) (cs:List cd) (ms:List Sig) (w:World) (hC:TxC w b cs) (hM:TxM w b ms) (hn:cs.length<=10) (hf: ∀x∈cs,x.fields.length<=1000) (hm:ms.length<=10):
  Calls prog 94 #[.pointer (some ⟨b,0,none⟩)] w (FN w 40000 (wBx cs ms)):=by
 have HC:=hid hC;obtain⟨v0,lc,c8,E,O,z,F⟩:=hC;obtain⟨v1,c9,_,P⟩:=hM;obtain⟨ac,cc,rfl⟩:=ay O;obtain⟨am,cm,rfl⟩:=ay P;have a4:lc.length=cs.length:=by rw[<-z];simp
 have b3:=hid O;have b4:=hid P;have b1:=hid F;have HF:=hid hf;have H:=hid z;have b9:lc.length<=10:=by omega
 have b2:=hid a4;clear O P F hf a4 z
 go_in
 go_wp2_with fail
 go_loopg [3,4] lc.length (λmm os ks wr=> ∃(k:Nat) (S:ByteArray),os= .string S/\S.size<=3000*k/\ks= .int .i64 k/\k<=lc.length/\k+mm<=lc.length/\lc.length<=k+mm/\B_ w wr/\S.data.toList=(cs.take k).flatMap (wCx cs))
 case atStart=>exact⟨0,_,rfl,by show 0<=_;omega,rfl,by omega,by omega,by omega,bf _ _,by simp⟩
 case round=>
  obtain⟨k,S',rfl,a5,rfl,a2,Q,a3,c,Z⟩:=hrel;have I:=hid Z;clear Q Z;have c0:=c.kc c8 E;have a0:b<wr.heap.size:=bK E c.size
  by_cases hlt:k<lc.length
  .have G:(k:Int)<(lc.length:Int):=by omega
   obtain⟨x,T⟩: ∃x,lc[k]=x:=⟨_,rfl⟩;have e:=aG hlt;rw[T]at e;obtain⟨x,vf⟩:=x;obtain⟨g,e1,b7,b8,d⟩:=aE (ag b3.out c (λ_ _ h=>h)) (by omega)
   cases e1
   have q0:wr.cell? ⟨g,k*2,none⟩=some (.int .u8 x.par.toNat):=d _ _ (ke e);have q1:wr.cell? ⟨g,k*2+1,none⟩=some vf:=d _ _ (kg e)
   have t:=hid (show(cs.take (k+1)).flatMap (wCx cs)=(cs.take k).flatMap (wCx cs)++(x.par::(x.fields.drop (cD cs x.par).length++ [46]))from by
    have b5:cs[k]?=some x:=by rw[<-H.out];simp[e]
    obtain⟨h1,h2⟩:=bc b5;rw[f7 h1,h2,List.flatMap_append];simp[wCx])
   have A:=bn e;have M:BtB wr 0 vf x.fields:=(b1.out _ A).but c (λ_ _ h=>h);have F:x.fields.length<=1000:=HF.out x (by rw[<-H.out];exact List.mem_map_of_mem (f:=(·.1)) A);clear d T e A;obtain⟨af,cf,rfl⟩:=ay M;have a1:=aO wr (.cells #[.int .u8 x.par.toNat,.slice af x.fields.length cf] 240);have L:B_ wr (wr.alloc (.cells #[.int .u8 x.par.toNat,.slice af x.fields.length cf] 240)):=aa _ _ _;have D:=hid (tK b cs x.par _ (by omega) ((HC.out.but c).but L))
   have b6:(cD cs x.par).length<=1000:=by
    unfold cD
    split
    .cases he:cs[x.par.toNat-65]? with
     |none=>simp
     |some y=>exact HF.out y (bn he)
    .simp
   have J:=hid (λw1 (hB:B_ wr w1)=>mR _ x.fields (cD cs x.par).length w1 (M.but hB (λ_ _ h=>h)) F b6);generalize (cD cs x.par).length=nf at*;have s:=hid a1;have m:=hid L;clear a1 L M;go_wp2_with fail;revert s m D;generalize (wr.alloc (.cells #[.int .u8 x.par.toNat,.slice af x.fields.length cf] 240))=w1;intro D s m;refine D.out.mono ?_;rintro en B ⟨rfl,rfl⟩;clear D q0 q1 c0;have y0:=ce0 s.out;have y1:=ce1 s.out;have a6:=ae s.out;go_wp2_with fail;have q:B_ B B.drew:=aA _ _;refine fR (B_ B) 12 ?_;have fSA:=hid (λwS (h:(B_ B) wS)=>(And.intro (h.kc y0 a6) (h.kc y1 a6)))
   refine eR [0,1,2,5,6,7] ?_
   iterate 6 (refine fS (v:=?_) rfl q ?_ ?_;rotate_left;(focus (intro wS h;obtain⟨q0,q1⟩:=fSA.out wS h;clear h;go_simp;try rfl));dsimp only[Act.put];try simp only[bW])
   try clear fSA
   revert q;generalize B.drew=w2;intro q;refine pV (k1:=3) (o1:= ?oA3) (k2:=8) (o2:= ?oA8) ?hoA3 ?hoA8 ?hlA3_8 ?hrA3_8 ?stA3 ?stA8
   case hoA3=>rfl
   case hoA8=>rfl
   case hlA3_8=>decide
   case hrA3_8=>kernel_rfl
   case' stA3=>
    intro KS hKS;go_simp;have hA:B_ w2 (w2.alloc (.cells #[.int .u8 x.par.toNat] 5)):=aa _ _ _;have l:=q.trans hA;refine hKS.out _ _ (λ_=>l) ?_;clear hKS KS;refine pV (k1:=4) (o1:= ?oB4) (k2:=8) (o2:= ?oB8) ?hoB4 ?hoB8 ?hlB4_8 ?hrB4_8 ?stB4 ?stB8
    case hoB4=>rfl
    case hoB8=>rfl
    case hlB4_8=>decide
    case hrB4_8=>kernel_rfl
    case' stB4=>
     intro KS hKS;have r:=kK x.par rfl (bf _ (w2.alloc (.cells #[.int .u8 x.par.toNat] 5)));go_simp;refine hKS.out _ _ (λ_=>l) ?_;clear hKS KS;refine aM (k:=8) rfl ?_;intro KS hKS;go_simp;refine(J.out _ (m.out.trans l)).mono ?_;rintro en w3 ⟨j,rfl,z3,C,p⟩;have n:=hid C;clear C;have a:=l.trans p;refine hKS.out _ _ (λ_=>a) ?_;clear hKS KS r;refine aM (k:=9) rfl ?_;intro KS hKS;go_simp;rw[if_neg (by show¬_<1+j.size;omega)];refine hKS.out _ _ (λ_=>a) ?_;clear hKS KS;refine aM (k:=10) rfl ?_;intro KS hKS;go_simp;rw[if_neg (by show¬_<1+j.size+1;omega)];refine hKS.out _ _ (λ_=>a) ?_;clear hKS KS
     refine aM (k:=11) rfl ?_;intro KS hKS;go_simp;rw[if_neg (by show¬_<S'.size+(1+j.size+1);omega)];refine hKS.out _ _ (λ_=>a) ?_;clear hKS KS;refine aM (k:=12) rfl ?_;intro KS hKS;go_simp;refine hKS.out _ _ nofun ?_;clear hKS KS;refine eE rfl ?_;go_wp2_with fail
     go_roundg (lc.length-(k+1))
     case measure=>omega
     case rel=>exact⟨k+1,_,rfl,by simp only[cX];show S'.size+(1+j.size+1)<=_;omega,by simp,by omega,by omega,by omega,c.trans (m.out.trans a),by rw[t.out];simp[dq,I.out,n.out]⟩
    case' stB8=>
     intro KS hKS;go_simp;refine(J.out _ (m.out.trans l)).mono ?_;rintro en w3 ⟨j,rfl,z3,C,p⟩;have n:=hid C;clear C;have a:=l.trans p;refine hKS.out _ _ (λ_=>a) ?_;clear hKS KS;have r:=kK x.par rfl p;refine aM (k:=4) rfl ?_;intro KS hKS;go_simp;refine hKS.out _ _ (λ_=>a) ?_;clear hKS KS r;refine aM (k:=9) rfl ?_;intro KS hKS;go_simp;rw[if_neg (by show¬_<1+j.size;omega)];refine hKS.out _ _ (λ_=>a) ?_;clear hKS KS;refine aM (k:=10) rfl ?_;intro KS hKS;go_simp;rw[if_neg (by show¬_<1+j.size+1;omega)];refine hKS.out _ _ (λ_=>a) ?_;clear hKS KS;refine aM (k:=11) rfl ?_;intro KS hKS;go_simp
     rw[if_neg (by show¬_<S'.size+(1+j.size+1);omega)];refine hKS.out _ _ (λ_=>a) ?_;clear hKS KS;refine aM (k:=12) rfl ?_;intro KS hKS;go_simp;refine hKS.out _ _ nofun ?_;clear hKS KS;refine eE rfl ?_;go_wp2_with fail
     go_roundg (lc.length-(k+1))
     case measure=>omega
     case rel=>exact⟨k+1,_,rfl,by simp only[cX];show S'.size+(1+j.size+1)<=_;omega,by simp,by omega,by omega,by omega,c.trans (m.out.trans a),by rw[t.out];simp[dq,I.out,n.out]⟩
   case' stA8=>
    intro KS hKS;go_simp;refine(J.out _ (m.out.trans q)).mono ?_;rintro en w3 ⟨j,rfl,z3,C,p⟩;have n:=hid C;clear C;have l:=q.trans p;refine hKS.out _ _ (λ_=>l) ?_;clear hKS KS;refine aM (k:=3) rfl ?_;intro KS hKS;go_simp;have hA:B_ w3 (w3.alloc (.cells #[.int .u8 x.par.toNat] 5)):=aa _ _ _;have a:=l.trans hA;refine hKS.out _ _ (λ_=>a) ?_;clear hKS KS;have r:=kK x.par rfl (bf _ (w3.alloc (.cells #[.int .u8 x.par.toNat] 5)));refine aM (k:=4) rfl ?_;intro KS hKS;go_simp;refine hKS.out _ _ (λ_=>a) ?_;clear hKS KS r;refine aM (k:=9) rfl ?_;intro KS hKS;go_simp;rw[if_neg (by show¬_<1+j.size;omega)]
    refine hKS.out _ _ (λ_=>a) ?_;clear hKS KS;refine aM (k:=10) rfl ?_;intro KS hKS;go_simp;rw[if_neg (by show¬_<1+j.size+1;omega)];refine hKS.out _ _ (λ_=>a) ?_;clear hKS KS;refine aM (k:=11) rfl ?_;intro KS hKS;go_simp;rw[if_neg (by show¬_<S'.size+(1+j.size+1);omega)];refine hKS.out _ _ (λ_=>a) ?_;clear hKS KS;refine aM (k:=12) rfl ?_;intro KS hKS;go_simp;refine hKS.out _ _ nofun ?_;clear hKS KS;refine eE rfl ?_;go_wp2_with fail
    go_roundg (lc.length-(k+1))
    case measure=>omega
    case rel=>exact⟨k+1,_,rfl,by simp only[cX];show S'.size+(1+j.size+1)<=_;omega,by simp,by omega,by omega,by omega,c.trans (m.out.trans a),by rw[t.out];simp[dq,I.out,n.out]⟩
  .have G: ¬(k:Int)<(lc.length:Int):=by omega
   have hz:S'.size+(⟨#[59]⟩:ByteArray).size<=200000:=by show S'.size+1<=200000;omega
   have Y:=c;go_wp2_with fail
   go_loopg [3,7] ms.length (λmm os ks wr=> ∃(k:Nat) (S:ByteArray),os= .string S/\S.size<=30001+3*k/\ks= .int .i64 k/\k<=ms.length/\k+mm<=ms.length/\ms.length<=k+mm/\B_ w wr/\S.data.toList=cs.flatMap (wCx cs)++59::(ms.take k).flatMap wSx)
   case atStart=>exact⟨0,_,rfl,by simp only[cX];show S'.size+1<=_;omega,rfl,by omega,by omega,by omega,Y,by have h:=I.out;rw[fd (by have:=b2.out;omega)]at h;simp[dq,h]⟩
   case round=>
    clear Y hz a5 G a2 a3 hlt c0 a0 c I;obtain⟨i,X,rfl,a5,rfl,a2,Q,a3,c,Z⟩:=hrel;have I:=hid Z;clear Q Z;have c1:=c.kc c9 E;have a0:b<wr.heap.size:=bK E c.size
    by_cases hlt:i<ms.length
    .have G:(i:Int)<(ms.length:Int):=by omega
     obtain⟨x,T⟩: ∃x,ms[i]=x:=⟨_,rfl⟩;have e:=aG hlt;rw[T]at e;obtain⟨xa,xr⟩:=x;obtain⟨g,e1,b7,b8,d⟩:=aE (ag b4.out c (λ_ _ h=>h)) (by omega)
     cases e1
     have q0:wr.cell? ⟨g,i*2,none⟩=some (.int .u8 xa.toNat):=d _ _ (gR (k:=0) e (by omega));have q1:wr.cell? ⟨g,i*2+1,none⟩=some (.int .u8 xr.toNat):=d _ _ (gR (k:=1) e (by omega));have t:=hid (show(ms.take (i+1)).flatMap wSx=(ms.take i).flatMap wSx++ [xa,xr,46]from by rw[f7 hlt,T,List.flatMap_append];simp[wSx])
     obtain⟨j,r,z3,C⟩: ∃j:ByteArray,(∀(W:World) (g:Nat),W.heap.size=g->(convert 112 9 (.slice (some ⟨g,0,none⟩) 3 3)).run prog (W.alloc (.cells #[.int .u8 xa.toNat,.int .u8 xr.toNat,.int .u8 46] 5))= .ok (.string j) (W.alloc (.cells #[.int .u8 xa.toNat,.int .u8 xr.toNat,.int .u8 46] 5)))/\j.size=3/\j.data.toList=[xa,xr,46]:=
      ⟨⟨#[xa,xr,46]⟩,λW g h=>h▸rm (BtB.lit W 0 (Nat.zero_le _) [xa,xr,46] (by simp)),rfl,rfl⟩
     have HZ:=hid z3;have n:=hid C;have hz:X.size+j.size<=200000:=by omega
     have b0:=hid (c.trans ((aa (λ_=>False) wr (.cells #[.int .u8 xa.toNat,.int .u8 xr.toNat] 243)).trans (aa _ _ (.cells #[.int .u8 xa.toNat,.int .u8 xr.toNat,.int .u8 46] 5))));clear d T e z3 C;go_wp2_with fail
     go_roundg (ms.length-(i+1))
     case measure=>omega
     case rel=>exact⟨i+1,_,rfl,by rw[cX,HZ.out];omega,by simp,by omega,by omega,by omega,b0.out,by rw[dq,I.out,n.out,t.out];simp⟩
    .have G: ¬(i:Int)<(ms.length:Int):=by omega
     have hz:X.size+(⟨#[59]⟩:ByteArray).size<=200000:=by show X.size+1<=200000;omega
     go_wp2_with fail;exact ry results94 rfl rfl ⟨_,rfl,by simp only[cX];show 0<X.size+1;omega,by simp only[cX];show X.size+1<=_;omega,by rw[dq,I.out,fd (by omega)];simp[wBx],c⟩
theorem D0 {l:List Ins} (h:full 1 l):0<l.length:=by
 cases l with
 |nil=>cases h
 |cons=>simp
def wHd (d:Bod):L_:=if d.cls<0 then 59::d.zy else UInt8.ofNat (65+d.cls.toNat)::(Lib.itoa d.meth.toNat++d.zy.drop 2)
def wDx (d:Bod):L_:=wHd d++58::((jh d.code 24 0 []++ [df 116]).flatMap wIx++ [46])
def wAx (im:Img):L_:=wBx (im.zq.map toX) im.zx++im.zj.flatMap wDx
theorem r9 (b:Nat) (im:Img) (w:World) (hT:ku w b im) (hW:dN im) (ht:iM w):Calls prog 62 #[.pointer (some ⟨b,0,none⟩)] w (FN w 1000000 (wAx im)):=by
 have a6: ∀x∈im.zq.map toX,x.fields.length<=1000:=by
  intro x s;obtain⟨c,hc,rfl⟩:=List.mem_map.1 s;obtain⟨j,hj⟩:=List.mem_iff_getElem?.1 hc;have h1:=(hW.cls j c hj).2.2.1;have L:=(bc hj).1;have h3:=hW.nc
  show c.fields.length<=1000
  omega
 obtain⟨bs,⟨v2,b7,Q,lb,B,q,Y⟩,A⟩:=hT.bod;have H:=hid (uA b _ _ w hT.cls hT.met (by have:=hW.nc;simp;omega) a6 (by have:=hW.ns;omega));obtain⟨ab,cb,rfl⟩:=ay B;have e0:lb.length=im.zj.length:=by rw[<-A.1,<-q];simp
 have c9:=hW.nb
 have E:=hid (λ(k:Nat) (x:cZ×Value×Value) (s:lb[k]?=some x)=>show∃d,im.zj[k]?=some d/\BdN w 0 im.zx x.1 d from by
  have hk:=(bc s).1;have h1:bs[k]?=some x.1:=by rw[<-q];simp[s]
  have L:=aG (show k<im.zj.length by omega);exact⟨_,L,A.2 k _ _ h1 L⟩)
 have a0:=hid B;have a1:=hid Y;have HW:=hid hW;have HT:=hid ht;clear B Y hW ht hT A q;have b4:lb.length<=7:=by omega
 go_in
 go_wp2_with fail;refine H.out.mono ?_;rintro en w1 ⟨S,rfl,z0,z,y,M⟩;have J:=hid y;clear H y;go_wp2_with fail
 go_loopg [3,4] lb.length (λmm os ks wr=> ∃(k:Nat) (S:ByteArray),os= .string S/\0<S.size/\S.size<=40000+30000*k/\ks= .int .i64 k/\k<=lb.length/\k+mm<=lb.length/\lb.length<=k+mm/\B_ w wr/\S.data.toList=wBx (im.zq.map toX) im.zx++(im.zj.take k).flatMap wDx)
 case atStart=>exact⟨0,_,rfl,z0,by omega,rfl,by omega,by omega,by omega,M,by rw[J.out];simp⟩
 case round=>
  clear z0 z M;obtain⟨k,S',rfl,z0,e6,rfl,b9,b1,c8,f,hY⟩:=hrel;have HY:=hid hY;clear b1 hY J;have c2:=f.kc b7 Q;have T:b<wr.heap.size:=bK Q f.size
  by_cases hlt:k<lb.length
  .have b2:(k:Int)<(lb.length:Int):=by omega
   obtain⟨x,s⟩: ∃x,lb[k]=x:=⟨_,rfl⟩;have i:=aG hlt;rw[s]at i;obtain⟨d,hd,r⟩:=E.out k x i;obtain⟨D,C⟩:=a1.out x (bn i);obtain⟨X,vl,vi⟩:=x;dsimp only at D C r;have m:=HW.out.bod d (bn hd);obtain⟨g,e1,n,b8,a⟩:=aE (ag a0.out f (λ_ _ h=>h)) (by omega)
   cases e1
   have q0:wr.cell? ⟨g,k*5,none⟩=some _:=a _ _ (dr (k:=0) i (by omega));have q1:wr.cell? ⟨g,k*5+1,none⟩=some _:=a _ _ (dr (k:=1) i (by omega));have q2:wr.cell? ⟨g,k*5+2,none⟩=some _:=a _ _ (dr (k:=2) i (by omega));have q3:wr.cell? ⟨g,k*5+3,none⟩=some vl:=a _ _ (dr (k:=3) i (by omega));have q4:wr.cell? ⟨g,k*5+4,none⟩=some vi:=a _ _ (dr (k:=4) i (by omega))
   have t: ∀y∈d.code,(co y).num<=3000:=λy hy=>by
    have:=(m.code y hy).num;unfold co cB
    split<;>(dsimp only;omega)
   have p:mG wr 0 X.items d.code:=by
    refine⟨r.its.len,λk y x hy s=> ?_⟩;obtain⟨e1,e2,e3,e4,e5⟩:=r.its.at' k y x hy s;exact⟨e1,e2,e3,e4,ag e5 f (λ_ _ h=>h)⟩
   have G:=hid (uz (X:=X) (vl:=vl) (ag C f (λ_ _ h=>h)) p m.len (D0 m.full) t);have b5:X.zy.length<=1000:=by rw[r.loc];have:=m.loc.1;omega
   have b6:X.meth<=3000:=by
    rw[r.meth]
    show d.meth.toNat<=3000
    have:=HW.out.ns;obtain h|h:=m.cls<;>omega
   have I:=hid (λw1 (hB:B_ wr w1) v l=>r8 X vl vi v l w1 (D.but (f.trans hB) (λ_ _ h=>h)) b5 b6)
   have a2:=hid (show(im.zj.take (k+1)).flatMap wDx=(im.zj.take k).flatMap wDx++(wHx X++58::((jh d.code 24 0 []++ [df 116]).flatMap wIx++ [46]))from by
    obtain⟨h1,L⟩:=bc hd
    have hh:wHd d=wHx X:=by
     unfold wHd wHx;rw[r.cls,r.meth,r.loc];have h4:=HW.out.nc;obtain h|h:=m.cls
     .simp[fG,h.1]
     .rw[if_neg (by omega),if_neg (by simp only[fG];rw[if_neg (by omega)];simp;omega)];simp only[fG];rw[if_neg (by omega)]
    rw[f7 h1,L,List.flatMap_append,<-hh];simp[wDx])
   clear a s i r D C m t p hd;go_wp2_with fail;refine G.out.mono ?_;rintro en w2 ⟨e,v',rfl,P,b3,Z⟩;have F:=hid (I.out w2 e v' _ P b3 Z (HT.out.but (f.trans e)));have b0:g<w2.heap.size:=bK n e.size;replace q0:=e.kc q0 n;replace q1:=e.kc q1 n;replace q2:=e.kc q2 n;replace q3:=e.kc q3 n;replace q4:=e.kc q4 n;replace c2:=e.kc c2 T;have a5:b<w2.heap.size:=bK T e.size;clear G I P Z;go_wp2_with fail;refine F.out.mono ?_;rintro en w3 ⟨S3,rfl,z3,y3,O⟩;have a3:=hid y3;clear y3;have e7:S'.size+S3.size<=1000000:=by omega
   have a4:=(f.trans e).trans O;clear F e O q0 q1 q2 q3 q4 c2;go_wp2_with fail
   go_roundg (lb.length-(k+1))
   case measure=>omega
   case rel=>exact⟨k+1,_,rfl,by rw[cX];omega,by rw[cX];omega,by simp,by omega,by omega,by omega,a4,by rw[dq,HY.out,a3.out,a2.out];simp⟩
  .have b2: ¬(k:Int)<(lb.length:Int):=by omega
   go_wp2_with fail;exact ry results62 rfl rfl ⟨_,rfl,z0,by omega,by rw[HY.out,fd (by omega)];rfl,f⟩
theorem uB (s:ByteArray) (w:World) (hmax:s.size<=maxLen) (ht:iM w):
  Calls prog 35 #[.string s] w λen w'=>(∃r:ByteArray,en= .returned (.tuple #[.string r,.int .i64 (dA s).1])/\((dA s).1=0->0<r.size/\ ∃im,cO s= .ok im/\r.data.toList=wAx im)/\((dA s).1≠0->r=⟨#[]⟩))/\B_ w w':=by
 have key:Calls prog 60 #[.string s] w λen w'=>B_ w w'/\((∃p:Int,en= .returned (.agg #[.int .i64 (dA s).1,.int .i64 p,.pointer none,S_])/\0<(dA s).1)\/((dA s).1=0/\ ∃im g,en= .returned (.agg #[.int .i64 0,.int .i64 0,.pointer (some ⟨g,0,none⟩),S_])/\ku w' g im/\dN im/\cO s= .ok im)):=by
  refine(rZ s w hmax).mono ?_;rintro en w' ⟨B,c⟩;refine⟨B,?_⟩;unfold pK at c;unfold dA
  cases hl:cO s with
  |error e=>
   rw[hl]at c;obtain⟨e,p⟩:=e;exact Or.inl ⟨p,c,(kP hl).1⟩
  |ok im=>
   rw[hl]at c;simp only at c⊢
   cases ht:im.zj.findIdx? (λb=> !dt im b)with
   |some k=>
    rw[ht]at c;exact Or.inl ⟨k,c,by show 0<4;omega⟩
   |none=>
    rw[ht]at c;obtain⟨g,t,x,A⟩:=c;exact Or.inr ⟨rfl,im,g,t,A,x,rfl⟩
 have q:=hid key;have HT:=hid ht;clear key ht;generalize (dA s).1=e at*
 go_in
 go_wp2_with fail;refine q.out.mono ?_;rintro en w1 ⟨d,m⟩;clear q;obtain⟨p,rfl,E⟩ | ⟨rfl,im,g,rfl,i,C,f⟩:=m
 .have D:((e:Int)!=0)=true:=by rw[bne_iff_ne];omega
  go_wp2_with fail
  go_quiet (fail)
  go_wp2_with fail;exact cA (v:= .tuple #[.string ⟨#[]⟩,.int .i64 e]) (by simp[results,results35,go_sem]) rfl ⟨⟨_,rfl,by omega,λ_=>rfl⟩,(d.trans (aa _ _ _)).trans (aH _ _ _)⟩
 .have n:=hid (λob=>r9 g im (w1.alloc ob) (i.but (aa (λ_=>False) w1 ob)) C ((HT.out.but d).but (aa _ w1 ob)));have a:=hid f;clear i f;go_wp2_with fail;refine(n.out _).mono ?_;rintro en F ⟨S,rfl,j,z,y,l⟩;clear n;go_wp2_with fail;exact cA (v:= .tuple #[.string S,.int .i64 0]) (by simp[results,results35,go_sem]) rfl ⟨⟨S,rfl,by first|exact⟨j,im,a.out,y⟩ |exact⟨λ_=>⟨j,im,a.out,y⟩,λh=>absurd rfl h⟩ |exact⟨⟨j,im,a.out,y⟩,λh=>absurd rfl h⟩ |exact⟨⟨j,im,a.out,y⟩,trivial⟩⟩,(d.trans (aa _ _ _)).trans l⟩
end
end Go.Proofs.YtpfkkmacakjmbaaGreatDoor
