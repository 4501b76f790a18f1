import Derived.Test.YtpfkkmacakjmbaaGreatDoorP42
set_option maxRecDepth 100000
set_option maxHeartbeats 6400000
set_option linter.unusedSimpArgs false
set_option linter.unusedVariables false
namespace Go.Proofs.YtpfkkmacakjmbaaGreatDoor
section
open Go Go.RowKit Sp
attribute [local go_sem ↓] Go.wp_at_zero Go.wp_at_succ
section
variable {w0 w w':World} {cb:Nat} {X:bu} {vl vi v:Value} {l:List XIt}
theorem xd (h:CmS w0 w cb X vl vi v l) (x:XIt) (p:Nat→List XIt→List XIt) (hp: ∀k l,l.length≤(p k l).length) (hb:(mx p l).length≤3000)
  (HP: ∀k,k≤2→ ∀Y v l,CmS w0 Y cb X vl vi v l→(p k l).length≤3000→Calls Tryz.prog 210 #[.pointer (some ⟨cb,0,none⟩),bU x,.int .i64 k] Y (CmR w0 Y cb X vl vi v (p k l))):
  Calls Tryz.prog 212 #[.pointer (some ⟨cb,0,none⟩),bU x] w (CmR w0 w cb X vl vi v (mx p l)):=by
 obtain⟨i0,j7,l5,l6,m0⟩:=info_parts ip;have n0:=hp 0 l;have n1:=hp 1 (p 0 l++ [ed 102]);rw[List.length_append,List.length_singleton]at n1;obtain⟨LF,b0⟩: ∃LF,mx p l=LF:=⟨_,rfl⟩;rw[b0];unfold mx at hb b0;have g3:=hid b0;clear b0;rw[List.length_append,ek,List.length_append,List.length_append,List.length_singleton,List.length_singleton,List.length_singleton]at hb;have m1:=ae h.blk;have l4: ∀k,v.ownBlock=some k→k<w.heap.size:=fun k e=>aW h.its k e
 have hX:BxC (w.alloc (.cells #[.int .i64 x.place,.int .u8 x.op.toNat,.int .u8 x.cls.toNat,.int .i64 x.num,.slice x.pa x.pn x.pc] 219)) cb w.heap.size v x:=⟨heap_alloc_new w _,by omega,fun e=>by have:=l4 _ e;omega⟩;have h1:CmS w0 (w.alloc (.cells #[.int .i64 x.place,.int .u8 x.op.toNat,.int .u8 x.cls.toNat,.int .i64 x.num,.slice x.pa x.pn x.pc] 219)) cb X vl vi v l:=h.step (But.alloc _ _ _);have h4:But (fun k=>k=cb∨v.ownBlock=some k) w (w.alloc (.cells #[.int .i64 x.place,.int .u8 x.op.toNat,.int .u8 x.cls.toNat,.int .i64 x.num,.slice x.pa x.pn x.pc] 219)):=But.alloc _ _ _;obtain⟨ao,cap,j1⟩:=aw h.its
 have c5:=ce5 h.blk;rw[j1]at c5;have a8:=hid HP;unfold bU at a8;have HH:=hid h1;have HX:=hid hX;have a5:=hid h4;clear h HP hp h1 hX h4 j1;unfold bU
 go_in
 go_wp2_with fail;revert HH HX a5;generalize (w.alloc (.cells #[.int .i64 x.place,.int .u8 x.op.toNat,.int .u8 x.cls.toNat,.int .i64 x.num,.slice x.pa x.pn x.pc] 219))=W;intro HH HX a5;refine(a8.out 0 (by omega) _ _ _ HH.out (by omega)).mono ?_;rintro en w1 ⟨rfl,e5,v1,i2,f0⟩;have g6:=hid (HX.out.next e5 f0);have d6:=hid (a5.out.trans e5);have b2:=hid (f0.mono a5.out.size);have g0:=hid (i2.lay (by omega) 102);clear HX a5 HH e5 f0 i2 c5;go_wp2_with fail;refine g0.out.mono ?_;rintro en w2 ⟨rfl,e6,v2,i3,f1⟩;have f4:=g6.out.next e6 f1;have e0:=hid (d6.out.next e6 (fun k hk e=>e.imp id (fun e=>b2.out.own hk e)))
 have b3:=hid (b2.out.trans f1 d6.out.size);obtain⟨x0,x1,x2,x3,x4⟩:=bn f4.box;have j3:=hid f4;have g4:=hid i3;clear g6 d6 b2 g0 e6 f1 i3 f4;go_wp2_with fail;refine(a8.out 1 (by omega) _ _ _ g4.out (by omega)).mono ?_;rintro en w3 ⟨rfl,g7,v3,i4,h6⟩;have e1:=hid (e0.out.next g7 (fun k hk e=>e.imp id (fun e=>b3.out.own hk e)));have b4:=hid (b3.out.trans h6 e0.out.size);have g1:=hid (i4.lay (by omega) 100);clear j3 e0 b3 g4 g7 h6 i4 x0 x1 x2 x3 x4 a8;go_wp2_with fail;refine g1.out.mono ?_;rintro en w4 ⟨rfl,h0,v4,a1,h7⟩;have e2:=hid (e1.out.next h0 (fun k hk e=>e.imp id (fun e=>b4.out.own hk e)));have b5:=hid (b4.out.trans h7 e1.out.size)
 clear e1 b4 g1 h0 h7;obtain⟨L4,e9⟩: ∃L4,p 1 (p 0 l++ [ed 102])++ [ed 100]=L4:=⟨_,rfl⟩;have k0:L4.length=(p 1 (p 0 l++ [ed 102])).length+1:=by rw[←e9];simp
 rw[e9]at a1 g3;have k9:(p 1 (p 0 l++ [ed 102])).length+1≤L4.length:=by omega
 have l0:L4.length≤(p 1 (p 0 l++ [ed 102])).length+1:=by omega
 clear e9 k0;have j0:v4.ownBlock≠some cb:=fun e=>aC a1.its a1.blk (by decide) e
 have f6:=a1.ge;have f7:=a1.new;have a6:=hid a1.old;have i9:=a1.old.size;have e8:=a1.its;obtain⟨a9,a2,rfl⟩:=aw e8;have j4:w4.ownsRow w0.heap.size 219 5 (.slice a9 L4.length a2) L4.length (bE L4):=e8;have c5:=ce5 a1.blk;have z5:=frozen_of_row w4 cb 5 _ _ a1.blk;have hcl:=ae a1.blk;have HC:=hid a1.blk;have j2:=hid j0;clear a1 e8 j0;have m2:L4.length≤3000:=by omega
 go_wp2_with (at_builtin;refine wpList_append_lies _ rfl _ _ _ rfl w0.heap.size 219 i0 _ 5 48 (by kernel_rfl) j7 l5 l6 m0 rfl (by omega) _ L4.length (bE L4) rfl (j4.alloc _) ⟨w4.heap.size,0,none⟩ 1 1 [.int .i64 0,.int .u8 106,.int .u8 45,.int .i64 l.length,.slice none 0 0] rfl rfl (World.news_of_block (cs:=#[.int .i64 0,.int .u8 106,.int .u8 45,.int .i64 l.length,.slice none 0 0]) (t:=219) (fr:=(0,0)) (aq (by simp) _)) (by simp[Value.oneCell']) (by omega) (by unfold maxLen;omega) (by omega) (by simp;omega) (w4.heap.size+1) (by simp) ?_);intro gg a0 w5 a4 a3 i7 l3;have f3:But (fun k=>(Value.slice a9 L4.length a2).ownBlock=some k) w4 w5:=(But.alloc _ _ _).trans (ba a3)
 have a7:=HC.out.but f3 j2.out;have y5:=ce5 a7;have f5:=frozen_of_row w5 cb 5 _ _ a7;have j5:=ae a7;have h8:dL w4 (.slice a9 L4.length a2) (.slice (some ⟨gg,0,none⟩) (L4.length+1) a0):=i7.imp (fun h=>h.symm) (fun h=>⟨gg,rfl,by omega⟩);have b1:=hid a7;have c6:=hid a4;have g5:=hid f3;have b6:=hid (b5.out.trans h8 e2.out.size);clear c5 z5 a3 i7 a7 a4 HC f3 h8
 have h5:ItB (w5.setCell ⟨cb,5,none⟩ (.slice (some ⟨gg,0,none⟩) (L4.length+1) a0)) w0.heap.size (.slice (some ⟨gg,0,none⟩) (L4.length+1) a0) (L4++ [⟨0,106,45,l.length,none,0,0⟩]):=by
  unfold ItB;rw[List.length_append,eF];exact ah c6.out (But.setB _ _ _ _) (fun g hg e=>aC c6.out b1.out (by decide) (e▸hg))
 have e7:But (fun k=>k=cb∨(Value.slice a9 L4.length a2).ownBlock=some k) w4 (w5.setCell ⟨cb,5,none⟩ (.slice (some ⟨gg,0,none⟩) (L4.length+1) a0)):=(g5.out.mono (fun _ _ h=>Or.inr h)).trans ((But.setB _ _ _ _).mono (fun _ _ h=>Or.inl h));have i5:CmS w0 (w5.setCell ⟨cb,5,none⟩ (.slice (some ⟨gg,0,none⟩) (L4.length+1) a0)) cb X vl vi (.slice (some ⟨gg,0,none⟩) (L4.length+1) a0) (L4++ [⟨0,106,45,l.length,none,0,0⟩]):=⟨a6.out.next e7 (fun k hk e=>f6 k hk e),b1.out.set _,h5,f7⟩;have e3:=hid (e2.out.next e7 (fun k hk e=>e.imp id (fun e=>b5.out.own hk e)));have f8:=hid (i5.aimX (p 0 l).length (by rw[List.length_append];simp;omega) (by rw[List.length_append];simp;omega))
 clear h5 e7 i5 g5 e2 b5 b1 c6 a6;go_wp2_with fail;refine f8.out.mono ?_;rintro en w7 ⟨rfl,h2,v7,i6,h9⟩;have e4:=hid (e3.out.next h2 (fun k hk e=>e.imp id (fun e=>b6.out.own hk e)));have b9:=hid (b6.out.trans h9 e3.out.size);have g2:=hid (i6.lay (by rw[ek,List.length_append];simp;omega) 107);clear e3 b6 f8 h2 i6 h9;go_wp2_with fail;refine g2.out.mono ?_;rintro en w8 ⟨rfl,h3,v8,f2,i1⟩;rw[g3.out]at f2;have HR:=hid (And.intro (e4.out.next h3 (fun k hk e=>e.imp id (fun e=>b9.out.own hk e))) (And.intro f2 (b9.out.trans i1 e4.out.size)));clear e4 b9 g2 h3 f2 i1;go_wp2_with fail;go_end0;exact⟨rfl,HR.out.1,v8,HR.out.2.1,HR.out.2.2⟩
end
def jf (x:XIt) (p:Nat→List XIt→List XIt) (l:List XIt):List XIt:=
 if x.op.toNat=44 then p 1 (p 0 l++ [ed 100])else if x.op.toNat=105 then iR p l else if x.op.toNat=111 then mx p l else p 1 (p 0 l)++fA x
def jJ (is:List Ins):Nat→Nat→List XIt→List XIt
 |0,_,l=>l
 |f+1,j,l=>match is[j]? with
  |none=>l
  |some y=>jf (bF y) (fun k l=>match(dw is j)[k]? with
   |some i=>jJ is f i l
   |none=>l) l
def jK (is:List Ins) (f j k:Nat) (l:List XIt):List XIt:=match(dw is j)[k]? with
 |some i=>jJ is f i l
 |none=>l
theorem qH {is:List Ins} {j:Nat} {y:Ins} (h:is[j]?=some y) (f:Nat) (l:List XIt):jJ is (f+1) j l=jf (bF y) (jK is f j) l:=by
 rw[jJ,h]
 rfl
theorem pJ (x:XIt):1≤(fA x).length∧(fA x).length≤2:=by
 unfold fA
 split<;>simp
theorem uw {x y:XIt} (h1:x.op=y.op) (h2:x.cls=y.cls) (h3:x.num=y.num):fA x=fA y:=by
 unfold fA;rw[h1,h2,h3]
theorem xe {x y:XIt} (h1:x.op=y.op) (h2:x.cls=y.cls) (h3:x.num=y.num) (p:Nat→List XIt→List XIt) (l:List XIt):jf x p l=jf y p l:=by
 unfold jf;rw[h1,uw h1 h2 h3]
theorem lA {x:XIt} {p:Nat→List XIt→List XIt} {a b c:Nat} (l:List XIt) (h0: ∀l,l.length≤(p 0 l).length∧(p 0 l).length≤l.length+a) (h1: ∀l,l.length≤(p 1 l).length∧(p 1 l).length≤l.length+b) (h2: ∀l,l.length≤(p 2 l).length∧(p 2 l).length≤l.length+c):
  l.length≤(jf x p l).length∧(jf x p l).length≤l.length+a+b+(if x.op.toNat=105 then c else 0)+4:=by
 have hl:=pJ x;have a0:=h0 l;have a1:=h1 (p 0 l);have a2:=h1 (p 0 l++ [ed 100]);have a3:=h1 (p 0 l++ [ed 102]);have a4:=h2 (aimX (p 0 l).length (p 1 (p 0 l++ [ed 102])++ [ed 106]));simp only[ek,List.length_append,List.length_singleton]at a2 a3 a4;unfold jf
 split
 ·split<;>omega
 split
 ·unfold iR;rw[ek];omega
 split
 ·unfold mx;simp only[ek,List.length_append,List.length_singleton];omega
 ·rw[List.length_append];omega
theorem Ai (y:Ins):(bF y).op.toNat=105→az y.op=3:=by
 intro h;rw[←qu];unfold az;rw[if_pos h]
theorem ow {is:List Ins} {f j:Nat} (IH: ∀i l,l.length≤(jJ is f i l).length∧(jJ is f i l).length≤l.length+4*(bA is i-i)) {k i:Nat} (hi: ∀e,(dw is j)[k]?=some e→e=i) (l:List XIt):
  l.length≤(jK is f j k l).length∧(jK is f j k l).length≤l.length+4*(bA is i-i):=by
 unfold jK
 cases h:(dw is j)[k]? with
 |none=>exact⟨Nat.le_refl _,by dsimp only;omega⟩
 |some e=>
  cases hi e h
  exact IH _ l
theorem qI {is:List Ins} {f j k n:Nat} (h:(dw is j).length≤n) (hk:n≤k) (l:List XIt):jK is f j k l=l:=by
 unfold jK;rw[List.getElem?_eq_none (by omega)]
theorem lU (t:List Ins): ∀(n k:Nat),(cr t n k).length≤n
 |0,_=>Nat.le_refl _
 |n+1,k=>by
  unfold cr;have:=lU t n (bA t k)
  split
  ·simp;omega
  ·simp
theorem Aj (t:List Ins) (n k i:Nat):((cr t n k)[0]?=some i→i=k)∧((cr t n k)[1]?=some i→i=bA t k)∧((cr t n k)[2]?=some i→i=bA t (bA t k)):=by
 have h0: ∀n k,(cr t n k)[0]?=some i→i=k:=fun n k h=>by
  cases n with
  |zero=>simp[cr]at h
  |succ n=>
   unfold cr at h
   split at h
   ·simp at h;exact h.symm
   ·simp at h
 have h1: ∀n k,(cr t n k)[1]?=some i→i=bA t k:=fun n k h=>by
  cases n with
  |zero=>simp[cr]at h
  |succ n=>
   unfold cr at h
   split at h
   ·rw[List.getElem?_cons_succ]at h;exact h0 _ _ h
   ·simp at h
 refine⟨h0 n k,h1 n k,fun h=> ?_⟩
 cases n with
 |zero=>simp[cr]at h
 |succ n=>
  unfold cr at h
  split at h
  ·rw[List.getElem?_cons_succ]at h;exact h1 _ _ h
  ·simp at h
theorem mK (t:List Ins) (k:Nat):k≤bA t k:=by
 unfold bA;omega
theorem ox (is:List Ins): ∀(f i:Nat) (l:List XIt),l.length≤(jJ is f i l).length∧(jJ is f i l).length≤l.length+4*(bA is i-i)
 |0,i,l=>⟨Nat.le_refl _,by rw[jJ];omega⟩
 |f+1,j,l=>by
  have IH:=ox is f
  cases hy:is[j]? with
  |none=>rw[jJ,hy];exact⟨Nat.le_refl _,by dsimp only;omega⟩
  |some y=>
   rw[qH hy]
   have hp:dw is j=cr is (az y.op) (j+1):=by
    unfold dw;rw[hy]
   have q:=fun e=>Aj is (az y.op) (j+1) e
   rw[←hp]at q;have hn:=lU is (az y.op) (j+1);rw[←hp]at hn;have b0:=fun l=>ow IH (j:=j) (fun e he=>(q e).1 he) l
   have b1:=fun l=>ow IH (j:=j) (fun e he=>(q e).2.1 he) l
   have b2:=fun l=>ow IH (j:=j) (fun e he=>(q e).2.2 he) l
   have e0:=mK is (j+1);have e1:=mK is (bA is (j+1));have e2:=mK is (bA is (bA is (j+1)));have hE:=jT hy
   have h3:az y.op≤3:=by
    unfold az
    repeat' split
    all_goals omega
   have hz: ∀p,p+sk 0 (is.drop p)=p:=fun p=>by simp[sk]
   have s1:j+1+sk 1 (is.drop (j+1))=bA is (j+1):=rfl;have s2:j+1+sk 2 (is.drop (j+1))=bA is (j+1)+sk 1 (is.drop (bA is (j+1))):=lr;have s3:j+1+sk 3 (is.drop (j+1))=bA is (j+1)+sk 2 (is.drop (bA is (j+1))):=lr;have s4:bA is (j+1)+sk 2 (is.drop (bA is (j+1)))=bA is (bA is (j+1))+sk 1 (is.drop (bA is (bA is (j+1)))):=lr;have s5:bA is (j+1)+sk 1 (is.drop (bA is (j+1)))=bA is (bA is (j+1)):=rfl;have s6:bA is (bA is (j+1))+sk 1 (is.drop (bA is (bA is (j+1))))=bA is (bA is (bA is (j+1))):=rfl;have a0:=Ai y;have hA:az y.op=0∨az y.op=1∨az y.op=2∨az y.op=3:=by omega
   rcases hA with hA|hA|hA|hA
   ·have c0: ∀l:List XIt,l.length≤(jK is f j 0 l).length∧(jK is f j 0 l).length≤l.length+0:=fun l=>by rw[qI hn (by omega)];omega
    have c1: ∀l:List XIt,l.length≤(jK is f j 1 l).length∧(jK is f j 1 l).length≤l.length+0:=fun l=>by rw[qI hn (by omega)];omega
    have hL:=lA (x:=bF y) l c0 c1 b2;rw[hA,hz]at hE
    split at hL<;>omega
   ·have c1: ∀l:List XIt,l.length≤(jK is f j 1 l).length∧(jK is f j 1 l).length≤l.length+0:=fun l=>by rw[qI hn (by omega)];omega
    have hL:=lA (x:=bF y) l b0 c1 b2;rw[hA]at hE
    split at hL<;>omega
   ·have hL:=lA (x:=bF y) l b0 b1 b2;rw[hA]at hE
    split at hL<;>omega
   ·have hL:=lA (x:=bF y) l b0 b1 b2;rw[hA]at hE
    split at hL<;>omega
theorem pK (is:List Ins) (f j k:Nat) (l:List XIt):l.length≤(jK is f j k l).length:=by
 unfold jK
 split
 ·exact(ox is f _ l).1
 ·exact Nat.le_refl _
section
variable {w0 w w':World} {cb:Nat} {X:bu} {vl vi v:Value} {l:List XIt}
theorem xf (h:CmS w0 w cb X vl vi v l) (its:List XIt) (j:Nat) (x:XIt) (hI:ItB w0 0 vi its) (hx:its[j]?=some x) (hn:its.length≤1000) (p:Nat→List XIt→List XIt) (hp: ∀k l,l.length≤(p k l).length) (hb:(jf x p l).length≤3000)
  (HP: ∀k,k≤2→ ∀Y v l,CmS w0 Y cb X vl vi v l→(p k l).length≤3000→Calls Tryz.prog 210 #[.pointer (some ⟨cb,0,none⟩),bU x,.int .i64 k] Y (CmR w0 Y cb X vl vi v (p k l))):
  Calls Tryz.prog 159 #[.pointer (some ⟨cb,0,none⟩),.int .i64 j] w (CmR w0 w cb X vl vi v (jf x p l)):=by
 obtain⟨LN,e7⟩: ∃LN,jf x p l=LN:=⟨_,rfl⟩;rw[e7]at hb⊢;have e2:=hid e7;clear e7;have c0:=ce0 h.blk;have c1:=ce1 h.blk;have c2:=ce2 h.blk;have c3:=ce3 h.blk;have c4:=ce4 h.blk;have f6:=ae h.blk;have e9:=hid (od X.cls X.meth X.ans vl vi its j x w (ah hI h.old (fun _ _ h=>h)) hx hn);have f4: ∀k,v.ownBlock=some k→k<w.heap.size:=fun k e=>aW h.its k e
 have f3:=hid f4;have a4:=hid HP;have a5:=hid (fun Y (hY:CmS w0 Y cb X vl vi v l) hb=>uu hY x p hp hb HP);have a6:=hid (fun Y (hY:CmS w0 Y cb X vl vi v l) hb=>xd hY x p hp hb HP);have b6:=hid (fun Y v l (hY:CmS w0 Y cb X vl vi v l) hb=>hY.last hb x);have a9:=hid hp;have HH:=hid h;unfold bU at a4 a5 a6 b6;clear h HP hI hx hn f4 hp
 go_in
 go_wp2_with fail;refine e9.out.mono ?_;rintro en w1 ⟨rfl,e3⟩;have f8:=e3.but.size;have HX:=hid (show BxC (w1.alloc (.cells #[.int .i64 x.place,.int .u8 x.op.toNat,.int .u8 x.cls.toNat,.int .i64 x.num,.slice x.pa x.pn x.pc] 219)) cb w1.heap.size v x from⟨heap_alloc_new w1 _,by omega,fun e=>by have:=f3.out _ e;omega⟩);have HS:=hid (show CmS w0 (w1.alloc (.cells #[.int .i64 x.place,.int .u8 x.op.toNat,.int .u8 x.cls.toNat,.int .i64 x.num,.slice x.pa x.pn x.pc] 219)) cb X vl vi v l from(HH.out.step e3.but).step (But.alloc _ _ _));have a0:=hid (show But (fun k=>k=cb∨v.ownBlock=some k) w (w1.alloc (.cells #[.int .i64 x.place,.int .u8 x.op.toNat,.int .u8 x.cls.toNat,.int .i64 x.num,.slice x.pa x.pn x.pc] 219))from(e3.but.mono (fun _ _ h=>h.elim)).trans (But.alloc _ _ _))
 unfold bU;clear e9 e3 HH c0 c1 c2 c3 c4 f3
 by_cases h44:x.op.toNat=44
 ·have f5:((x.op.toNat:Int)==44)=true:=aZ 44 (by omega);have HE:=hid (show LN=p 1 (p 0 l++ [ed 100])from e2.out.symm.trans (by unfold jf;rw[if_pos h44]));rw[HE.out]at hb;have n1:=a9.out 1 (p 0 l++ [ed 100]);rw[List.length_append,List.length_singleton]at n1;clear h44 a5 a6 b6 a9;go_wp2_with fail;revert HX HS a0;generalize (w1.alloc (.cells #[.int .i64 x.place,.int .u8 x.op.toNat,.int .u8 x.cls.toNat,.int .i64 x.num,.slice x.pa x.pn x.pc] 219))=W;intro HX HS a0;refine(a4.out 0 (by omega) _ _ _ HS.out (by omega)).mono ?_;rintro en w2 ⟨rfl,a1,v2,a3,a2⟩;have c6:=hid (HX.out.next a1 a2);have b0:=hid (a0.out.trans a1)
  have a7:=hid (a2.mono a0.out.size);have f0:=hid (a3.lay (by omega) 100);clear HX a0 HS a1 a2 a3;go_wp2_with fail;refine f0.out.mono ?_;rintro en w3 ⟨rfl,b2,v3,e1,b3⟩;have b4:=c6.out.next b2 b3;have b1:=hid (b0.out.next b2 (fun k hk e=>e.imp id (fun e=>a7.out.own hk e)));have a8:=hid (a7.out.trans b3 b0.out.size);obtain⟨x0,x1,x2,x3,x4⟩:=bn b4.box;have e8:=ae b4.box;have b9:=hid e1;clear c6 b0 a7 f0 b2 b3 e1 b4;go_wp2_with fail;refine(a4.out 1 (by omega) _ _ _ b9.out (by omega)).mono ?_;rintro en w4 ⟨rfl,d6,v4,b5,e0⟩;have HR:=hid (And.intro (b1.out.next d6 (fun k hk e=>e.imp id (fun e=>a8.out.own hk e))) (And.intro b5 (a8.out.trans e0 b1.out.size)))
  clear b1 a8 b9 d6 b5 e0 x0 x1 x2 x3 x4;go_wp2_with fail;go_end0;rw[HE.out];exact⟨rfl,HR.out.1,v4,HR.out.2.1,HR.out.2.2⟩
 have f5:((x.op.toNat:Int)==44)=false:=aQ 44 (by omega)
 by_cases h105:x.op.toNat=105
 ·have e5:((x.op.toNat:Int)==105)=true:=aZ 105 (by omega);have HE:=hid (show iR p l=LN from e2.out▸(by unfold jf;rw[if_neg h44,if_pos h105]));clear h44 h105 a6 b6 a9 a4;rw[HE.out]at a5;go_wp2_with fail;refine(a5.out _ HS.out hb).mono ?_;rintro en w2 ⟨rfl,a1,v2,a3,a2⟩;have HR:=hid (And.intro (a0.out.trans a1) (And.intro a3 (a2.mono a0.out.size)));clear HX a0 HS a1 a3 a2 a5;go_wp2_with fail;go_end0;exact⟨rfl,HR.out.1,v2,HR.out.2.1,HR.out.2.2⟩
 have e5:((x.op.toNat:Int)==105)=false:=aQ 105 (by omega)
 by_cases h111:x.op.toNat=111
 ·have e6:((x.op.toNat:Int)==111)=true:=aZ 111 (by omega);have HE:=hid (show mx p l=LN from e2.out▸(by unfold jf;rw[if_neg h44,if_neg h105,if_pos h111]));clear h44 h105 h111 a5 b6 a9 a4;rw[HE.out]at a6;go_wp2_with fail;refine(a6.out _ HS.out hb).mono ?_;rintro en w2 ⟨rfl,a1,v2,a3,a2⟩;have HR:=hid (And.intro (a0.out.trans a1) (And.intro a3 (a2.mono a0.out.size)));clear HX a0 HS a1 a3 a2 a6;go_wp2_with fail;go_end0;exact⟨rfl,HR.out.1,v2,HR.out.2.1,HR.out.2.2⟩
 have e6:((x.op.toNat:Int)==111)=false:=aQ 111 (by omega);have n0:=a9.out 0 l;have n1:=a9.out 1 (p 0 l);have f7:=pJ x;have f1:=hid (show p 1 (p 0 l)++fA x=LN from e2.out▸(by unfold jf;rw[if_neg h44,if_neg h105,if_neg h111]));rw[←f1.out,List.length_append]at hb;clear h44 h105 h111 a5 a6 a9;go_wp2_with fail;revert HX HS a0;generalize (w1.alloc (.cells #[.int .i64 x.place,.int .u8 x.op.toNat,.int .u8 x.cls.toNat,.int .i64 x.num,.slice x.pa x.pn x.pc] 219))=W;intro HX HS a0;refine(a4.out 0 (by omega) _ _ _ HS.out (by omega)).mono ?_;rintro en w2 ⟨rfl,a1,v2,a3,a2⟩;have e4:=HX.out.next a1 a2;have b0:=hid (a0.out.trans a1)
 have a7:=hid (a2.mono a0.out.size);obtain⟨x0,x1,x2,x3,x4⟩:=bn e4.box;have e8:=ae e4.box;have c6:=hid e4;have f2:=hid a3;clear HX a0 HS a1 a2 a3 e4;go_wp2_with fail;refine(a4.out 1 (by omega) _ _ _ f2.out (by omega)).mono ?_;rintro en w3 ⟨rfl,b2,v3,e1,b3⟩;have b4:=c6.out.next b2 b3;have b1:=hid (b0.out.next b2 (fun k hk e=>e.imp id (fun e=>a7.out.own hk e)));have a8:=hid (a7.out.trans b3 b0.out.size);clear x0 x1 x2 x3 x4 e8;obtain⟨x0,x1,x2,x3,x4⟩:=bn b4.box;have e8:=ae b4.box;have b9:=hid e1;clear c6 b0 a7 f2 b2 b3 e1 b4 a4;go_wp2_with fail;refine(b6.out _ _ _ b9.out (by omega)).mono ?_;rintro en w4 ⟨rfl,d6,v4,b5,e0⟩
 rw[f1.out]at b5;have HR:=hid (And.intro (b1.out.next d6 (fun k hk e=>e.imp id (fun e=>a8.out.own hk e))) (And.intro b5 (a8.out.trans e0 b1.out.size)));clear b1 a8 b9 d6 b5 e0 x0 x1 x2 x3 x4;go_wp2_with fail;go_end0;exact⟨rfl,HR.out.1,v4,HR.out.2.1,HR.out.2.2⟩
end
theorem u4 (t:List Ins): ∀(n k e:Nat),e∈cr t n k→k≤e∧e<t.length
 |0,k,e,h=>by simp[cr]at h
 |n+1,k,e,h=>by
  unfold cr at h;have h1:=mK t k
  split at h
  ·rcases List.mem_cons.1 h with rfl|h
   ·exact⟨Nat.le_refl _,by assumption⟩
   ·have:=u4 t n _ e h;omega
  ·simp at h
theorem Ak {t:List Ins} {j k e:Nat} (h:(dw t j)[k]?=some e):j<e∧e<t.length:=by
 unfold dw at h
 split at h
 ·have:=u4 t _ _ e (List.mem_of_getElem? h);omega
 ·simp at h
theorem xg (t:List Ins) (j:Nat):(dw t j).length≤3:=by
 unfold dw
 split
 ·rename_i y _
  have:=lU t (az y.op) (j+1)
  have h3:az y.op≤3:=by
   unfold az
   repeat' split
   all_goals omega
  omega
 ·simp
def dA (l:List XIt):Prop:= ∀x∈l,x.num≤3000
theorem dA.app {l l':List XIt} (h:dA l) (h':dA l'):dA (l++l'):=fun x hx=>(List.mem_append.1 hx).elim (h x) (h' x)
theorem dA.one {x:XIt} (h:x.num≤3000):dA [x]:=fun y hy=>by rw[List.mem_singleton.1 hy];exact h
theorem dA.aim {l:List XIt} (h:dA l) (j:Nat) (hl:l.length≤3000):dA (aimX j l):=by
 unfold aimX
 split
 ·intro x hx;rcases List.mem_or_eq_of_mem_set hx with h1|h1
  ·exact h x h1
  ·rw[h1];exact hl
 ·exact h
theorem dA.last {x:XIt} (h:x.num≤3000):dA (fA x):=by
 unfold fA;intro y hy;rcases List.mem_cons.1 hy with rfl|hy
 ·exact h
 ·split at hy
  ·exact dA.one (by show(0:Nat)≤3000;omega) y hy
  ·simp at hy
theorem ux {x:XIt} {p:Nat→List XIt→List XIt} {l:List XIt} (hx:x.num≤3000) (hm: ∀k l,l.length≤(p k l).length) (hp: ∀k l,dA l→(p k l).length≤3000→dA (p k l)) (hb:(jf x p l).length≤3000) (hl:dA l):dA (jf x p l):=by
 have lay: ∀c,dA [ed c]:=fun c=>dA.one (by show(0:Nat)≤3000;omega)
 have a0:=hm 0 l;have a1:=hm 1 (p 0 l);have a2:=hm 1 (p 0 l++ [ed 100]);have a3:=hm 1 (p 0 l++ [ed 102]);have a4:=hm 2 (aimX (p 0 l).length (p 1 (p 0 l++ [ed 102])++ [ed 106]));simp only[ek,List.length_append,List.length_singleton]at a2 a3 a4;unfold jf at hb⊢
 by_cases h44:x.op.toNat=44
 ·rw[if_pos h44]at hb⊢;exact hp 1 _ ((hp 0 l hl (by omega)).app (lay _)) hb
 rw[if_neg h44]at hb⊢
 by_cases h105:x.op.toNat=105
 ·rw[if_pos h105]at hb⊢;unfold iR at hb⊢;rw[ek]at hb;exact(hp 2 _ (((hp 1 _ ((hp 0 l hl (by omega)).app (lay _)) (by omega)).app (lay _)).aim _ (by simp only[List.length_append,List.length_singleton];omega)) hb).aim _ hb
 rw[if_neg h105]at hb⊢
 by_cases h111:x.op.toNat=111
 ·rw[if_pos h111]at hb⊢;unfold mx at hb⊢;simp only[ek,List.length_append,List.length_singleton]at hb;have c1:dA (p 1 (p 0 l++ [ed 102])):=hp 1 _ ((hp 0 l hl (by omega)).app (lay _)) (by omega);have c2:dA [(⟨0,106,45,l.length,none,0,0⟩:XIt)]:=dA.one (by show l.length≤3000;omega);exact(((c1.app (lay _)).app c2).aim _ (by simp only[List.length_append,List.length_singleton];omega)).app (lay _)
 ·rw[if_neg h111]at hb⊢;rw[List.length_append]at hb;exact(hp 1 _ (hp 0 l hl (by omega)) (by omega)).app (dA.last hx)
theorem oy {is:List Ins} (hs: ∀y∈is,(bF y).num≤3000): ∀(f j:Nat) (l:List XIt),dA l→(jJ is f j l).length≤3000→dA (jJ is f j l)
 |0,j,l,hl,_=>hl
 |f+1,j,l,hl,hb=>by
  cases hy:is[j]? with
  |none=>rw[jJ,hy];exact hl
  |some y=>
   rw[qH hy]at hb⊢;refine ux (hs y (List.mem_of_getElem? hy)) (pK is f j) (fun k l hl hb=> ?_) hb hl;unfold jK at hb⊢
   split at hb
   ·exact oy hs f _ l hl hb
   ·exact hl
section
variable {w0 w w':World} {cb:Nat} {X:bu} {vl vi v:Value} {l:List XIt}
theorem sZ {is:List Ins} (hI:ItB w0 0 vi X.items) (hN:jY w0 0 X.items is) (hn:is.length≤24): ∀(f j:Nat),j<is.length→is.length≤j+f→ ∀(w:World) (v:Value) (l:List XIt),CmS w0 w cb X vl vi v l→(jJ is f j l).length≤3000→
  Calls Tryz.prog 159 #[.pointer (some ⟨cb,0,none⟩),.int .i64 j] w (CmR w0 w cb X vl vi v (jJ is f j l))
 |0,j,hj,hf,_,_,_,_,_=>by omega
 |f+1,j,hj,hf,w,v,l,h,hb=>by
  have hy:=List.getElem?_eq_getElem hj;have a2:=hN.len;have hx:=List.getElem?_eq_getElem (show j<X.items.length by omega);generalize is[j]=y at hy;generalize X.items[j]=x at hx;obtain⟨_,g1,g2,g3,a0⟩:=hN.at' j y x hy hx;rw[qH hy,←xe g1 g2 g3]at hb⊢;refine xf h X.items j x hI hx (by omega) (jK is f j) (pK is f j) hb ?_;intro k hk Y v' l' hS a1;obtain⟨a',c',a3⟩:=aw a0;injection a3 with e1 e2 e3;unfold jK at a1⊢
  cases hi:(dw is j)[k]? with
  |none=>
   rw[hi]at a1;exact ut hS x k (by rw[e2];exact List.getElem?_eq_none_iff.1 hi) (by omega)
  |some i=>
   rw[hi]at a1;obtain⟨i1,i2⟩:=Ak hi;exact zc hS x k i (by omega) (dw is j) hi a0 (xg is j) _ (fun Z hZ=>sZ hI hN hn f i i2 (by omega) Z v' l' hZ a1)
theorem qJ {is:List Ins} (hI:ItB w 0 vi X.items) (hN:jY w 0 X.items is) (hn:is.length≤24) (h0:0<is.length) (hs: ∀y∈is,(bF y).num≤3000):
  Calls Tryz.prog 95 #[.agg #[.int .u8 X.cls.toNat,.int .i64 X.meth,.int .u8 X.ans.toNat,vl,vi]] w fun en w'=>But (fun _=>False) w w'∧ ∃v' l,en= .returned v'∧ItB w' 0 v' l∧l.length≤200∧dA l:=by
 have hL:=(ox is 24 0 []).2;have hE:=qt (t:=is) (k:=0) (by omega);have a6:=oy hs 24 0 [] (fun x hx=>by simp at hx) (by simp at hL;omega);have a1:(jJ is 24 0 []).length≤96:=by simp at hL;omega
 obtain⟨W,hW⟩: ∃W,(w.alloc (.cells #[.int .u8 X.cls.toNat,.int .i64 X.meth,.int .u8 X.ans.toNat,vl,vi] 115)).alloc (.cells #[.int .u8 X.cls.toNat,.int .i64 X.meth,.int .u8 X.ans.toNat,vl,vi,.slice none 0 0] 246)=W:=⟨_,rfl⟩;have hB:But (fun _=>False) w W:=hW▸(But.alloc _ _ _).trans (But.alloc _ _ _);have hC:CmB W (w.heap.size+1) (.int .u8 X.cls.toNat) (.int .i64 X.meth) (.int .u8 X.ans.toNat) vl vi (.slice none 0 0):=hW▸aq (by simp) _;have hS:CmS w W (w.heap.size+1) X vl vi (.slice none 0 0) []:=⟨hB,hC,⟨rfl,Or.inl ⟨rfl,rfl⟩⟩,by omega⟩;have HC:=hid (sZ hI hN hn 24 0 h0 (by omega) W _ _ hS (by omega))
 obtain⟨L,a4⟩: ∃L,jJ is 24 0 []=L:=⟨_,rfl⟩;rw[a4]at HC a6 a1;have HW:=hid hW;clear hL hE a4 hS hC hB hI hN hs hW
 go_in
 go_wp2_with fail;rw[HW.out];refine HC.out.mono ?_;rintro en w1 ⟨rfl,a7,v1,a5,a9⟩;have a2:=hid (a5.lay (by omega) 116);clear HC a7 a9 a5 HW;go_wp2_with fail;refine a2.out.mono ?_;rintro en w2 ⟨rfl,a8,v2,a0,b0⟩;have c5:=ce5 a0.blk;have hcl:=ae a0.blk;have a3:=hid a0;clear a2 a8 b0 a0;go_wp2_with fail;exact b8 (v2) Tryz.results95 rfl rfl ⟨a3.out.old,v2,_,rfl,World.ownsRow.mono a3.out.its (Nat.zero_le _),by simp;omega,a6.app (dA.one (by show(0:Nat)≤3000;omega))⟩
end
theorem ix {W w:World} {g:Nat} (c:UInt8) (hg:W.heap.size=g) (hb:But (fun _=>False) (W.alloc (.cells #[.int .u8 c.toNat] 5)) w):(convert 112 9 (.slice (some ⟨g,0,none⟩) 1 1)).run Tryz.prog w= .ok (.string ⟨#[c]⟩) w:=
 fo ((iM W _ c rfl g hg).but hb (fun _ _ h=>h))
theorem oP (X:bu) (vl vi:Value) (w:World) (hO:BtB w 0 vl X.locals) (hl:X.locals.length≤1000) (hm:X.meth≤3000) (ht:dc w):
  Calls Tryz.prog 161 #[.agg #[.int .u8 X.cls.toNat,.int .i64 X.meth,.int .u8 X.ans.toNat,vl,vi]] w (y8 w 3000):=by
 have HT:=hid ht;obtain⟨cls,meth,ans,locals,items⟩:=X;dsimp only at hO hl hm;have HF:=hid (fun f hf w1 (hB:But (fun _=>False) w w1)=>kj vl locals f w1 (hO.but hB (fun _ _ h=>h)) hl hf);have hX:(w.alloc (.cells #[.int .u8 cls.toNat,.int .i64 meth,.int .u8 ans.toNat,vl,vi] 115)).heap[w.heap.size]?=some (.cells #[.int .u8 cls.toNat,.int .i64 meth,.int .u8 ans.toNat,vl,vi] 115):=heap_alloc_new w _;have HX:=hid hX;have HB:Hid (But (fun _=>False) w (w.alloc (.cells #[.int .u8 cls.toNat,.int .i64 meth,.int .u8 ans.toNat,vl,vi] 115))):=hid (But.alloc _ _ _);clear ht hO hX
 go_in
 by_cases h45:cls.toNat=45
 ·have a9:((cls.toNat:Int)==45)=true:=aZ 45 (by omega);clear h45;go_wp2_with fail;refine(HF.out 0 (by omega) _ HB.out).mono ?_;rintro en w1 ⟨S,rfl,z,a4⟩;have a3:=hid (HB.out.trans a4);clear a4 HX HB HF;have hz:(⟨#[59]⟩:ByteArray).size+S.size≤200000:=by show 1+S.size≤200000;omega
  go_wp2_with fail;exact ou Tryz.results161 rfl rfl ⟨_,rfl,by simp only[cg];show 1+S.size≤3000;omega,a3.out⟩
 ·have a9:((cls.toNat:Int)==45)=false:=aQ 45 (by omega);clear h45;go_wp2_with fail;refine(HF.out 2 (by omega) _ HB.out).mono ?_;rintro en w1 ⟨S0,rfl,z0,a4⟩;have a7:=a4.kp HX.out;have a3:=hid (HB.out.trans a4);clear a4 HX HB HF;have y0:=ce0 a7;have y1:=ce1 a7;have a8:=ae a7;clear a7;go_wp2_with fail;have a1:But (fun _=>False) w1 w1.drew:=But.drew _ _;refine cA (But (fun _=>False) w1) 10 (by kernel_rfl) ?_;have fSA:=hid (fun wS (h:(But (fun _=>False) w1) wS)=>(And.intro (h.kc y0 a8) (h.kc y1 a8)));refine aB (k:=0) (v:= ?vA0) rfl (by decide) (by kernel_rfl) (fun _ _ _ h=>h) rfl a1 ?yA0 ?rA0
  case yA0=>intro wS h;obtain⟨q0,q1⟩:=fSA.out wS h;clear h;go_simp;try rfl
  dsimp only[Act.put]
  try simp only[aK]
  refine aB (k:=1) (v:= ?vA1) rfl (by decide) (by kernel_rfl) (fun _ _ _ h=>h) rfl a1 ?yA1 ?rA1
  case yA1=>intro wS h;obtain⟨q0,q1⟩:=fSA.out wS h;clear h;go_simp;try rfl
  dsimp only[Act.put]
  try simp only[aK]
  refine aB (k:=4) (v:= ?vA4) rfl (by decide) (by kernel_rfl) (fun _ _ _ h=>h) rfl a1 ?yA4 ?rA4
  case yA4=>intro wS h;obtain⟨q0,q1⟩:=fSA.out wS h;clear h;go_simp;try rfl
  dsimp only[Act.put]
  try simp only[aK]
  refine aB (k:=5) (v:= ?vA5) rfl (by decide) (by kernel_rfl) (fun _ _ _ h=>h) rfl a1 ?yA5 ?rA5
  case yA5=>intro wS h;obtain⟨q0,q1⟩:=fSA.out wS h;clear h;go_simp;try rfl
  dsimp only[Act.put]
  try simp only[aK]
  refine aB (k:=8) (v:= ?vA8) rfl (by decide) (by kernel_rfl) (fun _ _ _ h=>h) rfl a1 ?yA8 ?rA8
  case yA8=>intro wS h;obtain⟨q0,q1⟩:=fSA.out wS h;clear h;go_simp;try rfl
  dsimp only[Act.put]
  try simp only[aK]
  try clear fSA
  revert a1;generalize w1.drew=w2;intro a1;refine iz (k1:=2) (o1:= ?oA2) (k2:=6) (o2:= ?oA6) ?hoA2 ?hoA6 ?hlA2_6 ?hrA2_6 ?stA2 ?stA6
  case hoA2=>rfl
  case hoA6=>rfl
  case hlA2_6=>decide
  case hrA2_6=>kernel_rfl
  case' stA2=>
   intro KS hKS;go_simp;have hA:But (fun _=>False) w2 (w2.alloc (.cells #[.int .u8 cls.toNat] 5)):=But.alloc _ _ _;have a2:=a1.trans hA;refine hKS.out _ _ (fun _=>a2) ?_;clear hKS KS;refine iz (k1:=3) (o1:= ?oB3) (k2:=6) (o2:= ?oB6) ?hoB3 ?hoB6 ?hlB3_6 ?hrB3_6 ?stB3 ?stB6
   case hoB3=>rfl
   case hoB6=>rfl
   case hlB3_6=>decide
   case hrB3_6=>kernel_rfl
   case' stB3=>
    intro KS hKS;have a6:=ix cls rfl (But.refl _ (w2.alloc (.cells #[.int .u8 cls.toNat] 5)));go_simp;refine hKS.out _ _ (fun _=>a2) ?_;clear hKS KS;refine aE (k:=6) rfl (by decide) (by kernel_rfl) ?_;intro KS hKS;go_simp;refine(fw meth (by omega) _ (HT.out.but (a3.out.trans a2))).mono ?_;rintro en w3 ⟨S3,rfl,z3,a5⟩;have a0:=a2.trans a5;refine hKS.out _ _ (fun _=>a0) ?_;clear hKS KS a6;have z1:(⟨#[cls]⟩:ByteArray).size+S3.size≤200000:=by show 1+S3.size≤200000;omega
    refine aE (k:=7) rfl (by decide) (by kernel_rfl) ?_;intro KS hKS;go_simp;rw[if_neg (by show¬_<1+S3.size;omega)];refine hKS.out _ _ (fun _=>a0) ?_;clear hKS KS;refine aE (k:=9) rfl (by decide) (by kernel_rfl) ?_;intro KS hKS;go_simp;rw[if_neg (by show¬_<1+S3.size+S0.size;omega)];refine hKS.out _ _ (fun _=>a0) ?_;clear hKS KS;refine aE (k:=10) rfl (by decide) (by kernel_rfl) ?_;intro KS hKS;go_simp;refine hKS.out _ _ nofun ?_;clear hKS KS;refine ck rfl (by kernel_rfl) ?_;go_wp2_with fail;exact ou Tryz.results161 rfl rfl ⟨_,rfl,by simp only[cg];show 1+S3.size+S0.size≤3000;omega,a3.out.trans a0⟩
   case' stB6=>
    intro KS hKS;go_simp;refine(fw meth (by omega) _ (HT.out.but (a3.out.trans a2))).mono ?_;rintro en w3 ⟨S3,rfl,z3,a5⟩;have a0:=a2.trans a5;refine hKS.out _ _ (fun _=>a0) ?_;clear hKS KS;have a6:=ix cls rfl a5;refine aE (k:=3) rfl (by decide) (by kernel_rfl) ?_;intro KS hKS;go_simp;refine hKS.out _ _ (fun _=>a0) ?_;clear hKS KS a6;have z1:(⟨#[cls]⟩:ByteArray).size+S3.size≤200000:=by show 1+S3.size≤200000;omega
    refine aE (k:=7) rfl (by decide) (by kernel_rfl) ?_;intro KS hKS;go_simp;rw[if_neg (by show¬_<1+S3.size;omega)];refine hKS.out _ _ (fun _=>a0) ?_;clear hKS KS;refine aE (k:=9) rfl (by decide) (by kernel_rfl) ?_;intro KS hKS;go_simp;rw[if_neg (by show¬_<1+S3.size+S0.size;omega)];refine hKS.out _ _ (fun _=>a0) ?_;clear hKS KS;refine aE (k:=10) rfl (by decide) (by kernel_rfl) ?_;intro KS hKS;go_simp;refine hKS.out _ _ nofun ?_;clear hKS KS;refine ck rfl (by kernel_rfl) ?_;go_wp2_with fail;exact ou Tryz.results161 rfl rfl ⟨_,rfl,by simp only[cg];show 1+S3.size+S0.size≤3000;omega,a3.out.trans a0⟩
  case' stA6=>
   intro KS hKS;go_simp;refine(fw meth (by omega) _ (HT.out.but (a3.out.trans a1))).mono ?_;rintro en w3 ⟨S3,rfl,z3,a5⟩;have a2:=a1.trans a5;refine hKS.out _ _ (fun _=>a2) ?_;clear hKS KS;refine aE (k:=2) rfl (by decide) (by kernel_rfl) ?_;intro KS hKS;go_simp;have hA:But (fun _=>False) w3 (w3.alloc (.cells #[.int .u8 cls.toNat] 5)):=But.alloc _ _ _;have a0:=a2.trans hA;refine hKS.out _ _ (fun _=>a0) ?_;clear hKS KS;have a6:=ix cls rfl (But.refl _ (w3.alloc (.cells #[.int .u8 cls.toNat] 5)));refine aE (k:=3) rfl (by decide) (by kernel_rfl) ?_;intro KS hKS;go_simp;refine hKS.out _ _ (fun _=>a0) ?_
   clear hKS KS a6;have z1:(⟨#[cls]⟩:ByteArray).size+S3.size≤200000:=by show 1+S3.size≤200000;omega
   refine aE (k:=7) rfl (by decide) (by kernel_rfl) ?_;intro KS hKS;go_simp;rw[if_neg (by show¬_<1+S3.size;omega)];refine hKS.out _ _ (fun _=>a0) ?_;clear hKS KS;refine aE (k:=9) rfl (by decide) (by kernel_rfl) ?_;intro KS hKS;go_simp;rw[if_neg (by show¬_<1+S3.size+S0.size;omega)];refine hKS.out _ _ (fun _=>a0) ?_;clear hKS KS;refine aE (k:=10) rfl (by decide) (by kernel_rfl) ?_;intro KS hKS;go_simp;refine hKS.out _ _ nofun ?_;clear hKS KS;refine ck rfl (by kernel_rfl) ?_;go_wp2_with fail;exact ou Tryz.results161 rfl rfl ⟨_,rfl,by simp only[cg];show 1+S3.size+S0.size≤3000;omega,a3.out.trans a0⟩
theorem oQ (X:bu) (vl vi v:Value) (l:List XIt) (w:World) (hO:BtB w 0 vl X.locals) (hlo:X.locals.length≤1000) (hm:X.meth≤3000) (hI:ItB w 0 v l) (hl:l.length≤200) (hs:dA l) (ht:dc w):
  Calls Tryz.prog 96 #[.agg #[.int .u8 X.cls.toNat,.int .i64 X.meth,.int .u8 X.ans.toNat,vl,vi],v] w (y8 w 30000):=by
 have HB:Hid (But (fun _=>False) w (w.alloc (.cells #[.int .u8 X.cls.toNat,.int .i64 X.meth,.int .u8 X.ans.toNat,vl,vi] 115))):=hid (But.alloc _ _ _);have HH:=hid (oP X vl vi _ (hO.but HB.out (fun _ _ h=>h)) hlo hm (ht.but HB.out));have HW:=hid (fun x hx w1 (hB:But (fun _=>False) w w1)=>ov x w1 (ht.but hB) (hs x hx));unfold ItB at hI;obtain⟨av,cv,rfl⟩:=aw hI;have HI:=hid hI;clear ht hs hI hO
 go_in
 go_wp2_with fail;refine HH.out.mono ?_;rintro en w1 ⟨S,rfl,z,a4⟩;have hB:=HB.out.trans a4;have hz:S.size+(⟨#[58]⟩:ByteArray).size≤200000:=by show S.size+1≤200000;omega
 clear HH HB a4;go_wp2_with fail
 go_loopg [5,6] l.length (fun mm os ks wr=> ∃(k:Nat) (S:ByteArray),os= .string S∧S.size≤3001+100*k∧ks= .int .i64 k∧k≤l.length∧k+mm≤l.length∧l.length≤k+mm∧But (fun _=>False) w wr)
 case atStart=>exact⟨0,_,rfl,by simp only[cg];show S.size+1≤3001+0;omega,rfl,by omega,by omega,by omega,hB⟩
 case round=>
  obtain⟨k,S',rfl,b3,rfl,b1,a6,b2,a2⟩:=hrel;clear a6 hB hz z
  by_cases hlt:k<l.length
  ·have a7:(k:Int)<(l.length:Int):=by omega
   obtain⟨x,hx⟩: ∃x,l[k]=x:=⟨_,rfl⟩;have a1:=List.getElem?_eq_getElem hlt;rw[hx]at a1;obtain⟨g,e1,a9,b0,a0⟩:=aI (ah HI.out a2 (fun _ _ h=>h)) (by omega)
   cases e1
   have q0:wr.cell? ⟨g,k*5,none⟩=some _:=a0 _ _ (aP (k:=0) a1 (by omega));have q1:wr.cell? ⟨g,k*5+1,none⟩=some _:=a0 _ _ (aP (k:=1) a1 (by omega));have q2:wr.cell? ⟨g,k*5+2,none⟩=some _:=a0 _ _ (aP (k:=2) a1 (by omega));have q3:wr.cell? ⟨g,k*5+3,none⟩=some _:=a0 _ _ (aP (k:=3) a1 (by omega));have q4:wr.cell? ⟨g,k*5+4,none⟩=some _:=a0 _ _ (aP (k:=4) a1 (by omega));have HC:=hid (HW.out x (List.mem_of_getElem? a1) wr a2);unfold bU at HC;clear a0 hx a1;go_wp2_with fail;refine HC.out.mono ?_;rintro en w2 ⟨S2,rfl,z2,a5⟩;have a8:S'.size+S2.size≤200000:=by omega
   have a3:=a2.trans a5;clear HC a5 q0 q1 q2 q3 q4;go_wp2_with fail
   go_roundg (l.length-(k+1))
   case measure=>omega
   case rel=>exact⟨k+1,_,rfl,by simp only[cg];omega,by simp,by omega,by omega,by omega,a3⟩
  ·have a7: ¬(k:Int)<(l.length:Int):=by omega
   have a8:S'.size+(⟨#[46]⟩:ByteArray).size≤200000:=by show S'.size+1≤200000;omega
   go_wp2_with fail;exact ou Tryz.results96 rfl rfl ⟨_,rfl,by simp only[cg];show S'.size+1≤30000;omega,a2⟩
def B7 (w:World) (n:Nat) (en:Ending) (w':World):Prop:= ∃s:ByteArray,en= .returned (.string s)∧0<s.size∧s.size≤n∧But (fun _=>False) w w'
theorem qK (b:Nat) (cs:List bv) (ms:List Sig) (w:World) (hC:TxC w b cs) (hM:TxM w b ms) (hn:cs.length≤10) (hf: ∀x∈cs,x.fields.length≤1000) (hm:ms.length≤10):
  Calls Tryz.prog 94 #[.pointer (some ⟨b,0,none⟩)] w (B7 w 40000):=by
 have HC:=hid hC;obtain⟨v0,lc,g2,b4,e2,a7,b5⟩:=hC;obtain⟨v1,g3,_,e3⟩:=hM;obtain⟨ac,cc,rfl⟩:=aw e2;obtain⟨am,cm,rfl⟩:=aw e3;have g0:lc.length=cs.length:=by rw[←a7];simp
 have f4:=hid e2;have f5:=hid e3;have f3:=hid b5;have HF:=hid hf;have b9:=hid a7;have g1:lc.length≤10:=by omega
 clear e2 e3 b5 hf g0 a7
 go_in
 go_wp2_with fail
 go_loopg [3,4] lc.length (fun mm os ks wr=> ∃(k:Nat) (S:ByteArray),os= .string S∧S.size≤3000*k∧ks= .int .i64 k∧k≤lc.length∧k+mm≤lc.length∧lc.length≤k+mm∧But (fun _=>False) w wr)
 case atStart=>exact⟨0,_,rfl,by show 0≤_;omega,rfl,by omega,by omega,by omega,But.refl _ _⟩
 case round=>
  obtain⟨k,S',rfl,f0,rfl,e8,e4,e9,a2⟩:=hrel;clear e4;have c0:=a2.kc g2 b4;have e6:b<wr.heap.size:=Nat.lt_of_lt_of_le b4 a2.size
  by_cases hlt:k<lc.length
  ·have b6:(k:Int)<(lc.length:Int):=by omega
   obtain⟨x,hx⟩: ∃x,lc[k]=x:=⟨_,rfl⟩;have a4:=List.getElem?_eq_getElem hlt;rw[hx]at a4;obtain⟨x,vf⟩:=x;obtain⟨g,e1,f7,f8,a0⟩:=aI (ah f4.out a2 (fun _ _ h=>h)) (by omega)
   cases e1
   have q0:wr.cell? ⟨g,k*2,none⟩=some (.int .u8 x.par.toNat):=a0 _ _ (gE a4);have q1:wr.cell? ⟨g,k*2+1,none⟩=some vf:=a0 _ _ (gG a4);have a8:=List.mem_of_getElem? a4;have e0:BtB wr 0 vf x.fields:=(f3.out _ a8).but a2 (fun _ _ h=>h);have b5:x.fields.length≤1000:=HF.out x (by rw[←b9.out];exact List.mem_map_of_mem (f:=(·.1)) a8);clear a0 hx a4 a8;obtain⟨af,cf,rfl⟩:=aw e0;have e7:=heap_alloc_new wr (.cells #[.int .u8 x.par.toNat,.slice af x.fields.length cf] 240);have d6:But (fun _=>False) wr (wr.alloc (.cells #[.int .u8 x.par.toNat,.slice af x.fields.length cf] 240)):=But.alloc _ _ _;have b3:=hid (kS b cs x.par _ (by omega) ((HC.out.but a2).but d6))
   have f6:(bH cs x.par).length≤1000:=by
    unfold bH
    split
    ·cases he:cs[x.par.toNat-65]? with
     |none=>simp
     |some y=>exact HF.out y (List.mem_of_getElem? he)
    ·simp
   have c6:=hid (fun w1 (hB:But (fun _=>False) wr w1)=>kj _ x.fields (bH cs x.par).length w1 (e0.but hB (fun _ _ h=>h)) b5 f6);generalize (bH cs x.par).length=nf at*;have b1:=hid e7;have a6:=hid d6;clear e7 d6 e0;go_wp2_with fail;revert b1 a6 b3;generalize (wr.alloc (.cells #[.int .u8 x.par.toNat,.slice af x.fields.length cf] 240))=w1;intro b3 b1 a6;refine b3.out.mono ?_;rintro en b2 ⟨rfl,rfl⟩;clear b3 q0 q1 c0;have y0:=ce0 b1.out;have y1:=ce1 b1.out;have f1:=ae b1.out;go_wp2_with fail;have a3:But (fun _=>False) b2 b2.drew:=But.drew _ _;refine cA (But (fun _=>False) b2) 12 (by kernel_rfl) ?_;have fSA:=hid (fun wS (h:(But (fun _=>False) b2) wS)=>(And.intro (h.kc y0 f1) (h.kc y1 f1)))
   refine aB (k:=0) (v:= ?vA0) rfl (by decide) (by kernel_rfl) (fun _ _ _ h=>h) rfl a3 ?yA0 ?rA0
   case yA0=>intro wS h;obtain⟨q0,q1⟩:=fSA.out wS h;clear h;go_simp;try rfl
   dsimp only[Act.put]
   try simp only[aK]
   refine aB (k:=1) (v:= ?vA1) rfl (by decide) (by kernel_rfl) (fun _ _ _ h=>h) rfl a3 ?yA1 ?rA1
   case yA1=>intro wS h;obtain⟨q0,q1⟩:=fSA.out wS h;clear h;go_simp;try rfl
   dsimp only[Act.put]
   try simp only[aK]
   refine aB (k:=2) (v:= ?vA2) rfl (by decide) (by kernel_rfl) (fun _ _ _ h=>h) rfl a3 ?yA2 ?rA2
   case yA2=>intro wS h;obtain⟨q0,q1⟩:=fSA.out wS h;clear h;go_simp;try rfl
   dsimp only[Act.put]
   try simp only[aK]
   refine aB (k:=5) (v:= ?vA5) rfl (by decide) (by kernel_rfl) (fun _ _ _ h=>h) rfl a3 ?yA5 ?rA5
   case yA5=>intro wS h;obtain⟨q0,q1⟩:=fSA.out wS h;clear h;go_simp;try rfl
   dsimp only[Act.put]
   try simp only[aK]
   refine aB (k:=6) (v:= ?vA6) rfl (by decide) (by kernel_rfl) (fun _ _ _ h=>h) rfl a3 ?yA6 ?rA6
   case yA6=>intro wS h;obtain⟨q0,q1⟩:=fSA.out wS h;clear h;go_simp;try rfl
   dsimp only[Act.put]
   try simp only[aK]
   refine aB (k:=7) (v:= ?vA7) rfl (by decide) (by kernel_rfl) (fun _ _ _ h=>h) rfl a3 ?yA7 ?rA7
   case yA7=>intro wS h;obtain⟨q0,q1⟩:=fSA.out wS h;clear h;go_simp;try rfl
   dsimp only[Act.put]
   try simp only[aK]
   try clear fSA
   revert a3;generalize b2.drew=w2;intro a3;refine iz (k1:=3) (o1:= ?oA3) (k2:=8) (o2:= ?oA8) ?hoA3 ?hoA8 ?hlA3_8 ?hrA3_8 ?stA3 ?stA8
   case hoA3=>rfl
   case hoA8=>rfl
   case hlA3_8=>decide
   case hrA3_8=>kernel_rfl
   case' stA3=>
    intro KS hKS;go_simp;have hA:But (fun _=>False) w2 (w2.alloc (.cells #[.int .u8 x.par.toNat] 5)):=But.alloc _ _ _;have a5:=a3.trans hA;refine hKS.out _ _ (fun _=>a5) ?_;clear hKS KS;refine iz (k1:=4) (o1:= ?oB4) (k2:=8) (o2:= ?oB8) ?hoB4 ?hoB8 ?hlB4_8 ?hrB4_8 ?stB4 ?stB8
    case hoB4=>rfl
    case hoB8=>rfl
    case hlB4_8=>decide
    case hrB4_8=>kernel_rfl
    case' stB4=>
     intro KS hKS;have b0:=ix x.par rfl (But.refl _ (w2.alloc (.cells #[.int .u8 x.par.toNat] 5)));go_simp;refine hKS.out _ _ (fun _=>a5) ?_;clear hKS KS;refine aE (k:=8) rfl (by decide) (by kernel_rfl) ?_;intro KS hKS;go_simp;refine(c6.out _ (a6.out.trans a5)).mono ?_;rintro en w3 ⟨S3,rfl,z3,a9⟩;have a1:=a5.trans a9;refine hKS.out _ _ (fun _=>a1) ?_;clear hKS KS b0;refine aE (k:=9) rfl (by decide) (by kernel_rfl) ?_;intro KS hKS;go_simp;rw[if_neg (by show¬_<1+S3.size;omega)];refine hKS.out _ _ (fun _=>a1) ?_;clear hKS KS;refine aE (k:=10) rfl (by decide) (by kernel_rfl) ?_;intro KS hKS;go_simp
     rw[if_neg (by show¬_<1+S3.size+1;omega)];refine hKS.out _ _ (fun _=>a1) ?_;clear hKS KS;refine aE (k:=11) rfl (by decide) (by kernel_rfl) ?_;intro KS hKS;go_simp;rw[if_neg (by show¬_<S'.size+(1+S3.size+1);omega)];refine hKS.out _ _ (fun _=>a1) ?_;clear hKS KS;refine aE (k:=12) rfl (by decide) (by kernel_rfl) ?_;intro KS hKS;go_simp;refine hKS.out _ _ nofun ?_;clear hKS KS;refine ck rfl (by kernel_rfl) ?_;go_wp2_with fail
     go_roundg (lc.length-(k+1))
     case measure=>omega
     case rel=>exact⟨k+1,_,rfl,by simp only[cg];show S'.size+(1+S3.size+1)≤_;omega,by simp,by omega,by omega,by omega,a2.trans (a6.out.trans a1)⟩
    case' stB8=>
     intro KS hKS;go_simp;refine(c6.out _ (a6.out.trans a5)).mono ?_;rintro en w3 ⟨S3,rfl,z3,a9⟩;have a1:=a5.trans a9;refine hKS.out _ _ (fun _=>a1) ?_;clear hKS KS;have b0:=ix x.par rfl a9;refine aE (k:=4) rfl (by decide) (by kernel_rfl) ?_;intro KS hKS;go_simp;refine hKS.out _ _ (fun _=>a1) ?_;clear hKS KS b0;refine aE (k:=9) rfl (by decide) (by kernel_rfl) ?_;intro KS hKS;go_simp;rw[if_neg (by show¬_<1+S3.size;omega)];refine hKS.out _ _ (fun _=>a1) ?_;clear hKS KS;refine aE (k:=10) rfl (by decide) (by kernel_rfl) ?_;intro KS hKS;go_simp;rw[if_neg (by show¬_<1+S3.size+1;omega)];refine hKS.out _ _ (fun _=>a1) ?_
     clear hKS KS;refine aE (k:=11) rfl (by decide) (by kernel_rfl) ?_;intro KS hKS;go_simp;rw[if_neg (by show¬_<S'.size+(1+S3.size+1);omega)];refine hKS.out _ _ (fun _=>a1) ?_;clear hKS KS;refine aE (k:=12) rfl (by decide) (by kernel_rfl) ?_;intro KS hKS;go_simp;refine hKS.out _ _ nofun ?_;clear hKS KS;refine ck rfl (by kernel_rfl) ?_;go_wp2_with fail
     go_roundg (lc.length-(k+1))
     case measure=>omega
     case rel=>exact⟨k+1,_,rfl,by simp only[cg];show S'.size+(1+S3.size+1)≤_;omega,by simp,by omega,by omega,by omega,a2.trans (a6.out.trans a1)⟩
   case' stA8=>
    intro KS hKS;go_simp;refine(c6.out _ (a6.out.trans a3)).mono ?_;rintro en w3 ⟨S3,rfl,z3,a9⟩;have a5:=a3.trans a9;refine hKS.out _ _ (fun _=>a5) ?_;clear hKS KS;refine aE (k:=3) rfl (by decide) (by kernel_rfl) ?_;intro KS hKS;go_simp;have hA:But (fun _=>False) w3 (w3.alloc (.cells #[.int .u8 x.par.toNat] 5)):=But.alloc _ _ _;have a1:=a5.trans hA;refine hKS.out _ _ (fun _=>a1) ?_;clear hKS KS;have b0:=ix x.par rfl (But.refl _ (w3.alloc (.cells #[.int .u8 x.par.toNat] 5)));refine aE (k:=4) rfl (by decide) (by kernel_rfl) ?_;intro KS hKS;go_simp;refine hKS.out _ _ (fun _=>a1) ?_;clear hKS KS b0
    refine aE (k:=9) rfl (by decide) (by kernel_rfl) ?_;intro KS hKS;go_simp;rw[if_neg (by show¬_<1+S3.size;omega)];refine hKS.out _ _ (fun _=>a1) ?_;clear hKS KS;refine aE (k:=10) rfl (by decide) (by kernel_rfl) ?_;intro KS hKS;go_simp;rw[if_neg (by show¬_<1+S3.size+1;omega)];refine hKS.out _ _ (fun _=>a1) ?_;clear hKS KS;refine aE (k:=11) rfl (by decide) (by kernel_rfl) ?_;intro KS hKS;go_simp;rw[if_neg (by show¬_<S'.size+(1+S3.size+1);omega)];refine hKS.out _ _ (fun _=>a1) ?_;clear hKS KS;refine aE (k:=12) rfl (by decide) (by kernel_rfl) ?_;intro KS hKS;go_simp;refine hKS.out _ _ nofun ?_;clear hKS KS
    refine ck rfl (by kernel_rfl) ?_;go_wp2_with fail
    go_roundg (lc.length-(k+1))
    case measure=>omega
    case rel=>exact⟨k+1,_,rfl,by simp only[cg];show S'.size+(1+S3.size+1)≤_;omega,by simp,by omega,by omega,by omega,a2.trans (a6.out.trans a1)⟩
  ·have b6: ¬(k:Int)<(lc.length:Int):=by omega
   have hz:S'.size+(⟨#[59]⟩:ByteArray).size≤200000:=by show S'.size+1≤200000;omega
   have e5:=a2;go_wp2_with fail
   go_loopg [3,7] ms.length (fun mm os ks wr=> ∃(k:Nat) (S:ByteArray),os= .string S∧S.size≤30001+3*k∧ks= .int .i64 k∧k≤ms.length∧k+mm≤ms.length∧ms.length≤k+mm∧But (fun _=>False) w wr)
   case atStart=>exact⟨0,_,rfl,by simp only[cg];show S'.size+1≤_;omega,rfl,by omega,by omega,by omega,e5⟩
   case round=>
    clear e5 hz f0 b6 e8 e9 hlt c0 e6 a2;obtain⟨i,S2,rfl,f0,rfl,e8,e4,e9,a2⟩:=hrel;clear e4;have c1:=a2.kc g3 b4;have e6:b<wr.heap.size:=Nat.lt_of_lt_of_le b4 a2.size
    by_cases hlt:i<ms.length
    ·have b6:(i:Int)<(ms.length:Int):=by omega
     obtain⟨x,hx⟩: ∃x,ms[i]=x:=⟨_,rfl⟩;have a4:=List.getElem?_eq_getElem hlt;rw[hx]at a4;obtain⟨xa,xr⟩:=x;obtain⟨g,e1,f7,f8,a0⟩:=aI (ah f5.out a2 (fun _ _ h=>h)) (by omega)
     cases e1
     have q0:wr.cell? ⟨g,i*2,none⟩=some (.int .u8 xa.toNat):=a0 _ _ (gu (k:=0) a4 (by omega));have q1:wr.cell? ⟨g,i*2+1,none⟩=some (.int .u8 xr.toNat):=a0 _ _ (gu (k:=1) a4 (by omega))
     obtain⟨S3,b0,z3⟩: ∃S3:ByteArray,(∀(W:World) (g:Nat),W.heap.size=g→(convert 112 9 (.slice (some ⟨g,0,none⟩) 3 3)).run Tryz.prog (W.alloc (.cells #[.int .u8 xa.toNat,.int .u8 xr.toNat,.int .u8 46] 5))= .ok (.string S3) (W.alloc (.cells #[.int .u8 xa.toNat,.int .u8 xr.toNat,.int .u8 46] 5)))∧S3.size=3:=
      ⟨⟨#[xa,xr,46]⟩,fun W g h=>h▸fo (BtB.lit W 0 (Nat.zero_le _) [xa,xr,46] (by simp)),rfl⟩
     have HZ:=hid z3;have hz:S2.size+S3.size≤200000:=by omega
     have f2:=hid (a2.trans ((But.alloc (fun _=>False) wr (.cells #[.int .u8 xa.toNat,.int .u8 xr.toNat] 243)).trans (But.alloc _ _ (.cells #[.int .u8 xa.toNat,.int .u8 xr.toNat,.int .u8 46] 5))));clear a0 hx a4 z3;go_wp2_with fail
     go_roundg (ms.length-(i+1))
     case measure=>omega
     case rel=>exact⟨i+1,_,rfl,by rw[cg,HZ.out];omega,by simp,by omega,by omega,by omega,f2.out⟩
    ·have b6: ¬(i:Int)<(ms.length:Int):=by omega
     have hz:S2.size+(⟨#[59]⟩:ByteArray).size≤200000:=by show S2.size+1≤200000;omega
     go_wp2_with fail;exact ou Tryz.results94 rfl rfl ⟨_,rfl,by simp only[cg];show 0<S2.size+1;omega,by simp only[cg];show S2.size+1≤_;omega,a2⟩
end
end Go.Proofs.YtpfkkmacakjmbaaGreatDoor
