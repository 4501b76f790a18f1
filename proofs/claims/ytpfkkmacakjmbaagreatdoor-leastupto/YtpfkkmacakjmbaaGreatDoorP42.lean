import Derived.Test.YtpfkkmacakjmbaaGreatDoorP41
set_option maxRecDepth 100000
set_option maxHeartbeats 6400000
set_option linter.unusedSimpArgs false
set_option linter.unusedVariables false
namespace Go.Proofs.YtpfkkmacakjmbaaGreatDoor
section
open Go Go.RowKit Sp
attribute [local go_sem ↓] Go.wp_at_zero Go.wp_at_succ
section
variable {w0 w w':World} {cb:Nat} {X:ba} {vl vi v:Value} {l:List XIt}
theorem wm (h:CmS w0 w cb X vl vi v l) (x:XIt) (p:Nat→List XIt→List XIt) (hp: ∀k l,l.length≤(p k l).length) (hb:(lL p l).length≤3000)
  (HP: ∀k,k≤2→ ∀Y v l,CmS w0 Y cb X vl vi v l→(p k l).length≤3000→Calls Tryz.prog 210 #[.pointer (some ⟨cb,0,none⟩),cI x,.int .i64 k] Y (CmR w0 Y cb X vl vi v (p k l))):
  Calls Tryz.prog 212 #[.pointer (some ⟨cb,0,none⟩),cI x] w (CmR w0 w cb X vl vi v (lL p l)):=by
 obtain⟨i0,f2,g0,g1,g2⟩:=info_parts gY;have n0:=hp 0 l;have n1:=hp 1 (p 0 l++ [dL 102]);rw[List.length_append,List.length_singleton]at n1;obtain⟨LF,b0⟩: ∃LF,lL p l=LF:=⟨_,rfl⟩;rw[b0];unfold lL at hb b0;have e0:=hid b0;clear b0;rw[List.length_append,dW,List.length_append,List.length_append,List.length_singleton,List.length_singleton,List.length_singleton]at hb;obtain⟨ao,cap,e8⟩:=aq h.its;have c5:=ce5 h.blk;rw[e8]at c5;have HG:=hid (h.begin (But.refl _ _) x);have a7:=hid HP;unfold cI at a7⊢;have g3:=ae h.blk;clear h HP hp e8
 go_in
 go_wp2_with fail;refine(HG.out.call (a7.out 0 (by omega) _ _ _ HG.out.s (by omega))).mono ?_;rintro en w1 ⟨rfl,v1,h1⟩;have H1:=hid h1;clear HG h1 c5;go_wp2_with fail;refine(H1.out.lay 102 (by omega)).mono ?_;rintro en w2 ⟨rfl,v2,h2⟩;obtain⟨x0,x1,x2,x3,x4⟩:=bc h2.b.box;have f3:=h2.at';have H2:=hid h2;clear H1 h2;go_wp2_with fail;refine(H2.out.call (a7.out 1 (by omega) _ _ _ H2.out.s (by omega))).mono ?_;rintro en w3 ⟨rfl,v3,h3⟩;have H3:=hid h3;clear H2 h3 x0 x1 x2 x3 x4 a7 f3;go_wp2_with fail;refine(H3.out.lay 100 (by omega)).mono ?_;rintro en w4 ⟨rfl,v4,h4⟩;have a0:=h4.s;have H4:=hid h4;clear H3 h4
 obtain⟨L4,b5⟩: ∃L4,p 1 (p 0 l++ [dL 102])++ [dL 100]=L4:=⟨_,rfl⟩;have f4:L4.length=(p 1 (p 0 l++ [dL 102])).length+1:=by rw[←b5];simp
 rw[b5]at a0 e0;have f6:(p 1 (p 0 l++ [dL 102])).length+1≤L4.length:=by omega
 have f7:L4.length≤(p 1 (p 0 l++ [dL 102])).length+1:=by omega
 clear b5 f4;have e7:v4.ownBlock≠some cb:=fun e=>aN a0.its a0.blk (by decide) e
 have c7:=a0.ge;have d6:=a0.new;have a5:=hid a0.old;have e6:=a0.old.size;have b4:=a0.its;obtain⟨a8,a1,rfl⟩:=aq b4;have f0:w4.ownsRow w0.heap.size 219 5 (.slice a8 L4.length a1) L4.length (bo L4):=b4;have c5:=ce5 a0.blk;have z5:=frozen_of_row w4 cb 5 _ _ a0.blk;have g4:=ae a0.blk;have HC:=hid a0.blk;have e9:=hid e7;clear a0 b4 e7;have g5:L4.length≤3000:=by omega
 go_wp2_with (at_builtin;refine wpList_append_lies _ rfl _ _ _ rfl w0.heap.size 219 i0 _ 5 48 (by kernel_rfl) f2 g0 g1 g2 rfl (by omega) _ L4.length (bo L4) rfl (f0.alloc _) ⟨w4.heap.size,0,none⟩ 1 1 [.int .i64 0,.int .u8 106,.int .u8 45,.int .i64 l.length,.slice none 0 0] rfl rfl (World.news_of_block (cs:=#[.int .i64 0,.int .u8 106,.int .u8 45,.int .i64 l.length,.slice none 0 0]) (t:=219) (fr:=(0,0)) (CB (by simp) _)) (by simp[Value.oneCell']) (by omega) (by unfold maxLen;omega) (by omega) (by simp;omega) (w4.heap.size+1) (by simp) ?_);intro gg a2 w5 a4 a3 e5 f8;have b6:But (fun k=>(Value.slice a8 L4.length a1).ownBlock=some k) w4 w5:=(But.alloc _ _ _).trans (aX a3)
 have a6:=HC.out.but b6 e9.out;have y5:=ce5 a6;have f5:=frozen_of_row w5 cb 5 _ _ a6;have f1:=ae a6;have e3:dm w4 (.slice a8 L4.length a1) (.slice (some ⟨gg,0,none⟩) (L4.length+1) a2):=e5.imp (fun h=>h.symm) (fun h=>⟨gg,rfl,by omega⟩);have b1:=hid a6;have b2:=hid a4;have e2:=hid b6;have e1:=hid e3;clear c5 z5 a3 e5 a6 a4 HC b6 e3;have b3:But (fun k=>k=cb∨(Value.slice a8 L4.length a1).ownBlock=some k) w4 (w5.setCell ⟨cb,5,none⟩ (.slice (some ⟨gg,0,none⟩) (L4.length+1) a2)):=(e2.out.mono (fun _ _ h=>Or.inr h)).trans ((But.setB _ _ _ _).mono (fun _ _ h=>Or.inl h))
 have e4:CmS w0 (w5.setCell ⟨cb,5,none⟩ (.slice (some ⟨gg,0,none⟩) (L4.length+1) a2)) cb X vl vi (.slice (some ⟨gg,0,none⟩) (L4.length+1) a2) (L4++ [⟨0,106,45,l.length,none,0,0⟩]):=by
  refine⟨a5.out.next b3 (fun k hk e=>c7 k hk e),b1.out.set _,?_,d6⟩;unfold ItB;rw[List.length_append,et];exact ah b2.out (But.setB _ _ _ _) (fun g hg e=>aN b2.out b1.out (by decide) (e▸hg))
 have H6:=hid (H4.out.next b3 e4 e1.out);clear b3 e4 e2 H4 b1 b2 a5 e1;go_wp2_with fail;refine(H6.out.call (H6.out.s.aimX (p 0 l).length (by rw[List.length_append];simp;omega) (by rw[List.length_append];simp;omega))).mono ?_;rintro en w7 ⟨rfl,v7,h7⟩;have H7:=hid h7;clear H6 h7;go_wp2_with fail;refine(H7.out.lay 107 (by rw[dW,List.length_append];simp;omega)).mono ?_;rintro en w8 ⟨rfl,v8,h8⟩;rw[e0.out]at h8;have H8:=hid h8;clear H7 h8;go_wp2_with fail;go_end0;exact H8.out.fin
end
def iN (x:XIt) (p:Nat→List XIt→List XIt) (l:List XIt):List XIt:=
 if x.op.toNat=44 then p 1 (p 0 l++ [dL 100])else if x.op.toNat=105 then iC p l else if x.op.toNat=111 then lL p l else p 1 (p 0 l)++fj x
def ji (is:List Ins):Nat→Nat→List XIt→List XIt
 |0,_,l=>l
 |f+1,j,l=>match is[j]? with
  |none=>l
  |some y=>iN (bp y) (fun k l=>match(dg is j)[k]? with
   |some i=>ji is f i l
   |none=>l) l
def jk (is:List Ins) (f j k:Nat) (l:List XIt):List XIt:=match(dg is j)[k]? with
 |some i=>ji is f i l
 |none=>l
theorem qe {is:List Ins} {j:Nat} {y:Ins} (h:is[j]?=some y) (f:Nat) (l:List XIt):ji is (f+1) j l=iN (bp y) (jk is f j) l:=by
 rw[ji,h]
 rfl
theorem oM (x:XIt):1≤(fj x).length∧(fj x).length≤2:=by
 unfold fj
 split<;>simp
theorem tN {x y:XIt} (h1:x.op=y.op) (h2:x.cls=y.cls) (h3:x.num=y.num):fj x=fj y:=by
 unfold fj;rw[h1,h2,h3]
theorem wn {x y:XIt} (h1:x.op=y.op) (h2:x.cls=y.cls) (h3:x.num=y.num) (p:Nat→List XIt→List XIt) (l:List XIt):iN x p l=iN y p l:=by
 unfold iN;rw[h1,tN h1 h2 h3]
theorem kO {x:XIt} {p:Nat→List XIt→List XIt} {a b c:Nat} (l:List XIt) (h0: ∀l,l.length≤(p 0 l).length∧(p 0 l).length≤l.length+a) (h1: ∀l,l.length≤(p 1 l).length∧(p 1 l).length≤l.length+b) (h2: ∀l,l.length≤(p 2 l).length∧(p 2 l).length≤l.length+c):
  l.length≤(iN x p l).length∧(iN x p l).length≤l.length+a+b+(if x.op.toNat=105 then c else 0)+4:=by
 have hl:=oM x;have a0:=h0 l;have a1:=h1 (p 0 l);have a2:=h1 (p 0 l++ [dL 100]);have a3:=h1 (p 0 l++ [dL 102]);have a4:=h2 (aimX (p 0 l).length (p 1 (p 0 l++ [dL 102])++ [dL 106]));simp only[dW,List.length_append,List.length_singleton]at a2 a3 a4;unfold iN
 split
 ·split<;>omega
 split
 ·unfold iC;rw[dW];omega
 split
 ·unfold lL;simp only[dW,List.length_append,List.length_singleton];omega
 ·rw[List.length_append];omega
theorem zP (y:Ins):(bp y).op.toNat=105→aw y.op=3:=by
 intro h;rw[←pV];unfold aw;rw[if_pos h]
theorem ny {is:List Ins} {f j:Nat} (IH: ∀i l,l.length≤(ji is f i l).length∧(ji is f i l).length≤l.length+4*(bg is i-i)) {k i:Nat} (hi: ∀e,(dg is j)[k]?=some e→e=i) (l:List XIt):
  l.length≤(jk is f j k l).length∧(jk is f j k l).length≤l.length+4*(bg is i-i):=by
 unfold jk
 cases h:(dg is j)[k]? with
 |none=>exact⟨Nat.le_refl _,by dsimp only;omega⟩
 |some e=>
  cases hi e h
  exact IH _ l
theorem qf {is:List Ins} {f j k n:Nat} (h:(dg is j).length≤n) (hk:n≤k) (l:List XIt):jk is f j k l=l:=by
 unfold jk;rw[List.getElem?_eq_none (by omega)]
theorem ll (t:List Ins): ∀(n k:Nat),(cd t n k).length≤n
 |0,_=>Nat.le_refl _
 |n+1,k=>by
  unfold cd;have:=ll t n (bg t k)
  split
  ·simp;omega
  ·simp
theorem zQ (t:List Ins) (n k i:Nat):((cd t n k)[0]?=some i→i=k)∧((cd t n k)[1]?=some i→i=bg t k)∧((cd t n k)[2]?=some i→i=bg t (bg t k)):=by
 have h0: ∀n k,(cd t n k)[0]?=some i→i=k:=fun n k h=>by
  cases n with
  |zero=>simp[cd]at h
  |succ n=>
   unfold cd at h
   split at h
   ·simp at h;exact h.symm
   ·simp at h
 have h1: ∀n k,(cd t n k)[1]?=some i→i=bg t k:=fun n k h=>by
  cases n with
  |zero=>simp[cd]at h
  |succ n=>
   unfold cd at h
   split at h
   ·rw[List.getElem?_cons_succ]at h;exact h0 _ _ h
   ·simp at h
 refine⟨h0 n k,h1 n k,fun h=> ?_⟩
 cases n with
 |zero=>simp[cd]at h
 |succ n=>
  unfold cd at h
  split at h
  ·rw[List.getElem?_cons_succ]at h;exact h1 _ _ h
  ·simp at h
theorem md (t:List Ins) (k:Nat):k≤bg t k:=by
 unfold bg;omega
theorem nz (is:List Ins): ∀(f i:Nat) (l:List XIt),l.length≤(ji is f i l).length∧(ji is f i l).length≤l.length+4*(bg is i-i)
 |0,i,l=>⟨Nat.le_refl _,by rw[ji];omega⟩
 |f+1,j,l=>by
  have IH:=nz is f
  cases hy:is[j]? with
  |none=>rw[ji,hy];exact⟨Nat.le_refl _,by dsimp only;omega⟩
  |some y=>
   rw[qe hy]
   have hp:dg is j=cd is (aw y.op) (j+1):=by
    unfold dg;rw[hy]
   have q:=fun e=>zQ is (aw y.op) (j+1) e
   rw[←hp]at q;have hn:=ll is (aw y.op) (j+1);rw[←hp]at hn;have b0:=fun l=>ny IH (j:=j) (fun e he=>(q e).1 he) l
   have b1:=fun l=>ny IH (j:=j) (fun e he=>(q e).2.1 he) l
   have b2:=fun l=>ny IH (j:=j) (fun e he=>(q e).2.2 he) l
   have e0:=md is (j+1);have e1:=md is (bg is (j+1));have e2:=md is (bg is (bg is (j+1)));have hE:=jw hy
   have h3:aw y.op≤3:=by
    unfold aw
    repeat' split
    all_goals omega
   have hz: ∀p,p+sk 0 (is.drop p)=p:=fun p=>by simp[sk]
   have s1:j+1+sk 1 (is.drop (j+1))=bg is (j+1):=rfl;have s2:j+1+sk 2 (is.drop (j+1))=bg is (j+1)+sk 1 (is.drop (bg is (j+1))):=kF;have s3:j+1+sk 3 (is.drop (j+1))=bg is (j+1)+sk 2 (is.drop (bg is (j+1))):=kF;have s4:bg is (j+1)+sk 2 (is.drop (bg is (j+1)))=bg is (bg is (j+1))+sk 1 (is.drop (bg is (bg is (j+1)))):=kF;have s5:bg is (j+1)+sk 1 (is.drop (bg is (j+1)))=bg is (bg is (j+1)):=rfl;have s6:bg is (bg is (j+1))+sk 1 (is.drop (bg is (bg is (j+1))))=bg is (bg is (bg is (j+1))):=rfl;have a0:=zP y;have hA:aw y.op=0∨aw y.op=1∨aw y.op=2∨aw y.op=3:=by omega
   rcases hA with hA|hA|hA|hA
   ·have c0: ∀l:List XIt,l.length≤(jk is f j 0 l).length∧(jk is f j 0 l).length≤l.length+0:=fun l=>by rw[qf hn (by omega)];omega
    have c1: ∀l:List XIt,l.length≤(jk is f j 1 l).length∧(jk is f j 1 l).length≤l.length+0:=fun l=>by rw[qf hn (by omega)];omega
    have hL:=kO (x:=bp y) l c0 c1 b2;rw[hA,hz]at hE
    split at hL<;>omega
   ·have c1: ∀l:List XIt,l.length≤(jk is f j 1 l).length∧(jk is f j 1 l).length≤l.length+0:=fun l=>by rw[qf hn (by omega)];omega
    have hL:=kO (x:=bp y) l b0 c1 b2;rw[hA]at hE
    split at hL<;>omega
   ·have hL:=kO (x:=bp y) l b0 b1 b2;rw[hA]at hE
    split at hL<;>omega
   ·have hL:=kO (x:=bp y) l b0 b1 b2;rw[hA]at hE
    split at hL<;>omega
theorem oN (is:List Ins) (f j k:Nat) (l:List XIt):l.length≤(jk is f j k l).length:=by
 unfold jk
 split
 ·exact(nz is f _ l).1
 ·exact Nat.le_refl _
section
variable {w0 w w':World} {cb:Nat} {X:ba} {vl vi v:Value} {l:List XIt}
theorem ws (h:CmS w0 w cb X vl vi v l) (its:List XIt) (j:Nat) (x:XIt) (hI:ItB w0 0 vi its) (hx:its[j]?=some x) (hn:its.length≤1000) (p:Nat→List XIt→List XIt) (hp: ∀k l,l.length≤(p k l).length) (hb:(iN x p l).length≤3000)
  (HP: ∀k,k≤2→ ∀Y v l,CmS w0 Y cb X vl vi v l→(p k l).length≤3000→Calls Tryz.prog 210 #[.pointer (some ⟨cb,0,none⟩),cI x,.int .i64 k] Y (CmR w0 Y cb X vl vi v (p k l))):
  Calls Tryz.prog 159 #[.pointer (some ⟨cb,0,none⟩),.int .i64 j] w (CmR w0 w cb X vl vi v (iN x p l)):=by
 obtain⟨LN,a8⟩: ∃LN,iN x p l=LN:=⟨_,rfl⟩;rw[a8]at hb⊢;have a5:=hid a8;clear a8;have c0:=ce0 h.blk;have c1:=ce1 h.blk;have c2:=ce2 h.blk;have c3:=ce3 h.blk;have c4:=ce4 h.blk;have b4:=ae h.blk;have b0:=hid (m9 X.cls X.meth X.ans vl vi its j x w (ah hI h.old (fun _ _ h=>h)) hx hn);have a0:=hid HP;have a1:=hid (fun Y (hY:CmS w0 Y cb X vl vi v l) hb=>tM hY x p hp hb HP);have a2:=hid (fun Y (hY:CmS w0 Y cb X vl vi v l) hb=>wm hY x p hp hb HP);have a4:=hid (fun Y v l (hY:CmS w0 Y cb X vl vi v l) hb=>hY.last hb x);have a3:=hid hp;have HH:=hid h;unfold cI at a0 a1 a2 a4;clear h HP hI hx hn hp
 go_in
 go_wp2_with fail;refine b0.out.mono ?_;rintro en w1 ⟨rfl,b2⟩;have HG:=hid (HH.out.begin b2.but x);unfold cI;clear b0 b2 c0 c1 c2 c3 c4 b4
 by_cases h44:x.op.toNat=44
 ·have b3:((x.op.toNat:Int)==44)=true:=aV 44 (by omega);have HE:=hid (show LN=p 1 (p 0 l++ [dL 100])from a5.out.symm.trans (by unfold iN;rw[if_pos h44]));rw[HE.out]at hb;have n1:=a3.out 1 (p 0 l++ [dL 100]);rw[List.length_append,List.length_singleton]at n1;clear h44 a1 a2 a4 a3;go_wp2_with fail;refine(HG.out.call (a0.out 0 (by omega) _ _ _ HG.out.s (by omega))).mono ?_;rintro en w2 ⟨rfl,v2,h2⟩;have H2:=hid h2;clear HG h2;go_wp2_with fail;refine(H2.out.lay 100 (by omega)).mono ?_;rintro en w3 ⟨rfl,v3,h3⟩;obtain⟨x0,x1,x2,x3,x4⟩:=bc h3.b.box;have b6:=h3.at';have H3:=hid h3;clear H2 h3;go_wp2_with fail
  refine(H3.out.call (a0.out 1 (by omega) _ _ _ H3.out.s (by omega))).mono ?_;rintro en w4 ⟨rfl,v4,h4⟩;rw[←HE.out]at h4;have H4:=hid h4;clear H3 h4 x0 x1 x2 x3 x4;go_wp2_with fail;go_end0;exact H4.out.fin
 have b3:((x.op.toNat:Int)==44)=false:=aM 44 (by omega)
 by_cases h105:x.op.toNat=105
 ·have a6:((x.op.toNat:Int)==105)=true:=aV 105 (by omega);have HE:=hid (show iC p l=LN from a5.out▸(by unfold iN;rw[if_neg h44,if_pos h105]));clear h44 h105 a2 a4 a3 a0;rw[HE.out]at a1;go_wp2_with fail;refine(HG.out.call (a1.out _ HG.out.s hb)).mono ?_;rintro en w2 ⟨rfl,v2,h2⟩;have H2:=hid h2;clear HG h2 a1;go_wp2_with fail;go_end0;exact H2.out.fin
 have a6:((x.op.toNat:Int)==105)=false:=aM 105 (by omega)
 by_cases h111:x.op.toNat=111
 ·have a7:((x.op.toNat:Int)==111)=true:=aV 111 (by omega);have HE:=hid (show lL p l=LN from a5.out▸(by unfold iN;rw[if_neg h44,if_neg h105,if_pos h111]));clear h44 h105 h111 a1 a4 a3 a0;rw[HE.out]at a2;go_wp2_with fail;refine(HG.out.call (a2.out _ HG.out.s hb)).mono ?_;rintro en w2 ⟨rfl,v2,h2⟩;have H2:=hid h2;clear HG h2 a2;go_wp2_with fail;go_end0;exact H2.out.fin
 have a7:((x.op.toNat:Int)==111)=false:=aM 111 (by omega);have n0:=a3.out 0 l;have n1:=a3.out 1 (p 0 l);have c7:=oM x;have b1:=hid (show p 1 (p 0 l)++fj x=LN from a5.out▸(by unfold iN;rw[if_neg h44,if_neg h105,if_neg h111]));rw[←b1.out,List.length_append]at hb;clear h44 h105 h111 a1 a2 a3;go_wp2_with fail;refine(HG.out.call (a0.out 0 (by omega) _ _ _ HG.out.s (by omega))).mono ?_;rintro en w2 ⟨rfl,v2,h2⟩;obtain⟨x0,x1,x2,x3,x4⟩:=bc h2.b.box;have b5:=h2.at';have H2:=hid h2;clear HG h2;go_wp2_with fail;refine(H2.out.call (a0.out 1 (by omega) _ _ _ H2.out.s (by omega))).mono ?_;rintro en w3 ⟨rfl,v3,h3⟩
 clear x0 x1 x2 x3 x4 b5 H2;obtain⟨x0,x1,x2,x3,x4⟩:=bc h3.b.box;have b6:=h3.at';have H3:=hid h3;clear h3 a0;go_wp2_with fail;refine(H3.out.call (a4.out _ _ _ H3.out.s (by omega))).mono ?_;rintro en w4 ⟨rfl,v4,h4⟩;rw[b1.out]at h4;have H4:=hid h4;clear H3 h4 x0 x1 x2 x3 x4;go_wp2_with fail;go_end0;exact H4.out.fin
end
theorem uo (t:List Ins): ∀(n k e:Nat),e∈cd t n k→k≤e∧e<t.length
 |0,k,e,h=>by simp[cd]at h
 |n+1,k,e,h=>by
  unfold cd at h;have h1:=md t k
  split at h
  ·rcases List.mem_cons.1 h with rfl|h
   ·exact⟨Nat.le_refl _,by assumption⟩
   ·have:=uo t n _ e h;omega
  ·simp at h
theorem zR {t:List Ins} {j k e:Nat} (h:(dg t j)[k]?=some e):j<e∧e<t.length:=by
 unfold dg at h
 split at h
 ·have:=uo t _ _ e (List.mem_of_getElem? h);omega
 ·simp at h
theorem wu (t:List Ins) (j:Nat):(dg t j).length≤3:=by
 unfold dg
 split
 ·rename_i y _
  have:=ll t (aw y.op) (j+1)
  have h3:aw y.op≤3:=by
   unfold aw
   repeat' split
   all_goals omega
  omega
 ·simp
def dn (l:List XIt):Prop:= ∀x∈l,x.num≤3000
theorem dn.app {l l':List XIt} (h:dn l) (h':dn l'):dn (l++l'):=fun x hx=>(List.mem_append.1 hx).elim (h x) (h' x)
theorem dn.one {x:XIt} (h:x.num≤3000):dn [x]:=fun y hy=>by rw[List.mem_singleton.1 hy];exact h
theorem dn.aim {l:List XIt} (h:dn l) (j:Nat) (hl:l.length≤3000):dn (aimX j l):=by
 unfold aimX
 split
 ·intro x hx;rcases List.mem_or_eq_of_mem_set hx with h1|h1
  ·exact h x h1
  ·rw[h1];exact hl
 ·exact h
theorem dn.last {x:XIt} (h:x.num≤3000):dn (fj x):=by
 unfold fj;intro y hy;rcases List.mem_cons.1 hy with rfl|hy
 ·exact h
 ·split at hy
  ·exact dn.one (by show(0:Nat)≤3000;omega) y hy
  ·simp at hy
theorem tO {x:XIt} {p:Nat→List XIt→List XIt} {l:List XIt} (hx:x.num≤3000) (hm: ∀k l,l.length≤(p k l).length) (hp: ∀k l,dn l→(p k l).length≤3000→dn (p k l)) (hb:(iN x p l).length≤3000) (hl:dn l):dn (iN x p l):=by
 have lay: ∀c,dn [dL c]:=fun c=>dn.one (by show(0:Nat)≤3000;omega)
 have a0:=hm 0 l;have a1:=hm 1 (p 0 l);have a2:=hm 1 (p 0 l++ [dL 100]);have a3:=hm 1 (p 0 l++ [dL 102]);have a4:=hm 2 (aimX (p 0 l).length (p 1 (p 0 l++ [dL 102])++ [dL 106]));simp only[dW,List.length_append,List.length_singleton]at a2 a3 a4;unfold iN at hb⊢
 by_cases h44:x.op.toNat=44
 ·rw[if_pos h44]at hb⊢;exact hp 1 _ ((hp 0 l hl (by omega)).app (lay _)) hb
 rw[if_neg h44]at hb⊢
 by_cases h105:x.op.toNat=105
 ·rw[if_pos h105]at hb⊢;unfold iC at hb⊢;rw[dW]at hb;exact(hp 2 _ (((hp 1 _ ((hp 0 l hl (by omega)).app (lay _)) (by omega)).app (lay _)).aim _ (by simp only[List.length_append,List.length_singleton];omega)) hb).aim _ hb
 rw[if_neg h105]at hb⊢
 by_cases h111:x.op.toNat=111
 ·rw[if_pos h111]at hb⊢;unfold lL at hb⊢;simp only[dW,List.length_append,List.length_singleton]at hb;have c1:dn (p 1 (p 0 l++ [dL 102])):=hp 1 _ ((hp 0 l hl (by omega)).app (lay _)) (by omega);have c2:dn [(⟨0,106,45,l.length,none,0,0⟩:XIt)]:=dn.one (by show l.length≤3000;omega);exact(((c1.app (lay _)).app c2).aim _ (by simp only[List.length_append,List.length_singleton];omega)).app (lay _)
 ·rw[if_neg h111]at hb⊢;rw[List.length_append]at hb;exact(hp 1 _ (hp 0 l hl (by omega)) (by omega)).app (dn.last hx)
theorem nA {is:List Ins} (hs: ∀y∈is,(bp y).num≤3000): ∀(f j:Nat) (l:List XIt),dn l→(ji is f j l).length≤3000→dn (ji is f j l)
 |0,j,l,hl,_=>hl
 |f+1,j,l,hl,hb=>by
  cases hy:is[j]? with
  |none=>rw[ji,hy];exact hl
  |some y=>
   rw[qe hy]at hb⊢;refine tO (hs y (List.mem_of_getElem? hy)) (oN is f j) (fun k l hl hb=> ?_) hb hl;unfold jk at hb⊢
   split at hb
   ·exact nA hs f _ l hl hb
   ·exact hl
section
variable {w0 w w':World} {cb:Nat} {X:ba} {vl vi v:Value} {l:List XIt}
theorem sm {is:List Ins} (hI:ItB w0 0 vi X.items) (hN:jz w0 0 X.items is) (hn:is.length≤24): ∀(f j:Nat),j<is.length→is.length≤j+f→ ∀(w:World) (v:Value) (l:List XIt),CmS w0 w cb X vl vi v l→(ji is f j l).length≤3000→
  Calls Tryz.prog 159 #[.pointer (some ⟨cb,0,none⟩),.int .i64 j] w (CmR w0 w cb X vl vi v (ji is f j l))
 |0,j,hj,hf,_,_,_,_,_=>by omega
 |f+1,j,hj,hf,w,v,l,h,hb=>by
  have hy:=List.getElem?_eq_getElem hj;have a2:=hN.len;have hx:=List.getElem?_eq_getElem (show j<X.items.length by omega);generalize is[j]=y at hy;generalize X.items[j]=x at hx;obtain⟨_,g1,g2,g3,a0⟩:=hN.at' j y x hy hx;rw[qe hy,←wn g1 g2 g3]at hb⊢;refine ws h X.items j x hI hx (by omega) (jk is f j) (oN is f j) hb ?_;intro k hk Y v' l' hS a1;obtain⟨a',c',a3⟩:=aq a0;injection a3 with e1 e2 e3;unfold jk at a1⊢
  cases hi:(dg is j)[k]? with
  |none=>
   rw[hi]at a1;exact tL hS x k (by rw[e2];exact List.getElem?_eq_none_iff.1 hi) (by omega)
  |some i=>
   rw[hi]at a1;obtain⟨i1,i2⟩:=zR hi;exact yD hS x k i (by omega) (dg is j) hi a0 (wu is j) _ (fun Z hZ=>sm hI hN hn f i i2 (by omega) Z v' l' hZ a1)
theorem qg {is:List Ins} (hI:ItB w 0 vi X.items) (hN:jz w 0 X.items is) (hn:is.length≤24) (h0:0<is.length) (hs: ∀y∈is,(bp y).num≤3000):
  Calls Tryz.prog 95 #[.agg #[.int .u8 X.cls.toNat,.int .i64 X.meth,.int .u8 X.ans.toNat,vl,vi]] w fun en w'=>But (fun _=>False) w w'∧ ∃v' l,en= .returned v'∧ItB w' 0 v' l∧l.length≤200∧dn l:=by
 have hL:=(nz is 24 0 []).2;have hE:=pT (t:=is) (k:=0) (by omega);have a6:=nA hs 24 0 [] (fun x hx=>by simp at hx) (by simp at hL;omega);have a1:(ji is 24 0 []).length≤96:=by simp at hL;omega
 obtain⟨W,hW⟩: ∃W,(w.alloc (.cells #[.int .u8 X.cls.toNat,.int .i64 X.meth,.int .u8 X.ans.toNat,vl,vi] 115)).alloc (.cells #[.int .u8 X.cls.toNat,.int .i64 X.meth,.int .u8 X.ans.toNat,vl,vi,.slice none 0 0] 246)=W:=⟨_,rfl⟩;have hB:But (fun _=>False) w W:=hW▸(But.alloc _ _ _).trans (But.alloc _ _ _);have hC:CmB W (w.heap.size+1) (.int .u8 X.cls.toNat) (.int .i64 X.meth) (.int .u8 X.ans.toNat) vl vi (.slice none 0 0):=hW▸CB (by simp) _;have hS:CmS w W (w.heap.size+1) X vl vi (.slice none 0 0) []:=⟨hB,hC,⟨rfl,Or.inl ⟨rfl,rfl⟩⟩,by omega⟩;have HC:=hid (sm hI hN hn 24 0 h0 (by omega) W _ _ hS (by omega))
 obtain⟨L,a4⟩: ∃L,ji is 24 0 []=L:=⟨_,rfl⟩;rw[a4]at HC a6 a1;have HW:=hid hW;clear hL hE a4 hS hC hB hI hN hs hW
 go_in
 go_wp2_with fail;rw[HW.out];refine HC.out.mono ?_;rintro en w1 ⟨rfl,a7,v1,a5,b0⟩;have a2:=hid (a5.lay (by omega) 116);clear HC a7 b0 a5 HW;go_wp2_with fail;refine a2.out.mono ?_;rintro en w2 ⟨rfl,a8,v2,a0,b1⟩;have c5:=ce5 a0.blk;have b2:=ae a0.blk;have a3:=hid a0;clear a2 a8 b1 a0;go_wp2_with fail;exact cB (v2) Tryz.results95 rfl rfl ⟨a3.out.old,v2,_,rfl,World.ownsRow.mono a3.out.its (Nat.zero_le _),by simp;omega,a6.app (dn.one (by show(0:Nat)≤3000;omega))⟩
end
theorem g8 {W w:World} {g:Nat} (c:UInt8) (hg:W.heap.size=g) (hb:But (fun _=>False) (W.alloc (.cells #[.int .u8 c.toNat] 5)) w):(convert 112 9 (.slice (some ⟨g,0,none⟩) 1 1)).run Tryz.prog w= .ok (.string ⟨#[c]⟩) w:=
 fa ((iw W _ c rfl g hg).but hb (fun _ _ h=>h))
theorem nV (X:ba) (vl vi:Value) (w:World) (hO:BtB w 0 vl X.locals) (hl:X.locals.length≤1000) (hm:X.meth≤3000) (ht:eP w):
  Calls Tryz.prog 161 #[.agg #[.int .u8 X.cls.toNat,.int .i64 X.meth,.int .u8 X.ans.toNat,vl,vi]] w (yB w 3000):=by
 have HT:=hid ht;obtain⟨cls,meth,ans,locals,items⟩:=X;dsimp only at hO hl hm;have HF:=hid (fun f hf w1 (hB:But (fun _=>False) w w1)=>jL vl locals f w1 (hO.but hB (fun _ _ h=>h)) hl hf);have hX:(w.alloc (.cells #[.int .u8 cls.toNat,.int .i64 meth,.int .u8 ans.toNat,vl,vi] 115)).heap[w.heap.size]?=some (.cells #[.int .u8 cls.toNat,.int .i64 meth,.int .u8 ans.toNat,vl,vi] 115):=heap_alloc_new w _;have HX:=hid hX;have HB:Hid (But (fun _=>False) w (w.alloc (.cells #[.int .u8 cls.toNat,.int .i64 meth,.int .u8 ans.toNat,vl,vi] 115))):=hid (But.alloc _ _ _);clear ht hO hX
 go_in
 by_cases h45:cls.toNat=45
 ·have b0:((cls.toNat:Int)==45)=true:=aV 45 (by omega);clear h45;go_wp2_with fail;refine(HF.out 0 (by omega) _ HB.out).mono ?_;rintro en w1 ⟨S,rfl,z,a4⟩;have a3:=hid (HB.out.trans a4);clear a4 HX HB HF;have hz:(⟨#[59]⟩:ByteArray).size+S.size≤200000:=by show 1+S.size≤200000;omega
  go_wp2_with fail;exact nt Tryz.results161 rfl rfl ⟨_,rfl,by simp only[bY];show 1+S.size≤3000;omega,a3.out⟩
 ·have b0:((cls.toNat:Int)==45)=false:=aM 45 (by omega);clear h45;go_wp2_with fail;refine(HF.out 2 (by omega) _ HB.out).mono ?_;rintro en w1 ⟨S0,rfl,z0,a4⟩;have a7:=a4.kp HX.out;have a3:=hid (HB.out.trans a4);clear a4 HX HB HF;have y0:=ce0 a7;have y1:=ce1 a7;have a8:=ae a7;clear a7;go_wp2_with fail;have a1:But (fun _=>False) w1 w1.drew:=But.drew _ _;refine ck (But (fun _=>False) w1) 10 (by kernel_rfl) ?_;have fSA:=hid (fun wS (h:(But (fun _=>False) w1) wS)=>(And.intro (h.kc y0 a8) (h.kc y1 a8)));refine ay (k:=0) (v:= ?vA0) rfl (by decide) (by kernel_rfl) (fun _ _ _ h=>h) rfl a1 ?yA0 ?rA0
  case yA0=>intro wS h;obtain⟨q0,q1⟩:=fSA.out wS h;clear h;go_simp;try rfl
  dsimp only[Act.put]
  try simp only[aK]
  refine ay (k:=1) (v:= ?vA1) rfl (by decide) (by kernel_rfl) (fun _ _ _ h=>h) rfl a1 ?yA1 ?rA1
  case yA1=>intro wS h;obtain⟨q0,q1⟩:=fSA.out wS h;clear h;go_simp;try rfl
  dsimp only[Act.put]
  try simp only[aK]
  refine ay (k:=4) (v:= ?vA4) rfl (by decide) (by kernel_rfl) (fun _ _ _ h=>h) rfl a1 ?yA4 ?rA4
  case yA4=>intro wS h;obtain⟨q0,q1⟩:=fSA.out wS h;clear h;go_simp;try rfl
  dsimp only[Act.put]
  try simp only[aK]
  refine ay (k:=5) (v:= ?vA5) rfl (by decide) (by kernel_rfl) (fun _ _ _ h=>h) rfl a1 ?yA5 ?rA5
  case yA5=>intro wS h;obtain⟨q0,q1⟩:=fSA.out wS h;clear h;go_simp;try rfl
  dsimp only[Act.put]
  try simp only[aK]
  refine ay (k:=8) (v:= ?vA8) rfl (by decide) (by kernel_rfl) (fun _ _ _ h=>h) rfl a1 ?yA8 ?rA8
  case yA8=>intro wS h;obtain⟨q0,q1⟩:=fSA.out wS h;clear h;go_simp;try rfl
  dsimp only[Act.put]
  try simp only[aK]
  try clear fSA
  revert a1;generalize w1.drew=w2;intro a1;refine ie (k1:=2) (o1:= ?oA2) (k2:=6) (o2:= ?oA6) ?hoA2 ?hoA6 ?hlA2_6 ?hrA2_6 ?stA2 ?stA6
  case hoA2=>rfl
  case hoA6=>rfl
  case hlA2_6=>decide
  case hrA2_6=>kernel_rfl
  case' stA2=>
   intro KS hKS;go_simp;have hA:But (fun _=>False) w2 (w2.alloc (.cells #[.int .u8 cls.toNat] 5)):=But.alloc _ _ _;have a2:=a1.trans hA;refine hKS.out _ _ (fun _=>a2) ?_;clear hKS KS;refine ie (k1:=3) (o1:= ?oB3) (k2:=6) (o2:= ?oB6) ?hoB3 ?hoB6 ?hlB3_6 ?hrB3_6 ?stB3 ?stB6
   case hoB3=>rfl
   case hoB6=>rfl
   case hlB3_6=>decide
   case hrB3_6=>kernel_rfl
   case' stB3=>
    intro KS hKS;have a6:=g8 cls rfl (But.refl _ (w2.alloc (.cells #[.int .u8 cls.toNat] 5)));go_simp;refine hKS.out _ _ (fun _=>a2) ?_;clear hKS KS;refine aA (k:=6) rfl (by decide) (by kernel_rfl) ?_;intro KS hKS;go_simp;refine(fc meth (by omega) _ (HT.out.but (a3.out.trans a2))).mono ?_;rintro en w3 ⟨S3,rfl,z3,a5⟩;have a0:=a2.trans a5;refine hKS.out _ _ (fun _=>a0) ?_;clear hKS KS a6;have z1:(⟨#[cls]⟩:ByteArray).size+S3.size≤200000:=by show 1+S3.size≤200000;omega
    refine aA (k:=7) rfl (by decide) (by kernel_rfl) ?_;intro KS hKS;go_simp;rw[if_neg (by show¬_<1+S3.size;omega)];refine hKS.out _ _ (fun _=>a0) ?_;clear hKS KS;refine aA (k:=9) rfl (by decide) (by kernel_rfl) ?_;intro KS hKS;go_simp;rw[if_neg (by show¬_<1+S3.size+S0.size;omega)];refine hKS.out _ _ (fun _=>a0) ?_;clear hKS KS;refine aA (k:=10) rfl (by decide) (by kernel_rfl) ?_;intro KS hKS;go_simp;refine hKS.out _ _ nofun ?_;clear hKS KS;refine b7 rfl (by kernel_rfl) ?_;go_wp2_with fail;exact nt Tryz.results161 rfl rfl ⟨_,rfl,by simp only[bY];show 1+S3.size+S0.size≤3000;omega,a3.out.trans a0⟩
   case' stB6=>
    intro KS hKS;go_simp;refine(fc meth (by omega) _ (HT.out.but (a3.out.trans a2))).mono ?_;rintro en w3 ⟨S3,rfl,z3,a5⟩;have a0:=a2.trans a5;refine hKS.out _ _ (fun _=>a0) ?_;clear hKS KS;have a6:=g8 cls rfl a5;refine aA (k:=3) rfl (by decide) (by kernel_rfl) ?_;intro KS hKS;go_simp;refine hKS.out _ _ (fun _=>a0) ?_;clear hKS KS a6;have z1:(⟨#[cls]⟩:ByteArray).size+S3.size≤200000:=by show 1+S3.size≤200000;omega
    refine aA (k:=7) rfl (by decide) (by kernel_rfl) ?_;intro KS hKS;go_simp;rw[if_neg (by show¬_<1+S3.size;omega)];refine hKS.out _ _ (fun _=>a0) ?_;clear hKS KS;refine aA (k:=9) rfl (by decide) (by kernel_rfl) ?_;intro KS hKS;go_simp;rw[if_neg (by show¬_<1+S3.size+S0.size;omega)];refine hKS.out _ _ (fun _=>a0) ?_;clear hKS KS;refine aA (k:=10) rfl (by decide) (by kernel_rfl) ?_;intro KS hKS;go_simp;refine hKS.out _ _ nofun ?_;clear hKS KS;refine b7 rfl (by kernel_rfl) ?_;go_wp2_with fail;exact nt Tryz.results161 rfl rfl ⟨_,rfl,by simp only[bY];show 1+S3.size+S0.size≤3000;omega,a3.out.trans a0⟩
  case' stA6=>
   intro KS hKS;go_simp;refine(fc meth (by omega) _ (HT.out.but (a3.out.trans a1))).mono ?_;rintro en w3 ⟨S3,rfl,z3,a5⟩;have a2:=a1.trans a5;refine hKS.out _ _ (fun _=>a2) ?_;clear hKS KS;refine aA (k:=2) rfl (by decide) (by kernel_rfl) ?_;intro KS hKS;go_simp;have hA:But (fun _=>False) w3 (w3.alloc (.cells #[.int .u8 cls.toNat] 5)):=But.alloc _ _ _;have a0:=a2.trans hA;refine hKS.out _ _ (fun _=>a0) ?_;clear hKS KS;have a6:=g8 cls rfl (But.refl _ (w3.alloc (.cells #[.int .u8 cls.toNat] 5)));refine aA (k:=3) rfl (by decide) (by kernel_rfl) ?_;intro KS hKS;go_simp;refine hKS.out _ _ (fun _=>a0) ?_
   clear hKS KS a6;have z1:(⟨#[cls]⟩:ByteArray).size+S3.size≤200000:=by show 1+S3.size≤200000;omega
   refine aA (k:=7) rfl (by decide) (by kernel_rfl) ?_;intro KS hKS;go_simp;rw[if_neg (by show¬_<1+S3.size;omega)];refine hKS.out _ _ (fun _=>a0) ?_;clear hKS KS;refine aA (k:=9) rfl (by decide) (by kernel_rfl) ?_;intro KS hKS;go_simp;rw[if_neg (by show¬_<1+S3.size+S0.size;omega)];refine hKS.out _ _ (fun _=>a0) ?_;clear hKS KS;refine aA (k:=10) rfl (by decide) (by kernel_rfl) ?_;intro KS hKS;go_simp;refine hKS.out _ _ nofun ?_;clear hKS KS;refine b7 rfl (by kernel_rfl) ?_;go_wp2_with fail;exact nt Tryz.results161 rfl rfl ⟨_,rfl,by simp only[bY];show 1+S3.size+S0.size≤3000;omega,a3.out.trans a0⟩
theorem nW (X:ba) (vl vi v:Value) (l:List XIt) (w:World) (hO:BtB w 0 vl X.locals) (hlo:X.locals.length≤1000) (hm:X.meth≤3000) (hI:ItB w 0 v l) (hl:l.length≤200) (hs:dn l) (ht:eP w):
  Calls Tryz.prog 96 #[.agg #[.int .u8 X.cls.toNat,.int .i64 X.meth,.int .u8 X.ans.toNat,vl,vi],v] w (yB w 30000):=by
 have HB:Hid (But (fun _=>False) w (w.alloc (.cells #[.int .u8 X.cls.toNat,.int .i64 X.meth,.int .u8 X.ans.toNat,vl,vi] 115))):=hid (But.alloc _ _ _);have HH:=hid (nV X vl vi _ (hO.but HB.out (fun _ _ h=>h)) hlo hm (ht.but HB.out));have HW:=hid (fun x hx w1 (hB:But (fun _=>False) w w1)=>nw x w1 (ht.but hB) (hs x hx));unfold ItB at hI;obtain⟨av,cv,rfl⟩:=aq hI;have HI:=hid hI;clear ht hs hI hO
 go_in
 go_wp2_with fail;refine HH.out.mono ?_;rintro en w1 ⟨S,rfl,z,a4⟩;have hB:=HB.out.trans a4;have hz:S.size+(⟨#[58]⟩:ByteArray).size≤200000:=by show S.size+1≤200000;omega
 clear HH HB a4;go_wp2_with fail
 go_loopg [5,6] l.length (fun mm os ks wr=> ∃(k:Nat) (S:ByteArray),os= .string S∧S.size≤3001+100*k∧ks= .int .i64 k∧k≤l.length∧k+mm≤l.length∧l.length≤k+mm∧But (fun _=>False) w wr)
 case atStart=>exact⟨0,_,rfl,by simp only[bY];show S.size+1≤3001+0;omega,rfl,by omega,by omega,by omega,hB⟩
 case round=>
  obtain⟨k,S',rfl,b4,rfl,b2,a6,b3,a2⟩:=hrel;clear a6 hB hz z
  by_cases hlt:k<l.length
  ·have a7:(k:Int)<(l.length:Int):=by omega
   obtain⟨x,hx⟩: ∃x,l[k]=x:=⟨_,rfl⟩;have a1:=List.getElem?_eq_getElem hlt;rw[hx]at a1;obtain⟨g,e1,b0,b1,a0⟩:=aD (ah HI.out a2 (fun _ _ h=>h)) (by omega)
   cases e1
   have q0:wr.cell? ⟨g,k*5,none⟩=some _:=a0 _ _ (aL (k:=0) a1 (by omega));have q1:wr.cell? ⟨g,k*5+1,none⟩=some _:=a0 _ _ (aL (k:=1) a1 (by omega));have q2:wr.cell? ⟨g,k*5+2,none⟩=some _:=a0 _ _ (aL (k:=2) a1 (by omega));have q3:wr.cell? ⟨g,k*5+3,none⟩=some _:=a0 _ _ (aL (k:=3) a1 (by omega));have q4:wr.cell? ⟨g,k*5+4,none⟩=some _:=a0 _ _ (aL (k:=4) a1 (by omega));have HC:=hid (HW.out x (List.mem_of_getElem? a1) wr a2);unfold cI at HC;clear a0 hx a1;go_wp2_with fail;refine HC.out.mono ?_;rintro en w2 ⟨S2,rfl,z2,a5⟩;have a8:S'.size+S2.size≤200000:=by omega
   have a3:=a2.trans a5;clear HC a5 q0 q1 q2 q3 q4;go_wp2_with fail
   go_roundg (l.length-(k+1))
   case measure=>omega
   case rel=>exact⟨k+1,_,rfl,by simp only[bY];omega,by simp,by omega,by omega,by omega,a3⟩
  ·have a7: ¬(k:Int)<(l.length:Int):=by omega
   have a8:S'.size+(⟨#[46]⟩:ByteArray).size≤200000:=by show S'.size+1≤200000;omega
   go_wp2_with fail;exact nt Tryz.results96 rfl rfl ⟨_,rfl,by simp only[bY];show S'.size+1≤30000;omega,a2⟩
def Bi (w:World) (n:Nat) (en:Ending) (w':World):Prop:= ∃s:ByteArray,en= .returned (.string s)∧0<s.size∧s.size≤n∧But (fun _=>False) w w'
theorem qh (b:Nat) (cs:List bz) (ms:List Sig) (w:World) (hC:TxC w b cs) (hM:TxM w b ms) (hn:cs.length≤10) (hf: ∀x∈cs,x.fields.length≤1000) (hm:ms.length≤10):
  Calls Tryz.prog 94 #[.pointer (some ⟨b,0,none⟩)] w (Bi w 40000):=by
 have HC:=hid hC;obtain⟨v0,lc,g4,b5,e4,a7,b6⟩:=hC;obtain⟨v1,g5,_,e5⟩:=hM;obtain⟨ac,cc,rfl⟩:=aq e4;obtain⟨am,cm,rfl⟩:=aq e5;have g2:lc.length=cs.length:=by rw[←a7];simp
 have f6:=hid e4;have f7:=hid e5;have f5:=hid b6;have HF:=hid hf;have d6:=hid a7;have g3:lc.length≤10:=by omega
 clear e4 e5 b6 hf g2 a7
 go_in
 go_wp2_with fail
 go_loopg [3,4] lc.length (fun mm os ks wr=> ∃(k:Nat) (S:ByteArray),os= .string S∧S.size≤3000*k∧ks= .int .i64 k∧k≤lc.length∧k+mm≤lc.length∧lc.length≤k+mm∧But (fun _=>False) w wr)
 case atStart=>exact⟨0,_,rfl,by show 0≤_;omega,rfl,by omega,by omega,by omega,But.refl _ _⟩
 case round=>
  obtain⟨k,S',rfl,f2,rfl,f0,e6,f1,a2⟩:=hrel;clear e6;have c0:=a2.kc g4 b5;have e8:b<wr.heap.size:=Nat.lt_of_lt_of_le b5 a2.size
  by_cases hlt:k<lc.length
  ·have c7:(k:Int)<(lc.length:Int):=by omega
   obtain⟨x,hx⟩: ∃x,lc[k]=x:=⟨_,rfl⟩;have a4:=List.getElem?_eq_getElem hlt;rw[hx]at a4;obtain⟨x,vf⟩:=x;obtain⟨g,e1,g0,g1,a0⟩:=aD (ah f6.out a2 (fun _ _ h=>h)) (by omega)
   cases e1
   have q0:wr.cell? ⟨g,k*2,none⟩=some (.int .u8 x.par.toNat):=a0 _ _ (gr a4);have q1:wr.cell? ⟨g,k*2+1,none⟩=some vf:=a0 _ _ (BA a4);have a8:=List.mem_of_getElem? a4;have e3:BtB wr 0 vf x.fields:=(f5.out _ a8).but a2 (fun _ _ h=>h);have b6:x.fields.length≤1000:=HF.out x (by rw[←d6.out];exact List.mem_map_of_mem (f:=(·.1)) a8);clear a0 hx a4 a8;obtain⟨af,cf,rfl⟩:=aq e3;have e9:=heap_alloc_new wr (.cells #[.int .u8 x.par.toNat,.slice af x.fields.length cf] 240);have e2:But (fun _=>False) wr (wr.alloc (.cells #[.int .u8 x.par.toNat,.slice af x.fields.length cf] 240)):=But.alloc _ _ _;have b4:=hid (pA b cs x.par _ (by omega) ((HC.out.but a2).but e2))
   have f8:(bX cs x.par).length≤1000:=by
    unfold bX
    split
    ·cases he:cs[x.par.toNat-65]? with
     |none=>simp
     |some y=>exact HF.out y (List.mem_of_getElem? he)
    ·simp
   have e0:=hid (fun w1 (hB:But (fun _=>False) wr w1)=>jL _ x.fields (bX cs x.par).length w1 (e3.but hB (fun _ _ h=>h)) b6 f8);generalize (bX cs x.par).length=nf at*;have b2:=hid e9;have a6:=hid e2;clear e9 e2 e3;go_wp2_with fail;revert b2 a6 b4;generalize (wr.alloc (.cells #[.int .u8 x.par.toNat,.slice af x.fields.length cf] 240))=w1;intro b4 b2 a6;refine b4.out.mono ?_;rintro en b3 ⟨rfl,rfl⟩;clear b4 q0 q1 c0;have y0:=ce0 b2.out;have y1:=ce1 b2.out;have f3:=ae b2.out;go_wp2_with fail;have a3:But (fun _=>False) b3 b3.drew:=But.drew _ _;refine ck (But (fun _=>False) b3) 12 (by kernel_rfl) ?_;have fSA:=hid (fun wS (h:(But (fun _=>False) b3) wS)=>(And.intro (h.kc y0 f3) (h.kc y1 f3)))
   refine ay (k:=0) (v:= ?vA0) rfl (by decide) (by kernel_rfl) (fun _ _ _ h=>h) rfl a3 ?yA0 ?rA0
   case yA0=>intro wS h;obtain⟨q0,q1⟩:=fSA.out wS h;clear h;go_simp;try rfl
   dsimp only[Act.put]
   try simp only[aK]
   refine ay (k:=1) (v:= ?vA1) rfl (by decide) (by kernel_rfl) (fun _ _ _ h=>h) rfl a3 ?yA1 ?rA1
   case yA1=>intro wS h;obtain⟨q0,q1⟩:=fSA.out wS h;clear h;go_simp;try rfl
   dsimp only[Act.put]
   try simp only[aK]
   refine ay (k:=2) (v:= ?vA2) rfl (by decide) (by kernel_rfl) (fun _ _ _ h=>h) rfl a3 ?yA2 ?rA2
   case yA2=>intro wS h;obtain⟨q0,q1⟩:=fSA.out wS h;clear h;go_simp;try rfl
   dsimp only[Act.put]
   try simp only[aK]
   refine ay (k:=5) (v:= ?vA5) rfl (by decide) (by kernel_rfl) (fun _ _ _ h=>h) rfl a3 ?yA5 ?rA5
   case yA5=>intro wS h;obtain⟨q0,q1⟩:=fSA.out wS h;clear h;go_simp;try rfl
   dsimp only[Act.put]
   try simp only[aK]
   refine ay (k:=6) (v:= ?vA6) rfl (by decide) (by kernel_rfl) (fun _ _ _ h=>h) rfl a3 ?yA6 ?rA6
   case yA6=>intro wS h;obtain⟨q0,q1⟩:=fSA.out wS h;clear h;go_simp;try rfl
   dsimp only[Act.put]
   try simp only[aK]
   refine ay (k:=7) (v:= ?vA7) rfl (by decide) (by kernel_rfl) (fun _ _ _ h=>h) rfl a3 ?yA7 ?rA7
   case yA7=>intro wS h;obtain⟨q0,q1⟩:=fSA.out wS h;clear h;go_simp;try rfl
   dsimp only[Act.put]
   try simp only[aK]
   try clear fSA
   revert a3;generalize b3.drew=w2;intro a3;refine ie (k1:=3) (o1:= ?oA3) (k2:=8) (o2:= ?oA8) ?hoA3 ?hoA8 ?hlA3_8 ?hrA3_8 ?stA3 ?stA8
   case hoA3=>rfl
   case hoA8=>rfl
   case hlA3_8=>decide
   case hrA3_8=>kernel_rfl
   case' stA3=>
    intro KS hKS;go_simp;have hA:But (fun _=>False) w2 (w2.alloc (.cells #[.int .u8 x.par.toNat] 5)):=But.alloc _ _ _;have a5:=a3.trans hA;refine hKS.out _ _ (fun _=>a5) ?_;clear hKS KS;refine ie (k1:=4) (o1:= ?oB4) (k2:=8) (o2:= ?oB8) ?hoB4 ?hoB8 ?hlB4_8 ?hrB4_8 ?stB4 ?stB8
    case hoB4=>rfl
    case hoB8=>rfl
    case hlB4_8=>decide
    case hrB4_8=>kernel_rfl
    case' stB4=>
     intro KS hKS;have b1:=g8 x.par rfl (But.refl _ (w2.alloc (.cells #[.int .u8 x.par.toNat] 5)));go_simp;refine hKS.out _ _ (fun _=>a5) ?_;clear hKS KS;refine aA (k:=8) rfl (by decide) (by kernel_rfl) ?_;intro KS hKS;go_simp;refine(e0.out _ (a6.out.trans a5)).mono ?_;rintro en w3 ⟨S3,rfl,z3,b0⟩;have a1:=a5.trans b0;refine hKS.out _ _ (fun _=>a1) ?_;clear hKS KS b1;refine aA (k:=9) rfl (by decide) (by kernel_rfl) ?_;intro KS hKS;go_simp;rw[if_neg (by show¬_<1+S3.size;omega)];refine hKS.out _ _ (fun _=>a1) ?_;clear hKS KS;refine aA (k:=10) rfl (by decide) (by kernel_rfl) ?_;intro KS hKS;go_simp
     rw[if_neg (by show¬_<1+S3.size+1;omega)];refine hKS.out _ _ (fun _=>a1) ?_;clear hKS KS;refine aA (k:=11) rfl (by decide) (by kernel_rfl) ?_;intro KS hKS;go_simp;rw[if_neg (by show¬_<S'.size+(1+S3.size+1);omega)];refine hKS.out _ _ (fun _=>a1) ?_;clear hKS KS;refine aA (k:=12) rfl (by decide) (by kernel_rfl) ?_;intro KS hKS;go_simp;refine hKS.out _ _ nofun ?_;clear hKS KS;refine b7 rfl (by kernel_rfl) ?_;go_wp2_with fail
     go_roundg (lc.length-(k+1))
     case measure=>omega
     case rel=>exact⟨k+1,_,rfl,by simp only[bY];show S'.size+(1+S3.size+1)≤_;omega,by simp,by omega,by omega,by omega,a2.trans (a6.out.trans a1)⟩
    case' stB8=>
     intro KS hKS;go_simp;refine(e0.out _ (a6.out.trans a5)).mono ?_;rintro en w3 ⟨S3,rfl,z3,b0⟩;have a1:=a5.trans b0;refine hKS.out _ _ (fun _=>a1) ?_;clear hKS KS;have b1:=g8 x.par rfl b0;refine aA (k:=4) rfl (by decide) (by kernel_rfl) ?_;intro KS hKS;go_simp;refine hKS.out _ _ (fun _=>a1) ?_;clear hKS KS b1;refine aA (k:=9) rfl (by decide) (by kernel_rfl) ?_;intro KS hKS;go_simp;rw[if_neg (by show¬_<1+S3.size;omega)];refine hKS.out _ _ (fun _=>a1) ?_;clear hKS KS;refine aA (k:=10) rfl (by decide) (by kernel_rfl) ?_;intro KS hKS;go_simp;rw[if_neg (by show¬_<1+S3.size+1;omega)];refine hKS.out _ _ (fun _=>a1) ?_
     clear hKS KS;refine aA (k:=11) rfl (by decide) (by kernel_rfl) ?_;intro KS hKS;go_simp;rw[if_neg (by show¬_<S'.size+(1+S3.size+1);omega)];refine hKS.out _ _ (fun _=>a1) ?_;clear hKS KS;refine aA (k:=12) rfl (by decide) (by kernel_rfl) ?_;intro KS hKS;go_simp;refine hKS.out _ _ nofun ?_;clear hKS KS;refine b7 rfl (by kernel_rfl) ?_;go_wp2_with fail
     go_roundg (lc.length-(k+1))
     case measure=>omega
     case rel=>exact⟨k+1,_,rfl,by simp only[bY];show S'.size+(1+S3.size+1)≤_;omega,by simp,by omega,by omega,by omega,a2.trans (a6.out.trans a1)⟩
   case' stA8=>
    intro KS hKS;go_simp;refine(e0.out _ (a6.out.trans a3)).mono ?_;rintro en w3 ⟨S3,rfl,z3,b0⟩;have a5:=a3.trans b0;refine hKS.out _ _ (fun _=>a5) ?_;clear hKS KS;refine aA (k:=3) rfl (by decide) (by kernel_rfl) ?_;intro KS hKS;go_simp;have hA:But (fun _=>False) w3 (w3.alloc (.cells #[.int .u8 x.par.toNat] 5)):=But.alloc _ _ _;have a1:=a5.trans hA;refine hKS.out _ _ (fun _=>a1) ?_;clear hKS KS;have b1:=g8 x.par rfl (But.refl _ (w3.alloc (.cells #[.int .u8 x.par.toNat] 5)));refine aA (k:=4) rfl (by decide) (by kernel_rfl) ?_;intro KS hKS;go_simp;refine hKS.out _ _ (fun _=>a1) ?_;clear hKS KS b1
    refine aA (k:=9) rfl (by decide) (by kernel_rfl) ?_;intro KS hKS;go_simp;rw[if_neg (by show¬_<1+S3.size;omega)];refine hKS.out _ _ (fun _=>a1) ?_;clear hKS KS;refine aA (k:=10) rfl (by decide) (by kernel_rfl) ?_;intro KS hKS;go_simp;rw[if_neg (by show¬_<1+S3.size+1;omega)];refine hKS.out _ _ (fun _=>a1) ?_;clear hKS KS;refine aA (k:=11) rfl (by decide) (by kernel_rfl) ?_;intro KS hKS;go_simp;rw[if_neg (by show¬_<S'.size+(1+S3.size+1);omega)];refine hKS.out _ _ (fun _=>a1) ?_;clear hKS KS;refine aA (k:=12) rfl (by decide) (by kernel_rfl) ?_;intro KS hKS;go_simp;refine hKS.out _ _ nofun ?_;clear hKS KS
    refine b7 rfl (by kernel_rfl) ?_;go_wp2_with fail
    go_roundg (lc.length-(k+1))
    case measure=>omega
    case rel=>exact⟨k+1,_,rfl,by simp only[bY];show S'.size+(1+S3.size+1)≤_;omega,by simp,by omega,by omega,by omega,a2.trans (a6.out.trans a1)⟩
  ·have c7: ¬(k:Int)<(lc.length:Int):=by omega
   have hz:S'.size+(⟨#[59]⟩:ByteArray).size≤200000:=by show S'.size+1≤200000;omega
   have e7:=a2;go_wp2_with fail
   go_loopg [3,7] ms.length (fun mm os ks wr=> ∃(k:Nat) (S:ByteArray),os= .string S∧S.size≤30001+3*k∧ks= .int .i64 k∧k≤ms.length∧k+mm≤ms.length∧ms.length≤k+mm∧But (fun _=>False) w wr)
   case atStart=>exact⟨0,_,rfl,by simp only[bY];show S'.size+1≤_;omega,rfl,by omega,by omega,by omega,e7⟩
   case round=>
    clear e7 hz f2 c7 f0 f1 hlt c0 e8 a2;obtain⟨i,S2,rfl,f2,rfl,f0,e6,f1,a2⟩:=hrel;clear e6;have c1:=a2.kc g5 b5;have e8:b<wr.heap.size:=Nat.lt_of_lt_of_le b5 a2.size
    by_cases hlt:i<ms.length
    ·have c7:(i:Int)<(ms.length:Int):=by omega
     obtain⟨x,hx⟩: ∃x,ms[i]=x:=⟨_,rfl⟩;have a4:=List.getElem?_eq_getElem hlt;rw[hx]at a4;obtain⟨xa,xr⟩:=x;obtain⟨g,e1,g0,g1,a0⟩:=aD (ah f7.out a2 (fun _ _ h=>h)) (by omega)
     cases e1
     have q0:wr.cell? ⟨g,i*2,none⟩=some (.int .u8 xa.toNat):=a0 _ _ (ef (k:=0) a4 (by omega));have q1:wr.cell? ⟨g,i*2+1,none⟩=some (.int .u8 xr.toNat):=a0 _ _ (ef (k:=1) a4 (by omega))
     obtain⟨S3,b1,z3⟩: ∃S3:ByteArray,(∀(W:World) (g:Nat),W.heap.size=g→(convert 112 9 (.slice (some ⟨g,0,none⟩) 3 3)).run Tryz.prog (W.alloc (.cells #[.int .u8 xa.toNat,.int .u8 xr.toNat,.int .u8 46] 5))= .ok (.string S3) (W.alloc (.cells #[.int .u8 xa.toNat,.int .u8 xr.toNat,.int .u8 46] 5)))∧S3.size=3:=
      ⟨⟨#[xa,xr,46]⟩,fun W g h=>h▸fa (BtB.lit W 0 (Nat.zero_le _) [xa,xr,46] (by simp)),rfl⟩
     have HZ:=hid z3;have hz:S2.size+S3.size≤200000:=by omega
     have f4:=hid (a2.trans ((But.alloc (fun _=>False) wr (.cells #[.int .u8 xa.toNat,.int .u8 xr.toNat] 243)).trans (But.alloc _ _ (.cells #[.int .u8 xa.toNat,.int .u8 xr.toNat,.int .u8 46] 5))));clear a0 hx a4 z3;go_wp2_with fail
     go_roundg (ms.length-(i+1))
     case measure=>omega
     case rel=>exact⟨i+1,_,rfl,by rw[bY,HZ.out];omega,by simp,by omega,by omega,by omega,f4.out⟩
    ·have c7: ¬(i:Int)<(ms.length:Int):=by omega
     have hz:S2.size+(⟨#[59]⟩:ByteArray).size≤200000:=by show S2.size+1≤200000;omega
     go_wp2_with fail;exact nt Tryz.results94 rfl rfl ⟨_,rfl,by simp only[bY];show 0<S2.size+1;omega,by simp only[bY];show S2.size+1≤_;omega,a2⟩
end
end Go.Proofs.YtpfkkmacakjmbaaGreatDoor
