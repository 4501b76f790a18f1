import Derived.Test.YtpfkkmacakjmbaaGreatDoorP10
import Derived.Laws.StructEq
import Derived.Test.YtpfkkmacakjmbaaGreatDoorP01
import Derived.Laws.MakeOwn
set_option maxRecDepth 100000
set_option maxHeartbeats 6400000
set_option linter.unusedSimpArgs false
set_option linter.unusedVariables false
namespace Go.Proofs.YtpfkkmacakjmbaaGreatDoor
section
open Go Go.RowKit Sp
theorem oS (w:World) (b1 b2:Bool) (x1 y1 x2 y2:ByteArray):
  (binOp .neq 91 (.agg #[.bool b1,.string x1,.string y1]) (.agg #[.bool b2,.string x2,.string y2])).run Tryz.prog w=
   .ok (.bool (!decide (b1=b2∧x1=x2∧y1=y2))) w:=by
 rw[run_neq_struct,run_equalIn_struct _ 9999 _ _ _ (by kernel_rfl) (by kernel_rfl)]
 have hL: ∀x y:ByteArray,(x.toList==y.toList)=decide (x=y):=by
  intro x y;rw[Bool.eq_iff_iff,beq_iff_eq,decide_eq_true_iff]
  constructor
  ·intro h;rw[ByteArray.toList_eq,ByteArray.toList_eq]at h;obtain⟨⟨x⟩⟩:=x;obtain⟨⟨y⟩⟩:=y;simp only at h;rw[h]
  ·intro h;rw[h]
 have hb:(b1==b2)=decide (b1=b2):=by cases b1<;>cases b2<;>rfl
 have hx:=hL x1 x2;have hy:=hL y1 y2;clear hL
 by_cases h1:b1=b2
 ·by_cases h2:x1=x2
  ·by_cases h3:y1=y2
   ·simp only[h1,h2,h3];go_simp
   ·simp only[h3,decide_false]at hy;go_simp
  ·go_simp
 ·go_simp
end
section
open Go Go.RowKit Sp
attribute [local go_sem ↓] Go.wp_at_zero Go.wp_at_succ
def dD (tb:List (Option (List UInt8×List UInt8))):List Value:=tb.flatMap fun o=>(stV o).toList
theorem tN (o:Option (List UInt8×List UInt8)):(stV o).toList.length=3:=by
 cases o<;>rfl
theorem lU {tb:List (Option (List UInt8×List UInt8))} {j k:Nat} {o:Option (List UInt8×List UInt8)} (h:tb[j]?=some o) (hk:k<3):(dD tb)[j*3+k]?=(stV o).toList[k]?:=
 dR (fun o:Option (List UInt8×List UInt8)=>(stV o).toList) 3 tN tb j k o h hk
def dZ (w:World) (gA:Nat) (tb:List (Option (List UInt8×List UInt8))):Prop:=w.heap[gA]?=some (.cells (dD tb).toArray 91)
def fH (w:World) (bt gA n:Nat) (ch bad:Bool):Prop:=w.heap[bt]?=some (.cells #[.slice (some ⟨gA,0,none⟩) n n,.bool ch,.bool bad] 274)
section
variable {w:World} {bt gA n:Nat} {ch bad:Bool}
theorem fH.lt (h:fH w bt gA n ch bad):bt<w.heap.size:=ae h
theorem fH.c0 (h:fH w bt gA n ch bad):w.cell? ⟨bt,0,none⟩=some (.slice (some ⟨gA,0,none⟩) n n):=ce0 h
theorem fH.c1 (h:fH w bt gA n ch bad):w.cell? ⟨bt,1,none⟩=some (.bool ch):=ce1 h
theorem fH.c2 (h:fH w bt gA n ch bad):w.cell? ⟨bt,2,none⟩=some (.bool bad):=ce2 h
theorem fH.fz (h:fH w bt gA n ch bad) (j:Nat):w.frozen? ⟨bt,j,none⟩=false:=frozen_of_row w bt j _ _ h
theorem fH.but {F:Nat→Prop} {w':World} (h:fH w bt gA n ch bad) (hb:But F w w') (hf: ¬F bt):fH w' bt gA n ch bad:=(hb.block bt h.lt hf).trans h
theorem fH.set1 (h:fH w bt gA n ch bad) (d:Bool):fH (w.setCell ⟨bt,1,none⟩ (.bool d)) bt gA n d bad:=heap_setCell_same w bt 1 _ _ _ h
theorem fH.set2 (h:fH w bt gA n ch bad) (d:Bool):fH (w.setCell ⟨bt,2,none⟩ (.bool d)) bt gA n ch d:=heap_setCell_same w bt 2 _ _ _ h
end
theorem dZ.lt {w:World} {gA:Nat} {tb:List (Option (List UInt8×List UInt8))} (h:dZ w gA tb):gA<w.heap.size:=ae h
theorem dZ.but {F:Nat→Prop} {w w':World} {gA:Nat} {tb:List (Option (List UInt8×List UInt8))} (h:dZ w gA tb) (hb:But F w w') (hf: ¬F gA):dZ w' gA tb:=(hb.block gA h.lt hf).trans h
theorem dZ.cell {w:World} {gA:Nat} {tb:List (Option (List UInt8×List UInt8))} (h:dZ w gA tb) {j k:Nat} {o:Option (List UInt8×List UInt8)} (hj:tb[j]?=some o) (hk:k<3):w.cell? ⟨gA,j*3+k,none⟩=(stV o).toList[k]?:=by
 rw[cell_of_row w gA _ _ _ (0,0) h,←lU hj hk];simp
theorem dZ.fz {w:World} {gA:Nat} {tb:List (Option (List UInt8×List UInt8))} (h:dZ w gA tb) (j:Nat):w.frozen? ⟨gA,j,none⟩=false:=frozen_of_row w gA j _ _ h
theorem un: ∀(tb:List (Option (List UInt8×List UInt8))) (j:Nat) (a b c:Value) (m:Option (List UInt8×List UInt8)),j<tb.length→(stV m).toList=[a,b,c]→
  dD (tb.set j m)=(((dD tb).set (j*3) a).set (j*3+1) b).set (j*3+2) c:=by
 intro tb
 induction tb with
 |nil=>intro j a b c m h _;simp at h
 |cons o tb ih=>
  intro j a b c m h hm;have ho:=tN o
  match ho':(stV o).toList,ho with
  | [x,y,z],_=>
   cases j with
   |zero=>simp[dD,hm,ho']
   |succ j=>
    have:=ih j a b c m (by simpa using h) hm;simp only[dD,List.set_cons_succ,List.flatMap_cons,ho']at this⊢;rw[this];rw[show(j+1)*3=j*3+3 from by omega]
    rfl
theorem dZ.set {w:World} {gA:Nat} {tb:List (Option (List UInt8×List UInt8))} (h:dZ w gA tb) {j:Nat} (hj:j<tb.length) (s l:List UInt8):
  dZ (((w.setCell ⟨gA,j*3,none⟩ (.bool true)).setCell ⟨gA,j*3+1,none⟩ (.string ⟨s.toArray⟩)).setCell ⟨gA,j*3+2,none⟩ (.string ⟨l.toArray⟩)) gA (tb.set j (some (s,l))):=by
 unfold dZ;rw[un tb j (.bool true) (.string ⟨s.toArray⟩) (.string ⟨l.toArray⟩) (some (s,l)) hj rfl];have h1:=heap_setCell_same w gA (j*3) _ _ (.bool true) h;have h2:=heap_setCell_same _ gA (j*3+1) _ _ (.string ⟨s.toArray⟩) h1;have h3:=heap_setCell_same _ gA (j*3+2) _ _ (.string ⟨l.toArray⟩) h2;simpa using h3
def wC (R:List (Option (List UInt8×List UInt8))×Bool×Bool) (bt gA n:Nat) (w':World):Prop:=fH w' bt gA n R.2.1 R.2.2∧dZ w' gA R.1
theorem wD (bt gA bi:Nat) (cs:List Cls) (nl:Nat) (tb:List (Option (List UInt8×List UInt8))) (ch bad:Bool) (j:Int) (sb lb:List UInt8) (w:World) (hI:fG w bi cs) (hw:WfC cs) (hn:cs.length≤4) (hnl:nl≤5) (htl:tb.length≤100)
  (hne:bt≠gA) (hT:fH w bt gA tb.length ch bad) (hA:dZ w gA tb) (hok: ∀(k:Nat) s l,tb[k]?=some (some (s,l))→okS cs.length nl s l) (hb:okS cs.length nl sb lb) (hjr: -1≤j∧j≤1000):
  Calls Tryz.prog 185 #[.pointer (some ⟨bt,0,none⟩),.pointer (some ⟨bi,0,none⟩),.int .i64 j,.agg #[.bool true,.string ⟨sb.toArray⟩,.string ⟨lb.toArray⟩]] w fun en w'=>en= .returned (.tuple #[])∧But (fun k=>k=bt∨k=gA) w w'∧
   wC (bc cs (tb,ch,bad) j sb lb) bt gA tb.length w':=by
 have c2:=hT.c2;have f2:=hT.fz 2;have blt:=hT.lt
 cases bad with
 |true=>
  rw[show bc cs (tb,ch,true) j sb lb=(tb,ch,true)from by simp[bc]]
  go_in
  go_wp2_with fail;exact eo Tryz.results185 rfl ⟨rfl,But.alloc _ _ _,hT.but (But.alloc (fun _=>False) _ _) (fun h=>h),hA.but (But.alloc (fun _=>False) _ _) (fun h=>h)⟩
 |false=>
 by_cases hj0:j<0
 ·rw[show bc cs (tb,ch,false) j sb lb=(tb,ch,false)from by unfold bc;rw[if_pos (Or.inr hj0)]]
  go_in
  go_wp2_with fail;exact eo Tryz.results185 rfl ⟨rfl,But.alloc _ _ _,hT.but (But.alloc (fun _=>False) _ _) (fun h=>h),hA.but (But.alloc (fun _=>False) _ _) (fun h=>h)⟩
 have c0:=hT.c0
 by_cases hjn:(tb.length:Int)≤j
 ·have f6:bc cs (tb,ch,false) j sb lb=(tb,ch,true):=by unfold bc;rw[if_neg (by simp;omega),if_pos hjn]
  rw[f6];clear f6
  go_in
  go_wp2_with fail;have h8:But (· =bt) w ((w.setCell ⟨bt,2,none⟩ (.bool true)).alloc (.cells #[.bool true,.string ⟨sb.toArray⟩,.string ⟨lb.toArray⟩] 91)):=(But.setB _ _ _ _).trans (But.alloc _ _ _);exact eo Tryz.results185 rfl ⟨rfl,h8.mono (fun _ _ h=>Or.inl h),(hT.set2 true).but (But.alloc (fun _=>False) _ _) (fun h=>h),hA.but h8 (fun h=>hne h.symm)⟩
 ·obtain⟨jn,rfl⟩:=Int.eq_ofNat_of_zero_le (by omega:0≤j);have h4:jn<tb.length:=by omega
  have i2:(jn:Int)<(tb.length:Int):=by omega
  have g4:=List.getElem?_eq_getElem h4;obtain⟨o,ho⟩: ∃o,tb[jn]=o:=⟨_,rfl⟩;rw[ho]at g4;have e4:tb.getD jn none=o:=by simp[List.getD,g4]
  have h7: ∀s l,o=some (s,l)→okS cs.length nl s l:=fun s l h=>hok jn s l (by rw[g4,h])
  have b9:bc cs (tb,ch,false) (jn:Int) sb lb=match dq cs o sb lb with
    |none=>(tb,ch,true)
    |some m=>if some m=o then(tb,ch,false)else(tb.set jn (some m),true,false):=by
   unfold bc;rw[if_neg (by simp),if_neg (by simpa using i2)];simp only[Int.toNat_natCast,e4]
   cases dq cs o sb lb<;>rfl
  obtain⟨R,hR⟩: ∃R,bc cs (tb,ch,false) (jn:Int) sb lb=R:=⟨_,rfl⟩;rw[hR];have HR:=hid (b9.symm.trans hR);clear hR;have g5:=hid g4;have h5:=um bi cs nl o sb lb;clear b9 e4 hj0 hjn ho
  go_in
  go_wp2_with fail;have b2:But (fun _=>False) w (w.alloc (.cells #[.bool true,.string ⟨sb.toArray⟩,.string ⟨lb.toArray⟩] 91)):=But.alloc _ _ _;have f1:(w.alloc (.cells #[.bool true,.string ⟨sb.toArray⟩,.string ⟨lb.toArray⟩] 91)).heap[w.heap.size]?=some (.cells #[.bool true,.string ⟨sb.toArray⟩,.string ⟨lb.toArray⟩] 91):=heap_alloc_new _ _;revert b2 f1;generalize (w.alloc (.cells #[.bool true,.string ⟨sb.toArray⟩,.string ⟨lb.toArray⟩] 91))=W;intro b2 f1;have e8:=hT.but b2 (fun h=>h);have b5:=hA.but b2 (fun h=>h);have k0:=ce0 f1;have k1:=ce1 f1;have k2:=ce2 f1;have e0:=e8.c0;have ltT:=e8.lt;have ltA:=b5.lt
  have ltb:=ae f1;obtain⟨o0,o1,o2,a7⟩: ∃o0 o1 o2,stV o=#[.bool o0,.string o1,.string o2]:=by cases o<;>exact⟨_,_,_,rfl⟩
  have q0:=b5.cell (k:=0) g5.out (by omega);have q1:=b5.cell (k:=1) g5.out (by omega);have q2:=b5.cell (k:=2) g5.out (by omega);rw[a7]at q0 q1 q2;simp only[Nat.add_zero]at q0;have f7:W.cell? ⟨gA,jn*3,none⟩=some (.bool o0):=q0;have f8:W.cell? ⟨gA,jn*3+1,none⟩=some (.string o1):=q1;have g0:W.cell? ⟨gA,jn*3+2,none⟩=some (.string o2):=q2;clear q0 q1 q2 c0 c2;have g7:But (fun _=>False) W W.drew:=But.drew _ _;refine az (But (fun _=>False) W) 16 (by kernel_rfl) ?_
  iterate 9 (refine aB (v:=?_) rfl (by kernel_rfl) (fun _ _ _ h=>h) rfl g7 ?_ ?_;rotate_left;(focus (intro wS h;have Q0:=(h.kc e0 ltT);have Q1:=(h.kc f7 ltA);have Q2:=(h.kc f8 ltA);have Q3:=(h.kc g0 ltA);have Q4:=(h.kc k0 ltb);have Q5:=(h.kc k1 ltb);have Q6:=(h.kc k2 ltb);clear h;go_simp;try rfl));dsimp only[Act.put];try simp only[aR])
  obtain⟨m0,m1,m2,okb,i0,h9⟩: ∃m0 m1 m2 okb,jw cs o sb lb= .tuple #[.agg #[.bool m0,.string m1,.string m2],.bool okb]∧
    ((dq cs o sb lb=none∧okb=false)∨ ∃s l,dq cs o sb lb=some (s,l)∧okb=true∧m0=true∧m1=⟨s.toArray⟩∧m2=⟨l.toArray⟩):=by
   unfold jw
   cases hm:dq cs o sb lb with
   |none=>exact⟨o0,o1,o2,false,by simp[a7],Or.inl ⟨rfl,rfl⟩⟩
   |some m=>exact⟨true,⟨m.1.toArray⟩,⟨m.2.toArray⟩,true,rfl,Or.inr ⟨m.1,m.2,rfl,rfl,rfl,rfl,rfl⟩⟩
  rw[a7,i0]at h5;have e5:=hid h9;clear h9;have g1:=hid (fun(wx:World) (h:But (fun _=>False) W wx)=>h5 wx ((hI.but b2).but h) hw hn hnl h7 hb);clear h5 i0;refine lq (q:=13) (o:= ?oA9) (oq:= ?oqA9) (rest:= ?rsA9) (restq:= ?rqA9) ?hoA9 ?hqA9 ?hrA9 ?stA9 ?sqA9
  case hoA9=>rfl
  case hqA9=>rfl
  case hrA9=>kernel_rfl
  case' stA9=>
   intro KS hKS;go_simp;refine(g1.out W.drew g7).mono ?_;rintro en w1 ⟨rfl,e6⟩;have a1:But (fun _=>False) W w1:=g7.trans e6;refine hKS.out _ _ (fun _=>a1) ?_;clear hKS KS
   iterate 3 (refine aB (v:=?_) rfl (by kernel_rfl) (fun _ _ _ h=>h) rfl a1 ?_ ?_;rotate_left;(focus (intro wS h;clear h;go_simp;try rfl));dsimp only[Act.put];try simp only[aR])
   refine ag rfl (by kernel_rfl) ?_;intro KS hKS;go_simp;refine hKS.out _ _ (fun _=>a1.trans (But.alloc _ _ _)) ?_;clear hKS KS;refine ag rfl (by kernel_rfl) ?_;intro KS hKS;go_simp;refine hKS.out _ _ (fun _=>a1.trans (But.alloc _ _ _)) ?_;clear hKS KS;refine ag rfl (by kernel_rfl) ?_;intro KS hKS;go_simp;refine hKS.out _ _ (fun _=>a1.trans (But.alloc _ _ _)) ?_;clear hKS KS;refine aD rfl (by kernel_rfl) ?_;have a2:But (fun _=>False) W (w1.alloc (.cells #[.bool m0,.string m1,.string m2] 91)):=a1.trans (But.alloc _ _ _);have a5:(w1.alloc (.cells #[.bool m0,.string m1,.string m2] 91)).heap[w1.heap.size]?=some (.cells #[.bool m0,.string m1,.string m2] 91):=heap_alloc_new _ _
   have f0:W.heap.size≤w1.heap.size:=a1.size;revert a2 a5 f0;clear e6 a1;generalize (w1.alloc (.cells #[.bool m0,.string m1,.string m2] 91))=w2;generalize w1.heap.size=bm;intro a2 a5 f0;clear w1
  case' sqA9=>
   intro KS hKS;go_simp;have e7:But (fun _=>False) W (W.alloc (.cells #[.bool false,.string ⟨#[]⟩,.string ⟨#[]⟩] 91)).drew:=(But.alloc _ _ _).trans (But.drew _ _);have e4:(W.alloc (.cells #[.bool false,.string ⟨#[]⟩,.string ⟨#[]⟩] 91)).drew.heap[W.heap.size]?=some (.cells #[.bool false,.string ⟨#[]⟩,.string ⟨#[]⟩] 91):=heap_alloc_new _ _;revert e7 e4;generalize (W.alloc (.cells #[.bool false,.string ⟨#[]⟩,.string ⟨#[]⟩] 91)).drew=Wd;have f0:W.heap.size≤W.heap.size:=Nat.le_refl _;revert f0;generalize f4:W.heap.size=bm;intro f0 e7 e4;have f0:W.heap.size≤bm:=by omega
   have i1:=hid f4;clear f4;refine hKS.out _ _ (fun _=>e7) ?_;clear hKS KS;refine lr rfl (by kernel_rfl) (by kernel_rfl) ?_;intro KS hKS;go_simp;refine(g1.out Wd e7).mono ?_;rintro en w1 ⟨rfl,e6⟩;have a1:But (fun _=>False) W w1:=e7.trans e6;have a4:w1.heap[bm]?=some (.cells #[.bool false,.string ⟨#[]⟩,.string ⟨#[]⟩] 91):=e6.kp e4;refine hKS.out _ _ (fun _=>a1) ?_;clear hKS KS
   iterate 3 (refine lu (v:=?_) rfl (by kernel_rfl) (fun _ _ _ h=>h) rfl a1 ?_ ?_;rotate_left;(focus (intro wS h;clear h;go_simp;try rfl));dsimp only[Act.put];try simp only[aR])
   refine lw ?_;have r0:=ce0 a4;have r1:=ce1 a4;have r2:=ce2 a4;have z0:w1.frozen? ⟨bm,0,none⟩=false:=frozen_of_row w1 bm 0 _ _ a4;have z1:w1.frozen? ⟨bm,1,none⟩=false:=frozen_of_row w1 bm 1 _ _ a4;have z2:w1.frozen? ⟨bm,2,none⟩=false:=frozen_of_row w1 bm 2 _ _ a4;have rlt:=ae a4;have g3: ∀j u (wx:World),But (fun _=>False) W wx→But (fun _=>False) W (wx.setCell ⟨bm,j,none⟩ u):=fun j u wx h=>h.next (But.setB _ _ _ _) (fun k hk e=>by omega)
   have a2:=g3 2 (.string m2) _ (g3 1 (.string m1) _ (g3 0 (.bool m0) _ a1));have a5:=heap_setCell_same _ bm 2 _ _ (.string m2) (heap_setCell_same _ bm 1 _ _ (.string m1) (heap_setCell_same _ bm 0 _ _ (.bool m0) a4));refine ag rfl (by kernel_rfl) ?_;intro KS hKS;go_simp;refine hKS.out _ _ (fun _=>a2) ?_;clear hKS KS;refine ag rfl (by kernel_rfl) ?_;intro KS hKS;go_simp;refine hKS.out _ _ (fun _=>a2) ?_;clear hKS KS;refine aD rfl (by kernel_rfl) ?_;have h3:(((w1.setCell ⟨bm,0,none⟩ (.bool m0)).setCell ⟨bm,1,none⟩ (.string m1)).setCell ⟨bm,2,none⟩ (.string m2)).heap[bm]?=some (.cells #[.bool m0,.string m1,.string m2] 91):=a5
   clear a5;revert a2 h3;clear e7 e4 g3 a4 r0 r1 r2 z0 z1 z2 rlt e6 a1;generalize (((w1.setCell ⟨bm,0,none⟩ (.bool m0)).setCell ⟨bm,1,none⟩ (.string m1)).setCell ⟨bm,2,none⟩ (.string m2))=w2;intro a2 a5;clear w1 Wd i1
  ·have a6:=e8.but a2 (fun h=>h);have b1:=b5.but a2 (fun h=>h);have g2:=a6.fz 2;have glt:=a6.lt;have g6:=a6.c2;clear g1 k0 k1 k2 e0 e8 b5;rcases e5.out with⟨hM,rfl⟩ | ⟨s,l,hM,rfl,rfl,rfl,rfl⟩
   ·have b0:(tb,ch,true)=R:=by rw[←HR.out,hM]
    clear HR hM e5;subst b0;go_wp2_with fail;exact eo Tryz.results185 rfl ⟨rfl,(((b2.trans a2)).mono (fun _ _ h=>h.elim)).next (But.setB _ _ _ _) (fun _ _ h=>Or.inl h),a6.set2 true,b1.but (But.setB _ _ _ _) (fun h=>hne h.symm)⟩
   ·clear e5;have e2:=a6.c0;have a9:But (fun _=>False) w w2:=b2.trans a2;have n0:=ce0 a5;have n1:=ce1 a5;have n2:=ce2 a5;have p0:=a2.cell (p:=⟨gA,jn*3,none⟩) ltA (fun h=>h);have p1:=a2.cell (p:=⟨gA,jn*3+1,none⟩) ltA (fun h=>h);have p2:=a2.cell (p:=⟨gA,jn*3+2,none⟩) ltA (fun h=>h);rw[f7]at p0;rw[f8]at p1;rw[g0]at p2;clear f7 f8 g0 a2 ltT ltA ltb;have ltA:=b1.lt;have ltm:=ae a5;go_wp2_with fail
    obtain⟨dd,h6,f5⟩: ∃dd:Bool,(∀wx,(binOp .neq 91 (.agg #[.bool true,.string ⟨s.toArray⟩,.string ⟨l.toArray⟩]) (.agg #[.bool o0,.string o1,.string o2])).run Tryz.prog wx= .ok (.bool dd) wx)∧
      ((some (s,l)=o∧dd=false)∨(some (s,l)≠o∧dd=true)):=by
     refine⟨_,fun wx=>oS wx true o0 ⟨s.toArray⟩ ⟨l.toArray⟩ o1 o2,?_⟩
     by_cases a0:some (s,l)=o
     ·left
      refine⟨a0,?_⟩;subst a0;have hv:stV (some (s,l))=#[.bool true,.string ⟨s.toArray⟩,.string ⟨l.toArray⟩]:=rfl;rw[hv]at a7;simp only[Array.mk.injEq,List.cons.injEq,Value.bool.injEq,Value.string.injEq,and_true]at a7;obtain⟨rfl,rfl,rfl⟩:=a7;simp
     ·right
      refine⟨a0,?_⟩;rw[Bool.not_eq_true',decide_eq_false_iff_not];rintro⟨rfl,rfl,rfl⟩
      apply a0
      cases o with
      |none=>simp[stV]at a7
      |some m=>
       obtain⟨ms,ml⟩:=m;simp[stV]at a7;obtain⟨h1,h2⟩:=a7;rw[h1,h2]
    have e1:=hid f5;clear f5;have f3:But (fun _=>False) w2 w2.drew:=But.drew _ _;refine az (But (fun _=>False) w2) 9 (by kernel_rfl) ?_
    iterate 9 (refine aB (v:=?_) rfl (by kernel_rfl) (fun _ _ _ h=>h) rfl f3 ?_ ?_;rotate_left;(focus (intro wS h;have q0:=(h.kc n0 ltm);have q1:=(h.kc n1 ltm);have q2:=(h.kc n2 ltm);have q3:=(h.kc e2 glt);have q4:=(h.kc p0 ltA);have q5:=(h.kc p1 ltA);have q6:=(h.kc p2 ltA);clear h;go_simp;try rfl));dsimp only[Act.put];try simp only[aR])
    refine aD rfl (by kernel_rfl) ?_;clear h6;rcases e1.out with⟨a0,rfl⟩ | ⟨a0,rfl⟩
    ·have b0:(tb,ch,false)=R:=by rw[←HR.out,hM];simp only[if_pos a0]
     clear HR hM e1 a0;subst b0;go_wp2_with fail;exact bodyPost_end (v:= .tuple #[]) (by simp[results,Tryz.results185,go_sem]) rfl ⟨rfl,(a9.trans (But.drew _ _)).mono (fun _ _ h=>h.elim),a6.but (But.drew (fun _=>False) _) (fun h=>h),b1.but (But.drew (fun _=>False) _) (fun h=>h)⟩
    ·have b0:(tb.set jn (some (s,l)),true,false)=R:=by rw[←HR.out,hM];simp only[if_neg a0]
     clear HR hM e1 a0;subst b0;go_wp2_with fail;have a3:But (fun _=>False) w2 w2.drew.drew:=(But.drew _ _).trans (But.drew _ _);refine az (But (fun _=>False) w2) 7 (by kernel_rfl) ?_;revert a3;clear f3;generalize w2.drew.drew=w3;intro a3
     iterate 7 (refine aB (v:=?_) rfl (by kernel_rfl) (fun _ _ _ h=>h) rfl a3 ?_ ?_;rotate_left;(focus (intro wS h;have q0:=(h.kc n0 ltm);have q1:=(h.kc n1 ltm);have q2:=(h.kc n2 ltm);have q3:=(h.kc e2 glt);clear h;go_simp;try rfl));dsimp only[Act.put];try simp only[aR])
     have h0:=a6.but a3 (fun h=>h);have a8:=b1.but a3 (fun h=>h);have u0:=a3.kc p0 ltA;have u1:=a3.kc p1 ltA;have u2:=a3.kc p2 ltA;have z0:=a8.fz (jn*3);have z1:=a8.fz (jn*3+1);have z2:=a8.fz (jn*3+2);have zlt:=a8.lt;clear p0 p1 p2 n0 n1 n2 a5 e2 g6;refine ag rfl (by kernel_rfl) ?_;intro KS hKS;go_simp;refine hKS.out _ _ nofun ?_;clear hKS KS;refine aD rfl (by kernel_rfl) ?_;have e3:=a8.set h4 s l;have b3:But (· =gA) w3 (((w3.setCell ⟨gA,jn*3,none⟩ (.bool true)).setCell ⟨gA,jn*3+1,none⟩ (.string ⟨s.toArray⟩)).setCell ⟨gA,jn*3+2,none⟩ (.string ⟨l.toArray⟩)):=((But.setB _ _ _ _).trans (But.setB _ _ _ _)).trans (But.setB _ _ _ _)
     revert e3 b3;clear u0 u1 u2 z0 z1 z2;generalize (((w3.setCell ⟨gA,jn*3,none⟩ (.bool true)).setCell ⟨gA,jn*3+1,none⟩ (.string ⟨s.toArray⟩)).setCell ⟨gA,jn*3+2,none⟩ (.string ⟨l.toArray⟩))=w4;intro e3 b3;have b4:=h0.but b3 hne;have x1:=b4.c1;have y1:=b4.fz 1;have xlt:=b4.lt;go_wp2_with fail;exact bodyPost_end (v:= .tuple #[]) (by simp[results,Tryz.results185,go_sem]) rfl ⟨rfl,(((a9.trans a3).mono (fun _ _ h=>h.elim)).next b3 (fun _ _ h=>Or.inr h)).next (But.setB _ _ _ _) (fun _ _ h=>Or.inl h),b4.set1 true,e3.but (But.setB _ _ _ _) (fun h=>hne h.symm)⟩
  ·have a6:=e8.but a2 (fun h=>h);have b1:=b5.but a2 (fun h=>h);have g2:=a6.fz 2;have glt:=a6.lt;have g6:=a6.c2;clear g1 k0 k1 k2 e0 e8 b5;rcases e5.out with⟨hM,rfl⟩ | ⟨s,l,hM,rfl,rfl,rfl,rfl⟩
   ·have b0:(tb,ch,true)=R:=by rw[←HR.out,hM]
    clear HR hM e5;subst b0;go_wp2_with fail;exact eo Tryz.results185 rfl ⟨rfl,(((b2.trans a2)).mono (fun _ _ h=>h.elim)).next (But.setB _ _ _ _) (fun _ _ h=>Or.inl h),a6.set2 true,b1.but (But.setB _ _ _ _) (fun h=>hne h.symm)⟩
   ·clear e5;have e2:=a6.c0;have a9:But (fun _=>False) w w2:=b2.trans a2;have n0:=ce0 a5;have n1:=ce1 a5;have n2:=ce2 a5;have p0:=a2.cell (p:=⟨gA,jn*3,none⟩) ltA (fun h=>h);have p1:=a2.cell (p:=⟨gA,jn*3+1,none⟩) ltA (fun h=>h);have p2:=a2.cell (p:=⟨gA,jn*3+2,none⟩) ltA (fun h=>h);rw[f7]at p0;rw[f8]at p1;rw[g0]at p2;clear f7 f8 g0 a2 ltT ltA ltb;have ltA:=b1.lt;have ltm:=ae a5;go_wp2_with fail
    obtain⟨dd,h6,f5⟩: ∃dd:Bool,(∀wx,(binOp .neq 91 (.agg #[.bool true,.string ⟨s.toArray⟩,.string ⟨l.toArray⟩]) (.agg #[.bool o0,.string o1,.string o2])).run Tryz.prog wx= .ok (.bool dd) wx)∧
      ((some (s,l)=o∧dd=false)∨(some (s,l)≠o∧dd=true)):=by
     refine⟨_,fun wx=>oS wx true o0 ⟨s.toArray⟩ ⟨l.toArray⟩ o1 o2,?_⟩
     by_cases a0:some (s,l)=o
     ·left
      refine⟨a0,?_⟩;subst a0;have hv:stV (some (s,l))=#[.bool true,.string ⟨s.toArray⟩,.string ⟨l.toArray⟩]:=rfl;rw[hv]at a7;simp only[Array.mk.injEq,List.cons.injEq,Value.bool.injEq,Value.string.injEq,and_true]at a7;obtain⟨rfl,rfl,rfl⟩:=a7;simp
     ·right
      refine⟨a0,?_⟩;rw[Bool.not_eq_true',decide_eq_false_iff_not];rintro⟨rfl,rfl,rfl⟩
      apply a0
      cases o with
      |none=>simp[stV]at a7
      |some m=>
       obtain⟨ms,ml⟩:=m;simp[stV]at a7;obtain⟨h1,h2⟩:=a7;rw[h1,h2]
    have e1:=hid f5;clear f5;have f3:But (fun _=>False) w2 w2.drew:=But.drew _ _;refine az (But (fun _=>False) w2) 9 (by kernel_rfl) ?_
    iterate 9 (refine aB (v:=?_) rfl (by kernel_rfl) (fun _ _ _ h=>h) rfl f3 ?_ ?_;rotate_left;(focus (intro wS h;have q0:=(h.kc n0 ltm);have q1:=(h.kc n1 ltm);have q2:=(h.kc n2 ltm);have q3:=(h.kc e2 glt);have q4:=(h.kc p0 ltA);have q5:=(h.kc p1 ltA);have q6:=(h.kc p2 ltA);clear h;go_simp;try rfl));dsimp only[Act.put];try simp only[aR])
    refine aD rfl (by kernel_rfl) ?_;clear h6;rcases e1.out with⟨a0,rfl⟩ | ⟨a0,rfl⟩
    ·have b0:(tb,ch,false)=R:=by rw[←HR.out,hM];simp only[if_pos a0]
     clear HR hM e1 a0;subst b0;go_wp2_with fail;exact bodyPost_end (v:= .tuple #[]) (by simp[results,Tryz.results185,go_sem]) rfl ⟨rfl,(a9.trans (But.drew _ _)).mono (fun _ _ h=>h.elim),a6.but (But.drew (fun _=>False) _) (fun h=>h),b1.but (But.drew (fun _=>False) _) (fun h=>h)⟩
    ·have b0:(tb.set jn (some (s,l)),true,false)=R:=by rw[←HR.out,hM];simp only[if_neg a0]
     clear HR hM e1 a0;subst b0;go_wp2_with fail;have a3:But (fun _=>False) w2 w2.drew.drew:=(But.drew _ _).trans (But.drew _ _);refine az (But (fun _=>False) w2) 7 (by kernel_rfl) ?_;revert a3;clear f3;generalize w2.drew.drew=w3;intro a3
     iterate 7 (refine aB (v:=?_) rfl (by kernel_rfl) (fun _ _ _ h=>h) rfl a3 ?_ ?_;rotate_left;(focus (intro wS h;have q0:=(h.kc n0 ltm);have q1:=(h.kc n1 ltm);have q2:=(h.kc n2 ltm);have q3:=(h.kc e2 glt);clear h;go_simp;try rfl));dsimp only[Act.put];try simp only[aR])
     have h0:=a6.but a3 (fun h=>h);have a8:=b1.but a3 (fun h=>h);have u0:=a3.kc p0 ltA;have u1:=a3.kc p1 ltA;have u2:=a3.kc p2 ltA;have z0:=a8.fz (jn*3);have z1:=a8.fz (jn*3+1);have z2:=a8.fz (jn*3+2);have zlt:=a8.lt;clear p0 p1 p2 n0 n1 n2 a5 e2 g6;refine ag rfl (by kernel_rfl) ?_;intro KS hKS;go_simp;refine hKS.out _ _ nofun ?_;clear hKS KS;refine aD rfl (by kernel_rfl) ?_;have e3:=a8.set h4 s l;have b3:But (· =gA) w3 (((w3.setCell ⟨gA,jn*3,none⟩ (.bool true)).setCell ⟨gA,jn*3+1,none⟩ (.string ⟨s.toArray⟩)).setCell ⟨gA,jn*3+2,none⟩ (.string ⟨l.toArray⟩)):=((But.setB _ _ _ _).trans (But.setB _ _ _ _)).trans (But.setB _ _ _ _)
     revert e3 b3;clear u0 u1 u2 z0 z1 z2;generalize (((w3.setCell ⟨gA,jn*3,none⟩ (.bool true)).setCell ⟨gA,jn*3+1,none⟩ (.string ⟨s.toArray⟩)).setCell ⟨gA,jn*3+2,none⟩ (.string ⟨l.toArray⟩))=w4;intro e3 b3;have b4:=h0.but b3 hne;have x1:=b4.c1;have y1:=b4.fz 1;have xlt:=b4.lt;go_wp2_with fail;exact bodyPost_end (v:= .tuple #[]) (by simp[results,Tryz.results185,go_sem]) rfl ⟨rfl,(((a9.trans a3).mono (fun _ _ h=>h.elim)).next b3 (fun _ _ h=>Or.inr h)).next (But.setB _ _ _ _) (fun _ _ h=>Or.inl h),b4.set1 true,e3.but (But.setB _ _ _ _) (fun h=>hne h.symm)⟩
theorem sN:(Tryz.prog.info? 91).map (fun i=>(i.zero,i.size,i.bytes))=some (some (.agg #[.bool false,.string ⟨#[]⟩,.string ⟨#[]⟩]),3,40):=by kernel_rfl
theorem wE (n:Nat):madeCells #[.bool false,.string ⟨#[]⟩,.string ⟨#[]⟩] (n*3)=(dD (List.replicate n none)).toArray:=by
 apply Array.ext
 ·rw[size_madeCells];simp[dD,stV,List.flatMap_replicate]
 ·intro k h1 h2;rw[size_madeCells]at h1;have hk:k=k / 3*3+k % 3:=by omega
  have hj:(List.replicate n (none:Option (List UInt8×List UInt8)))[k / 3]?=some none:=by rw[List.getElem?_replicate];exact if_pos (by omega)
  have:=lU hj (show k % 3<3 by omega);rw[←hk]at this;have h3:(dD (List.replicate n none)).toArray[k]?=some ((dD (List.replicate n none)).toArray[k]):=by rw[Array.getElem?_eq_getElem h2]
  rw[List.getElem?_toArray,this]at h3
  have h4:(madeCells #[.bool false,.string ⟨#[]⟩,.string ⟨#[]⟩] (n*3))[k]'(by rw[size_madeCells];exact h1)=#[Value.bool false,.string ⟨#[]⟩,.string ⟨#[]⟩][k % 3]!:=by
   simp[madeCells]
  rw[h4];generalize k % 3=r at h3
  match r with
  |0=>simp[stV]at h3;exact h3
  |1=>simp[stV]at h3;exact h3
  |2=>simp[stV]at h3;exact h3
  |r+3=>simp[stV]at h3
theorem wF (n:Nat) (hn:n≤1000) (w:World):(Instr.makeSlice 45 (.int .i64 (n:Int)) (.int .i64 (n:Int))).run Tryz.prog w= .ok (.slice (some ⟨w.heap.size,0,none⟩) n n) (w.alloc (.cells (dD (List.replicate n none)).toArray 91)):=by
 have a0:=sN
 cases hi:Tryz.prog.info? 91 with
 |none=>rw[hi]at a0;cases a0
 |some i=>
  rw[hi]at a0;simp only[Option.map_some,Option.some.injEq,Prod.mk.injEq]at a0;obtain⟨hz,hs,hb⟩:=a0;have:=run_make (P:=Tryz.prog) w 45 91 i _ (by kernel_rfl) hi hz .i64 .i64 n n (by omega) (by omega) (by rw[hb];omega) (by omega);rw[this,hs];simp only[Int.toNat_natCast,Value.cells];rw[wE]
theorem yV (w:World) (x y z:Obj):(((w.alloc x).alloc y).alloc z).heap[w.heap.size]?=some x∧(((w.alloc x).alloc y).alloc z).heap[w.heap.size+1]?=some y∧(((w.alloc x).alloc y).alloc z).heap[w.heap.size+1+1]?=some z:=by
 have s1:(w.alloc x).heap.size=w.heap.size+1:=Array.size_push _;have s2:((w.alloc x).alloc y).heap.size=w.heap.size+1+1:=(Array.size_push _).trans (congrArg (· +1) (Array.size_push _));have a1:=heap_alloc_new w x;have a2:=heap_alloc_new (w.alloc x) y;have a3:=heap_alloc_new ((w.alloc x).alloc y) z;rw[s1]at a2;rw[s2]at a3;refine⟨?_,?_,a3⟩
 ·exact(((But.alloc (fun _=>False) (w.alloc x) y).trans (But.alloc _ _ _)).block _ (by omega) (fun h=>h)).trans a1
 ·exact((But.alloc (fun _=>False) ((w.alloc x).alloc y) z).block _ (by omega) (fun h=>h)).trans a2
theorem pH (bt gA bi:Nat) (cs:List Cls) (nl n:Nat) (T:Tn) (j:Int) (sb lb:List UInt8) (w:World) (hI:fG w bi cs) (hw:WfC cs) (hn:cs.length≤4) (hnl:nl≤5) (hn1:n≤100)
  (hne:bt≠gA) (hT:fH w bt gA n T.2.1 T.2.2) (hA:dZ w gA T.1) (hwf:wfT cs.length nl n T.1) (hb:okS cs.length nl sb lb) (hjr: -1≤j∧j≤1000):
  Calls Tryz.prog 185 #[.pointer (some ⟨bt,0,none⟩),.pointer (some ⟨bi,0,none⟩),.int .i64 j,.agg #[.bool true,.string ⟨sb.toArray⟩,.string ⟨lb.toArray⟩]] w fun en w'=>en= .returned (.tuple #[])∧But (fun k=>k=bt∨k=gA) w w'∧
   fH w' bt gA n (bc cs T j sb lb).2.1 (bc cs T j sb lb).2.2∧dZ w' gA (bc cs T j sb lb).1:=by
 obtain⟨tb,ch,bad⟩:=T;have hl:=hwf.1;have a0:=hwf.okS hn1;simp only at*;clear hwf;subst hl;exact(wD bt gA bi cs nl tb ch bad j sb lb w hI hw hn hnl hn1 hne hT hA a0 hb hjr).mono (fun en w' h=>⟨h.1,h.2.1,h.2.2.1,h.2.2.2⟩)
def oT (R:Option (List St)) (w:World) (en:Ending) (w':World):Prop:=match R with
 |none=>en= .returned (.tuple #[.slice none 0 0,.bool false])
 |some tb=> ∃gA,en= .returned (.tuple #[.slice (some ⟨gA,0,none⟩) tb.length tb.length,.bool true])∧dZ w' gA tb∧w.heap.size≤gA
def ra (w:World) (bb:Nat) (bd:Bod) (ak:Option Addr) (n capk:Nat):Prop:=w.heap[bb]?=some (.cells #[.int .i64 bd.cls,.int .i64 bd.meth,.string ⟨bd.locals.toArray⟩,.slice ak n capk,.slice none 0 0] 52)
theorem ra.lt {w:World} {bb:Nat} {bd:Bod} {ak:Option Addr} {n capk:Nat} (h:ra w bb bd ak n capk):bb<w.heap.size:=ae h
theorem ra.but {F:Nat→Prop} {w w':World} {bb:Nat} {bd:Bod} {ak:Option Addr} {n capk:Nat} (h:ra w bb bd ak n capk) (hb:But F w w') (hf: ¬F bb):ra w' bb bd ak n capk:=(hb.block bb h.lt hf).trans h
theorem uo (bi:Nat) (im:Img) (bd:Bod) (ak:Option Addr) (capk:Nat) (w:World) (hI:bT w bi im) (hW:WfI im) (hbd:WfB im.classes im.sigs bd) (hc:w.ownsRow 0 144 4 (.slice ak bd.code.length capk) bd.code.length (cE bd.code)):
  Calls Tryz.prog 116 #[.pointer (some ⟨bi,0,none⟩),.agg #[.int .i64 bd.cls,.int .i64 bd.meth,.string ⟨bd.locals.toArray⟩,.slice ak bd.code.length capk,.slice none 0 0]] w fun en w'=>But (fun _=>False) w w'∧oT (cG im bd) w en w':=by
 obtain⟨R,o5⟩: ∃R,cG im bd=R:=⟨_,rfl⟩;rw[o5];have r3:=hid o5;clear o5;have n0:=eI hbd;obtain⟨n,hn⟩: ∃n,bd.code.length=n:=⟨_,rfl⟩;have a7:=hbd.len;rw[hn]at a7 hc n0⊢;have v1:=wF n (by omega);have s2:=uk bd ak n capk
 go_in
 go_wp2_with fail;clear v1
 obtain⟨W,p2⟩: ∃W,W=(((w.alloc (.cells #[.int .i64 bd.cls,.int .i64 bd.meth,.string ⟨bd.locals.toArray⟩,.slice ak n capk,.slice none 0 0] 52)).alloc
    (.cells (dD (List.replicate n none)).toArray 91)).alloc (.cells #[.slice (some ⟨w.heap.size+1,0,none⟩) n n,.bool true,.bool false] 274)):=⟨_,rfl⟩
 have r5:But (fun _=>False) w W:=by rw[p2];exact((But.alloc _ _ _).trans (But.alloc _ _ _)).trans (But.alloc _ _ _)
 have h3:=yV w (.cells #[.int .i64 bd.cls,.int .i64 bd.meth,.string ⟨bd.locals.toArray⟩,.slice ak n capk,.slice none 0 0] 52) (.cells (dD (List.replicate n none)).toArray 91) (.cells #[.slice (some ⟨w.heap.size+1,0,none⟩) n n,.bool true,.bool false] 274);rw[←p2]at h3⊢;clear p2;obtain⟨h0,y1,y2⟩:=h3;have n5:dZ W (w.heap.size+1) (List.replicate n none):=y1;have a4:fH W (w.heap.size+1+1) (w.heap.size+1) n true false:=y2;clear y1 y2;have m4:w.heap.size≤w.heap.size∧w.heap.size<w.heap.size+1∧w.heap.size+1<w.heap.size+1+1:=by omega
 revert h0 n5 a4 m4;generalize w.heap.size+1+1=bt;generalize w.heap.size+1=gA;obtain⟨bb,p3⟩: ∃bb,w.heap.size=bb:=⟨_,rfl⟩;rw[p3];intro h0 n5 a4 m5;have m4:w.heap.size≤bb∧bb<gA∧gA<bt:=by omega
 have v5:=hid p3;clear p3 m5;have b0:=ce0 h0;have b1:=ce1 h0;have b2:=ce2 h0;have b3:=ce3 h0;have b4:=ce4 h0;have ltb:=ae h0;have e0:=a4.c0;have ltT:=a4.lt;have h7:But (fun _=>False) W W.drew:=But.drew _ _;have h9:=hid (s2 W.drew);clear s2;refine az (But (fun _=>False) W) 6 (by kernel_rfl) ?_
 iterate 5 (refine aB (v:=?_) rfl (by kernel_rfl) (fun _ _ _ h=>h) rfl h7 ?_ ?_;rotate_left;(focus (intro wS h;have q0:=(h.kc e0 ltT);have q1:=(h.kc b0 ltb);have q2:=(h.kc b1 ltb);have q3:=(h.kc b2 ltb);have q4:=(h.kc b3 ltb);have q5:=(h.kc b4 ltb);clear h;go_simp;try rfl));dsimp only[Act.put];try simp only[aR])
 refine ag rfl (by kernel_rfl) ?_;intro KS hKS;go_simp;refine h9.out.mono ?_;rintro en w1 ⟨rfl,h4⟩;have a1:But (fun _=>False) W w1:=h7.trans h4;refine hKS.out _ _ (fun _=>a1) ?_;clear hKS KS h9;refine ag rfl (by kernel_rfl) ?_;intro KS hKS;go_simp;refine hKS.out _ _ nofun ?_;clear hKS KS;have h2:=n5.but a1 (fun h=>h);have s0:=a4.but a1 (fun h=>h);have n8:(List.replicate n (none:Option (List UInt8×List UInt8)))[0]?=some none:=by rw[List.getElem?_replicate];exact if_pos a7.1
 have u0:w1.cell? ⟨gA,0,none⟩=some (.bool false):=h2.cell (k:=0) n8 (by omega);have u1:w1.cell? ⟨gA,1,none⟩=some (.string ⟨#[]⟩):=h2.cell (k:=1) n8 (by omega);have u2:w1.cell? ⟨gA,2,none⟩=some (.string ⟨#[]⟩):=h2.cell (k:=2) n8 (by omega);have z0:=h2.fz 0;have z1:=h2.fz 1;have z2:=h2.fz 2;have zlt:=h2.lt;clear n8;refine ag rfl (by kernel_rfl) ?_;intro KS hKS;go_simp;refine hKS.out _ _ nofun ?_;clear hKS KS;refine aD rfl (by kernel_rfl) ?_;have n3:=h2.set (j:=0) (by simpa using a7.1) [] bd.locals;have a5:But (· =gA) w1 (((w1.setCell ⟨gA,0,none⟩ (.bool true)).setCell ⟨gA,1,none⟩ (.string ⟨#[]⟩)).setCell ⟨gA,2,none⟩ (.string ⟨bd.locals.toArray⟩)):=((But.setB _ _ _ _).trans (But.setB _ _ _ _)).trans (But.setB _ _ _ _)
 have o1:dZ (((w1.setCell ⟨gA,0,none⟩ (.bool true)).setCell ⟨gA,1,none⟩ (.string ⟨#[]⟩)).setCell ⟨gA,2,none⟩ (.string ⟨bd.locals.toArray⟩)) gA (bP bd):=by
  unfold bP;rw[hn];simpa using n3
 clear n3;revert o1 a5;clear u0 u1 u2 z0 z1 z2;generalize (((w1.setCell ⟨gA,0,none⟩ (.bool true)).setCell ⟨gA,1,none⟩ (.string ⟨#[]⟩)).setCell ⟨gA,2,none⟩ (.string ⟨bd.locals.toArray⟩))=w2;intro a5 n3;have t4:=s0.but a5 (fun h=>by omega);have q6:ra w2 bb bd ak n capk:=(a5.block bb (Nat.lt_of_lt_of_le ltb a1.size) (fun h=>by omega)).trans ((a1.block bb ltb (fun h=>h)).trans h0)
 have o2:But (fun _=>False) w w2:=by
  refine(r5.trans a1).next a5 (fun k hk h=> ?_);omega
 clear a5 h2 s0 a1 h4 h7 a4 n5 e0 ltT b0 b1 b2 b3 b4 ltb zlt h0 r5;clear w1 W;have HN:=hid hn;clear hn;go_wp2_with fail
 go_loopg [7] 80000 (fun mm rs wr=> ∃(r:Nat) (tb:List St) (ch:Bool),rs= .int .i64 r∧r≤80000∧r+mm≤80000∧80000≤r+mm∧But (fun _=>False) w wr∧ra wr bb bd ak n capk∧fH wr bt gA n ch false∧dZ wr gA tb∧wfT im.classes.length bd.locals.length n tb∧Hid (dS im bd mm (tb,ch,false)=R))
 case atStart=>exact⟨0,bP bd,true,rfl,by omega,by omega,by omega,o2,q6,t4,n3,n0,r3.out⟩
 case round=>
  obtain⟨r,tb,ch,rfl,w8,v2,w9,b5,e6,a4,e3,a8,HA⟩:=hrel;have l3:gk=80000-r:=by omega
  rw[l3]at HA;clear l3 v2;have c0:=a4.c0;have c1:=a4.c1;have f1:=a4.fz 1;have clt:=a4.lt
  by_cases g6:r<80000∧ch=true
  ·obtain⟨g6,rfl⟩:=g6;have l4:(r:Int)<80000:=by omega
   obtain⟨SW,o6⟩: ∃SW,cW im bd n 0 (tb,false,false)=SW:=⟨_,rfl⟩;have t3:=hid o6
   have f7:Hid (ez im bd (80000-(r+1)) SW=R):=by
    show _=_
    rw[←HA.out,show 80000-r=(80000-(r+1))+1 from by omega,←o6,←HN.out,kh]
   clear o6 HA;go_wp2_with fail;have p1:=a4.set1 false;have n4:But (· =bt) wr (wr.setCell ⟨bt,1,none⟩ (.bool false)):=But.setB _ _ _ _;have o4:=e6.but n4 (by omega);have p0:=e3.but n4 (by omega);have o3:But (fun _=>False) w (wr.setCell ⟨bt,1,none⟩ (.bool false)):=b5.next n4 (fun k hk h=>by omega);revert p1 o4 p0 o3;clear a4 e6 e3 b5 c0 c1 f1 clt n4;generalize (wr.setCell ⟨bt,1,none⟩ (.bool false))=wc;intro t5 e6 e3 o3
   go_loopg [8] n (fun mm is wr=> ∃(i:Nat) (T:Tn),is= .int .i64 i∧i≤n∧i+mm≤n∧n≤i+mm∧But (fun _=>False) w wr∧ra wr bb bd ak n capk∧fH wr bt gA n T.2.1 T.2.2∧dZ wr gA T.1∧wfT im.classes.length bd.locals.length n T.1∧Hid (cW im bd mm i T=SW))
   case atStart=>exact⟨0,(tb,false,false),rfl,by omega,by omega,by omega,o3,e6,t5,e3,a8,t3.out⟩
   case round=>
    obtain⟨i,T,rfl,w6,v0,w7,b5,e6,a4,e3,a8,HA⟩:=hrel;have l3:gk=n-i:=by omega
    rw[l3]at HA;clear l3 v0;have c0:=a4.c0;have c2:=a4.c2;have clt:=a4.lt;have b3:=ce3 e6;have blt:=e6.lt
    by_cases hgo:i<n∧T.2.2=false
    ·obtain⟨g6,g7⟩:=hgo;have l4:(i:Int)<(n:Int):=by omega
     rw[g7]at c2;have v4:i<T.1.length:=by rw[a8.1];exact g6
     obtain⟨o,ho⟩: ∃o,T.1[i]=o:=⟨_,rfl⟩;have i4:=List.getElem?_eq_getElem v4;rw[ho]at i4;have q0:=e3.cell (k:=0) i4 (by omega);have q1:=e3.cell (k:=1) i4 (by omega);have q2:=e3.cell (k:=2) i4 (by omega);simp only[Nat.add_zero]at q0;have alt:=e3.lt
     cases o with
     |none=>
      have n9:wr.cell? ⟨gA,i*3,none⟩=some (.bool false):=q0
      have e5:Hid (cW im bd (n-(i+1)) (i+1) T=SW):=by
       show _=_
       rw[←HA.out,show n-i=(n-(i+1))+1 from by omega,fE g7 (ss i4)]
      clear q0 q1 q2 i4 ho HA;go_wp2_with fail
      go_roundg (n-(i+1))
      case measure=>omega
      case rel=>exact⟨i+1,T,by simp,by omega,by omega,by omega,b5,e6,a4,e3,a8,e5.out⟩
     |some st=>
      obtain⟨st,lo⟩:=st;have n9:wr.cell? ⟨gA,i*3,none⟩=some (.bool true):=q0;have q8:wr.cell? ⟨gA,i*3+1,none⟩=some (.string ⟨st.toArray⟩):=q1;have q9:wr.cell? ⟨gA,i*3+2,none⟩=some (.string ⟨lo.toArray⟩):=q2;have e4:=hid i4;clear q0 q1 q2 i4 ho;have l5:i<bd.code.length:=by rw[HN.out];exact g6
      have hx:=List.getElem?_eq_getElem l5;have k3:=hbd.code _ (List.getElem_mem l5);obtain⟨X,hX⟩: ∃X,bd.code[i]=X:=⟨_,rfl⟩;rw[hX]at hx k3;clear hX;obtain⟨g,t6,f5,w0,a0⟩:=aG hc a7.1;subst t6;have i0:=(b5.cell (p:=⟨g,_,none⟩) f5 (fun h=>h)).trans (a0 _ _ (fW hx));have i1:=(b5.cell (p:=⟨g,_,none⟩) f5 (fun h=>h)).trans (a0 _ _ (fX hx));have i2:=(b5.cell (p:=⟨g,_,none⟩) f5 (fun h=>h)).trans (a0 _ _ (fY hx));have i3:=(b5.cell (p:=⟨g,_,none⟩) f5 (fun h=>h)).trans (a0 _ _ (fZ hx));have glt:g<wr.heap.size:=Nat.lt_of_lt_of_le f5 b5.size;clear a0;have HX:=hid hx;clear hx;have m3:=a8.okS a7.2 i st lo e4.out
      obtain⟨m1,m2,okb,s1,r6⟩: ∃m1 m2 okb,sL (cy im.classes im.sigs bd X st lo) st lo= .tuple #[.agg #[.bool true,.string m1,.string m2],.bool okb]∧
        ((cy im.classes im.sigs bd X st lo=none∧okb=false)∨ ∃s l,cy im.classes im.sigs bd X st lo=some (s,l)∧okb=true∧m1=⟨s.toArray⟩∧m2=⟨l.toArray⟩):=by
       unfold sL
       cases he:cy im.classes im.sigs bd X st lo with
       |none=>exact⟨_,_,false,rfl,Or.inl ⟨rfl,rfl⟩⟩
       |some m=>exact⟨_,_,true,rfl,Or.inr ⟨m.1,m.2,rfl,rfl,rfl,rfl⟩⟩
      have j3:=fun(wx:World) (h:But (fun _=>False) wr wx)=>sM bi im bd (some ⟨g,0,none⟩) n capk X st lo wx ((hI.but b5).but h) hW hbd k3 m3.1 (by have:=m3.2.2.2;omega) m3.2.2.1 trivial
      rw[s1]at j3;have n2:=hid j3;have j5:=hid r6;clear j3 s1 r6;have b0:=ce0 e6;have b1:=ce1 e6;have b2:=ce2 e6;have b4:=ce4 e6;go_wp2_with fail;have h7:But (fun _=>False) wr wr.drew:=But.drew _ _;refine az (But (fun _=>False) wr) 21 (by kernel_rfl) ?_
      iterate 14 (refine aB (v:=?_) rfl (by kernel_rfl) (fun _ _ _ h=>h) rfl h7 ?_ ?_;rotate_left;(focus (intro wS h;have Q0:=(h.kc c0 clt);have Q1:=(h.kc n9 alt);have Q2:=(h.kc q8 alt);have Q3:=(h.kc q9 alt);have Q4:=(h.kc b0 blt);have Q5:=(h.kc b1 blt);have Q6:=(h.kc b2 blt);have Q7:=(h.kc b3 blt);have Q8:=(h.kc b4 blt);have Q9:=(h.kc i0 glt);have v6:=(h.kc i1 glt);have v7:=(h.kc i2 glt);have v9:=(h.kc i3 glt);clear h;go_simp;try rfl));dsimp only[Act.put];try simp only[aR])
      refine lq (q:=18) (o:= ?oE14) (oq:= ?oqE14) (rest:= ?rsE14) (restq:= ?rqE14) ?hoE14 ?hqE14 ?hrE14 ?stE14 ?sqE14
      case hoE14=>rfl
      case hqE14=>rfl
      case hrE14=>kernel_rfl
      case' stE14=>
       intro KS hKS;go_simp;refine(n2.out wr.drew h7).mono ?_;rintro en w1 ⟨rfl,h4⟩;have a1:But (fun _=>False) wr w1:=h7.trans h4;refine hKS.out _ _ (fun _=>a1) ?_;clear hKS KS
       iterate 3 (refine aB (v:=?_) rfl (by kernel_rfl) (fun _ _ _ h=>h) rfl a1 ?_ ?_;rotate_left;(focus (intro wS h;clear h;go_simp;try rfl));dsimp only[Act.put];try simp only[aR])
       refine ag rfl (by kernel_rfl) ?_;intro KS hKS;go_simp;refine hKS.out _ _ (fun _=>a1.trans (But.alloc _ _ _)) ?_;clear hKS KS;refine ag rfl (by kernel_rfl) ?_;intro KS hKS;go_simp;refine hKS.out _ _ (fun _=>a1.trans (But.alloc _ _ _)) ?_;clear hKS KS;refine ag rfl (by kernel_rfl) ?_;intro KS hKS;go_simp;refine hKS.out _ _ (fun _=>a1.trans (But.alloc _ _ _)) ?_;clear hKS KS;refine aD rfl (by kernel_rfl) ?_;have a5:But (fun _=>False) wr (w1.alloc (.cells #[.bool true,.string m1,.string m2] 91)):=a1.trans (But.alloc _ _ _);have h1:(w1.alloc (.cells #[.bool true,.string m1,.string m2] 91)).heap[w1.heap.size]?=some (.cells #[.bool true,.string m1,.string m2] 91):=heap_alloc_new _ _
       have j2:wr.heap.size≤w1.heap.size:=a1.size;revert a5 h1 j2;clear h4 a1;generalize (w1.alloc (.cells #[.bool true,.string m1,.string m2] 91))=w2;generalize w1.heap.size=bm;intro a5 h1 j2;clear w1
      case' sqE14=>
       intro KS hKS;go_simp;have j7:But (fun _=>False) wr (wr.alloc (.cells #[.bool false,.string ⟨#[]⟩,.string ⟨#[]⟩] 91)).drew:=(But.alloc _ _ _).trans (But.drew _ _);have n7:(wr.alloc (.cells #[.bool false,.string ⟨#[]⟩,.string ⟨#[]⟩] 91)).drew.heap[wr.heap.size]?=some (.cells #[.bool false,.string ⟨#[]⟩,.string ⟨#[]⟩] 91):=heap_alloc_new _ _;revert j7 n7;generalize (wr.alloc (.cells #[.bool false,.string ⟨#[]⟩,.string ⟨#[]⟩] 91)).drew=Wd;generalize k9:wr.heap.size=bm;intro j7 n7;have j2:wr.heap.size≤bm:=by omega
       have s9:=hid k9;clear k9;refine hKS.out _ _ (fun _=>j7) ?_;clear hKS KS;refine lr rfl (by kernel_rfl) (by kernel_rfl) ?_;intro KS hKS;go_simp;refine(n2.out Wd j7).mono ?_;rintro en w1 ⟨rfl,h4⟩;have a1:But (fun _=>False) wr w1:=j7.trans h4;have e2:w1.heap[bm]?=some (.cells #[.bool false,.string ⟨#[]⟩,.string ⟨#[]⟩] 91):=h4.kp n7;refine hKS.out _ _ (fun _=>a1) ?_;clear hKS KS
       iterate 3 (refine lu (v:=?_) rfl (by kernel_rfl) (fun _ _ _ h=>h) rfl a1 ?_ ?_;rotate_left;(focus (intro wS h;clear h;go_simp;try rfl));dsimp only[Act.put];try simp only[aR])
       refine lw ?_;have r0:=ce0 e2;have r1:=ce1 e2;have r2:=ce2 e2;have z0:w1.frozen? ⟨bm,0,none⟩=false:=frozen_of_row w1 bm 0 _ _ e2;have z1:w1.frozen? ⟨bm,1,none⟩=false:=frozen_of_row w1 bm 1 _ _ e2;have z2:w1.frozen? ⟨bm,2,none⟩=false:=frozen_of_row w1 bm 2 _ _ e2;have rlt:=ae e2;have n6: ∀j u (wx:World),But (fun _=>False) wr wx→But (fun _=>False) wr (wx.setCell ⟨bm,j,none⟩ u):=fun j u wx h=>h.next (But.setB _ _ _ _) (fun k hk e=>by omega)
       have a5:=n6 2 (.string m2) _ (n6 1 (.string m1) _ (n6 0 (.bool true) _ a1));have h1:=heap_setCell_same _ bm 2 _ _ (.string m2) (heap_setCell_same _ bm 1 _ _ (.string m1) (heap_setCell_same _ bm 0 _ _ (.bool true) e2));refine ag rfl (by kernel_rfl) ?_;intro KS hKS;go_simp;refine hKS.out _ _ (fun _=>a5) ?_;clear hKS KS;refine ag rfl (by kernel_rfl) ?_;intro KS hKS;go_simp;refine hKS.out _ _ (fun _=>a5) ?_;clear hKS KS;refine aD rfl (by kernel_rfl) ?_;have q7:(((w1.setCell ⟨bm,0,none⟩ (.bool true)).setCell ⟨bm,1,none⟩ (.string m1)).setCell ⟨bm,2,none⟩ (.string m2)).heap[bm]?=some (.cells #[.bool true,.string m1,.string m2] 91):=h1
       clear h1;revert a5 q7;clear j7 n7 n6 e2 r0 r1 r2 z0 z1 z2 rlt h4 a1;generalize (((w1.setCell ⟨bm,0,none⟩ (.bool true)).setCell ⟨bm,1,none⟩ (.string m1)).setCell ⟨bm,2,none⟩ (.string m2))=w2;intro a5 h1;clear w1 Wd s9
      ·clear n2 b0 b1 b2 b3 b4 n9 q8 q9 i0 i1 i2 i3 c0 c2;have i9:=e3.lt;have j0:=a4.lt;have g4:=a4.but a5 (fun h=>h);have g2:=e3.but a5 (fun h=>h);have a9:=e6.but a5 (fun h=>h);have a2:=b5.trans a5;clear a4 e3 e6 a5 b5 h7 clt alt blt glt;rcases j5.out with⟨hE,rfl⟩ | ⟨s,l,hE,rfl,rfl,rfl⟩
       ·have h6:none=R:=by
         rw[←f7.out,←HA.out,show n-i=(n-(i+1))+1 from by omega,jo g7 (kj HX.out e4.out hE)]
         rfl
        clear j5 hE HA f7 HX e4;subst h6;go_wp2_with fail;exact bodyPost_ret (v:= .tuple #[.slice none 0 0,.bool false]) (by simp[results,Tryz.results116,go_sem]) rfl ⟨a2,rfl⟩
       ·have f4:=iS hW k3 (a8.2 i st lo e4.out).1 hE;have h9:=hid (iT HX.out e4.out hE)
        have e5:Hid (cW im bd (n-(i+1)) (i+1) (bc im.classes (bc im.classes T (bD X i).1 s l) (bD X i).2 s l)=SW):=by
         show _=_
         rw[←HA.out,show n-i=(n-(i+1))+1 from by omega,fE g7 h9.out]
        have j4:=er hW.nc hW.cls (j:=(bD X i).1) a8 f4.1 (by have:=(a8.2 i st lo e4.out).2;omega);have n1:=er hW.nc hW.cls (j:=(bD X i).2) j4.1 f4.1 (by have:=(a8.2 i st lo e4.out).2;omega);have m0:okS im.classes.length bd.locals.length s l:=⟨f4.1.1,f4.1.2.1,f4.1.2.2,by have:=f4.2;have:=(a8.2 i st lo e4.out).2;have:=jP T.1;have:=a8.1;omega⟩;have f8:=hid j4;have e7:=hid n1;have s4:=hid g7;clear j5 hE HA f7 f4 h9 j4 n1 e4 m3 g7;obtain⟨g',j1,p5,p6,a0⟩:=aG hc a7.1
        cases j1
        have i0:=(a2.cell (p:=⟨g,_,none⟩) f5 (fun h=>h)).trans (a0 _ _ (fW HX.out));have i1:=(a2.cell (p:=⟨g,_,none⟩) f5 (fun h=>h)).trans (a0 _ _ (fX HX.out));have i2:=(a2.cell (p:=⟨g,_,none⟩) f5 (fun h=>h)).trans (a0 _ _ (fY HX.out));have i3:=(a2.cell (p:=⟨g,_,none⟩) f5 (fun h=>h)).trans (a0 _ _ (fZ HX.out));have glt:g<w2.heap.size:=Nat.lt_of_lt_of_le f5 a2.size;have b3:=ce3 a9;have blt:=a9.lt;clear a0;go_wp2_with fail;refine(qZ X i w2 (by omega)).mono ?_;rintro en w3 ⟨rfl,f6⟩
        have h8:(-1≤(bD X i).1∧(bD X i).1≤1000)∧(-1≤(bD X i).2∧(bD X i).2≤1000):=by
         have:=k3.num;unfold bD
         split
         ·simp
         split
         ·simp;omega
         split
         ·simp;omega
         ·simp;omega
        revert e5 f8 e7 h8;generalize (bD X i).1=x;generalize (bD X i).2=y;intro e5 f8 e7 h8;have g5:=g4.but f6 (fun h=>h);have g3:=g2.but f6 (fun h=>h);have g0:=a9.but f6 (fun h=>h);have e8:=a2.trans f6;have a3:=f6.kp h1;have p4:gA<bm∧bt<bm:=⟨Nat.lt_of_lt_of_le i9 j2,Nat.lt_of_lt_of_le j0 j2⟩;clear g4 g2 a9 a2 h1 i0 i1 i2 i3 glt b3 blt f6;have k0:=ce0 a3;have k1:=ce1 a3;have k2:=ce2 a3;have klt:=ae a3;go_wp2_with fail;refine(pH bt gA bi im.classes bd.locals.length n T x s l w3 (hI.but e8).cls hW.cls hW.nc hbd.loc.1 a7.2 (by omega) g5 g3 a8 m0 h8.1).mono ?_;rintro en w4 ⟨rfl,h5,e1,b9⟩;have g1:=g0.but h5 (fun h=>by omega)
        have f0:But (fun _=>False) w w4:=e8.next h5 (fun k hk h=>by omega);have a6:=(h5.block bm (ae a3) (fun h=>by omega)).trans a3;clear k0 k1 k2 klt g5 g3 g0 e8 a3 h5;have k0:=ce0 a6;have k1:=ce1 a6;have k2:=ce2 a6;have klt:=ae a6;revert e5 f8 e7 e1 b9;generalize bc im.classes T x s l=T1;intro e5 f8 e7 e1 b9;go_wp2_with fail;refine(pH bt gA bi im.classes bd.locals.length n T1 y s l w4 (hI.but f0).cls hW.cls hW.nc hbd.loc.1 a7.2 (by omega) e1 b9 f8.out.1 m0 h8.2).mono ?_;rintro en w5 ⟨rfl,i5,f3,f2⟩;have i6:=g1.but i5 (fun h=>by omega);have i7:But (fun _=>False) w w5:=f0.next i5 (fun k hk h=>by omega)
        clear k0 k1 k2 klt e1 b9 g1 f0 a6 i5;revert e5 e7 f3 f2;generalize bc im.classes T1 y s l=T2;intro e5 e7 f3 f2;go_wp2_with fail
        go_roundg (n-(i+1))
        case measure=>omega
        case rel=>exact⟨i+1,T2,by simp,by omega,by omega,by omega,i7,i6,f3,f2,e7.out.1,e5.out⟩
      ·clear n2 b0 b1 b2 b3 b4 n9 q8 q9 i0 i1 i2 i3 c0 c2;have i9:=e3.lt;have j0:=a4.lt;have g4:=a4.but a5 (fun h=>h);have g2:=e3.but a5 (fun h=>h);have a9:=e6.but a5 (fun h=>h);have a2:=b5.trans a5;clear a4 e3 e6 a5 b5 h7 clt alt blt glt;rcases j5.out with⟨hE,rfl⟩ | ⟨s,l,hE,rfl,rfl,rfl⟩
       ·have h6:none=R:=by
         rw[←f7.out,←HA.out,show n-i=(n-(i+1))+1 from by omega,jo g7 (kj HX.out e4.out hE)]
         rfl
        clear j5 hE HA f7 HX e4;subst h6;go_wp2_with fail;exact bodyPost_ret (v:= .tuple #[.slice none 0 0,.bool false]) (by simp[results,Tryz.results116,go_sem]) rfl ⟨a2,rfl⟩
       ·have f4:=iS hW k3 (a8.2 i st lo e4.out).1 hE;have h9:=hid (iT HX.out e4.out hE)
        have e5:Hid (cW im bd (n-(i+1)) (i+1) (bc im.classes (bc im.classes T (bD X i).1 s l) (bD X i).2 s l)=SW):=by
         show _=_
         rw[←HA.out,show n-i=(n-(i+1))+1 from by omega,fE g7 h9.out]
        have j4:=er hW.nc hW.cls (j:=(bD X i).1) a8 f4.1 (by have:=(a8.2 i st lo e4.out).2;omega);have n1:=er hW.nc hW.cls (j:=(bD X i).2) j4.1 f4.1 (by have:=(a8.2 i st lo e4.out).2;omega);have m0:okS im.classes.length bd.locals.length s l:=⟨f4.1.1,f4.1.2.1,f4.1.2.2,by have:=f4.2;have:=(a8.2 i st lo e4.out).2;have:=jP T.1;have:=a8.1;omega⟩;have f8:=hid j4;have e7:=hid n1;have s4:=hid g7;clear j5 hE HA f7 f4 h9 j4 n1 e4 m3 g7;obtain⟨g',j1,p5,p6,a0⟩:=aG hc a7.1
        cases j1
        have i0:=(a2.cell (p:=⟨g,_,none⟩) f5 (fun h=>h)).trans (a0 _ _ (fW HX.out));have i1:=(a2.cell (p:=⟨g,_,none⟩) f5 (fun h=>h)).trans (a0 _ _ (fX HX.out));have i2:=(a2.cell (p:=⟨g,_,none⟩) f5 (fun h=>h)).trans (a0 _ _ (fY HX.out));have i3:=(a2.cell (p:=⟨g,_,none⟩) f5 (fun h=>h)).trans (a0 _ _ (fZ HX.out));have glt:g<w2.heap.size:=Nat.lt_of_lt_of_le f5 a2.size;have b3:=ce3 a9;have blt:=a9.lt;clear a0;go_wp2_with fail;refine(qZ X i w2 (by omega)).mono ?_;rintro en w3 ⟨rfl,f6⟩
        have h8:(-1≤(bD X i).1∧(bD X i).1≤1000)∧(-1≤(bD X i).2∧(bD X i).2≤1000):=by
         have:=k3.num;unfold bD
         split
         ·simp
         split
         ·simp;omega
         split
         ·simp;omega
         ·simp;omega
        revert e5 f8 e7 h8;generalize (bD X i).1=x;generalize (bD X i).2=y;intro e5 f8 e7 h8;have g5:=g4.but f6 (fun h=>h);have g3:=g2.but f6 (fun h=>h);have g0:=a9.but f6 (fun h=>h);have e8:=a2.trans f6;have a3:=f6.kp h1;have p4:gA<bm∧bt<bm:=⟨Nat.lt_of_lt_of_le i9 j2,Nat.lt_of_lt_of_le j0 j2⟩;clear g4 g2 a9 a2 h1 i0 i1 i2 i3 glt b3 blt f6;have k0:=ce0 a3;have k1:=ce1 a3;have k2:=ce2 a3;have klt:=ae a3;go_wp2_with fail;refine(pH bt gA bi im.classes bd.locals.length n T x s l w3 (hI.but e8).cls hW.cls hW.nc hbd.loc.1 a7.2 (by omega) g5 g3 a8 m0 h8.1).mono ?_;rintro en w4 ⟨rfl,h5,e1,b9⟩;have g1:=g0.but h5 (fun h=>by omega)
        have f0:But (fun _=>False) w w4:=e8.next h5 (fun k hk h=>by omega);have a6:=(h5.block bm (ae a3) (fun h=>by omega)).trans a3;clear k0 k1 k2 klt g5 g3 g0 e8 a3 h5;have k0:=ce0 a6;have k1:=ce1 a6;have k2:=ce2 a6;have klt:=ae a6;revert e5 f8 e7 e1 b9;generalize bc im.classes T x s l=T1;intro e5 f8 e7 e1 b9;go_wp2_with fail;refine(pH bt gA bi im.classes bd.locals.length n T1 y s l w4 (hI.but f0).cls hW.cls hW.nc hbd.loc.1 a7.2 (by omega) e1 b9 f8.out.1 m0 h8.2).mono ?_;rintro en w5 ⟨rfl,i5,f3,f2⟩;have i6:=g1.but i5 (fun h=>by omega);have i7:But (fun _=>False) w w5:=f0.next i5 (fun k hk h=>by omega)
        clear k0 k1 k2 klt e1 b9 g1 f0 a6 i5;revert e5 e7 f3 f2;generalize bc im.classes T1 y s l=T2;intro e5 e7 f3 f2;go_wp2_with fail
        go_roundg (n-(i+1))
        case measure=>omega
        case rel=>exact⟨i+1,T2,by simp,by omega,by omega,by omega,i7,i6,f3,f2,e7.out.1,e5.out⟩
    ·have v3:SW=some T:=by
      rw[←HA.out]
      by_cases hb:T.2.2=true
      ·exact ki im bd _ _ T hb
      ·have: ¬i<n:=fun h=>hgo ⟨h,by simpa using hb⟩
       rw[show n-i=0 from by omega]
       rfl
     clear HA;subst v3
     by_cases g6:i<n
     ·have hb:T.2.2=true:=by
       by_cases hb:T.2.2=true
       ·exact hb
       ·exact absurd ⟨g6,by simpa using hb⟩ hgo
      have h6:none=R:=by rw[←f7.out];simp[ez,hb]
      clear f7 hgo;subst h6;rw[hb]at c2;have l4:(i:Int)<(n:Int):=by omega
      go_wp2_with fail;exact bodyPost_ret (v:= .tuple #[.slice none 0 0,.bool false]) (by simp[results,Tryz.results116,go_sem]) rfl ⟨b5,rfl⟩
     ·have l4: ¬(i:Int)<(n:Int):=by omega
      obtain⟨s3,r4,o0⟩:=T
      cases o0 with
      |true=>
       have h6:none=R:=by rw[←f7.out];simp[ez]
       clear f7 hgo;subst h6;go_wp2_with fail;exact bodyPost_ret (v:= .tuple #[.slice none 0 0,.bool false]) (by simp[results,Tryz.results116,go_sem]) rfl ⟨b5,rfl⟩
      |false=>
       have t0:Hid (dS im bd (80000-(r+1)) (s3,r4,false)=R):=by show _=_;rw[←f7.out];simp[ez]
       clear f7 hgo;go_wp2_with fail
       go_roundg (80000-(r+1))
       case measure=>omega
       case rel=>exact⟨r+1,s3,r4,by simp,by omega,by omega,by omega,b5,e6,a4,e3,a8,t0.out⟩
  ·have h6:some tb=R:=by
    rw[←HA.out]
    cases ch with
    |false=>rw[f9]
    |true=>
     rw[show 80000-r=0 from by have: ¬r<80000:=fun h=>g6 ⟨h,rfl⟩;omega]
     rfl
   clear HA r3;subst h6;have l0:oT (some tb) w (.returned (.tuple #[.slice (some ⟨gA,0,none⟩) n n,.bool true])) wr:=⟨gA,by rw[a8.1],e3,by omega⟩;have HF:=hid l0;clear l0
   by_cases hr:r<80000
   ·have t9:ch=false:=by
     cases ch
     ·rfl
     ·exact absurd ⟨hr,rfl⟩ g6
    subst t9;clear g6;have l4:(r:Int)<80000:=by omega
    go_wp2_with fail;exact bodyPost_ret (v:= .tuple #[.slice (some ⟨gA,0,none⟩) n n,.bool true]) (by simp[results,Tryz.results116,go_sem]) rfl ⟨b5,HF.out⟩
   ·clear g6;have l4: ¬(r:Int)<80000:=by omega
    go_wp2_with fail;exact bodyPost_ret (v:= .tuple #[.slice (some ⟨gA,0,none⟩) n n,.bool true]) (by simp[results,Tryz.results116,go_sem]) rfl ⟨b5,HF.out⟩
end
end Go.Proofs.YtpfkkmacakjmbaaGreatDoor
