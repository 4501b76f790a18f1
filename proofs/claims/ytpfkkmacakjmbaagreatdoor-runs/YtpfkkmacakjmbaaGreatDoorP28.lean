import Derived.Test.YtpfkkmacakjmbaaGreatDoorP27
set_option maxRecDepth 100000
set_option maxHeartbeats 6400000
set_option linter.unusedSimpArgs false
set_option linter.unusedVariables false
namespace Go.Proofs.YtpfkkmacakjmbaaGreatDoor
section
open Go Go.RowKit Sp
attribute [local go_sem ↓] Go.wp_at_zero Go.wp_at_succ
def bO (im:Img) (bd:Bod) (tab:List St) (wt:List Bool) (a:Nat) (x:Ins) (s l:List UInt8):Wn:=
 match cy im.classes im.sigs bd x s l with
 |none=>(tab,wt,true)
 |some (s',l')=>b7 im.classes s' l' (tab,wt,false) (gV x a)
theorem pb {im:Img} (hW:WfI im) {nl n j:Nat} {tab:List St} {wt:List Bool} {sb lb:List UInt8} (h:wfT im.classes.length nl n tab) (hz:okZ im.classes.length nl sb lb) (hl:sb.length≤iQ tab):wfT im.classes.length nl n (aV im.classes (tab,wt,false) j sb lb).1∧iQ tab≤iQ (aV im.classes (tab,wt,false) j sb lb).1:=
 er hW.nc hW.cls (T:=(tab,false,false)) (j:=(j:Int)) h hz hl
theorem rF (w0:World) (bb b gs gw:Nat) (m:Nat) (c:UInt8) (vl:Value) (ai:Option Addr) (capi:Nat) (tab:List St) (wt:List Bool) (im:Img) (bd:Bod) (a:Nat) (x:Ins) (s l:List UInt8) (w:World) (hW:WfI im) (hbd:WfB im.classes im.sigs bd)
  (hB:Bld w0 w bb b gs gw c (aN im.sigs bd).ans m vl (.slice ai bd.code.length capi) tab wt false) (hvl:vl.oneCell'=true) (hit:ItB w0 0 (.slice ai bd.code.length capi) (bd.code.map aK)) (hTX:dk w0 b im) (hwf:wfT im.classes.length bd.locals.length bd.code.length tab) (htn:tab.length=bd.code.length)
  (hx:bd.code[a]?=some x) (hst:tab[a]?=some (some (s,l))):
  Calls Tryz.prog 107 #[.pointer (some ⟨bb,0,none⟩),.int .i64 a] w fun en w'=>en= .returned (.tuple #[])∧But (fun k=>k=bb∨k=gs∨k=gw) w w'∧
   ∃tab' wt' bad',tab'.length=tab.length∧Bld w0 w' bb b gs gw c (aN im.sigs bd).ans m vl (.slice ai bd.code.length capi) tab' wt' bad'∧bad'=(bO im bd tab wt a x s l).2.2∧(bad'=false→tab'=(bO im bd tab wt a x s l).1∧wt'=(bO im bd tab wt a x s l).2.1):=by
 have ha:=(List.getElem?_eq_some_iff.1 hx).1;have r4:(a:Int)<(bd.code.length:Int):=by omega
 have r5:(a:Int)<(tab.length:Int):=by omega
 have p6:=hbd.len;obtain⟨m3,o6⟩:=hwf.2 a s l hst;have r3:=jP tab;have o1:=hbd.code x (List.mem_of_getElem? hx);obtain⟨a3,c3,a4,c4,t0,t1,t2,p0,o5⟩:=hB.known hst;obtain⟨c0,c6,c7,c8⟩:=hB.cells;obtain⟨d1,d2,d3,d4,d5⟩:=hB.body;have h6:ItB w 0 (.slice ai bd.code.length capi) (bd.code.map aK):=ar hit hB.but (fun _ _ h=>h);have l0:(bd.code.map aK).length=bd.code.length:=by simp
 have j0:(bd.code.map aK)[a]?=some (aK x):=by rw[List.getElem?_map,hx];rfl
 obtain⟨gi,p4,p5,_,i9⟩:=aG (n:=bd.code.length) (by unfold ItB at h6;rw[l0]at h6;exact h6) (by omega);have i0:w.cell? ⟨gi,a*5,none⟩=some (.int .i64 (aK x).place):=i9 _ _ (b6 (k:=0) j0 (by omega));have i1:w.cell? ⟨gi,a*5+1,none⟩=some (.int .u8 (aK x).op.toNat):=i9 _ _ (b6 (k:=1) j0 (by omega));have i2:w.cell? ⟨gi,a*5+2,none⟩=some (.int .u8 (aK x).cls.toNat):=i9 _ _ (b6 (k:=2) j0 (by omega));have i3:w.cell? ⟨gi,a*5+3,none⟩=some (.int .i64 (aK x).num):=i9 _ _ (b6 (k:=3) j0 (by omega));have i4:w.cell? ⟨gi,a*5+4,none⟩=some (.slice (aK x).pa (aK x).pn (aK x).pc):=i9 _ _ (b6 (k:=4) j0 (by omega));subst p4
 clear i9 j0 l0;obtain⟨X,hX⟩: ∃X,aK x=X:=⟨_,rfl⟩;obtain⟨r,hr⟩: ∃r,(aN im.sigs bd).ans=r:=⟨_,rfl⟩;rw[hX]at i0 i1 i2 i3 i4;rw[hr]at hB d3;simp only[hr];have HX:=hid hX;have HR:=hid hr;have g0:=hid (uS hW hbd o1 m3);rw[hX,hr]at g0;clear hX hr
 go_in
 go_wp2_with fail;have f7:But (fun _=>False) w (w.alloc (.cells #[.int .i64 X.place,.int .u8 X.op.toNat,.int .u8 X.cls.toNat,.int .i64 X.num,.slice X.pa X.pn X.pc] 219)):=But.alloc _ _ _;have k9:=heap_alloc_new w (.cells #[.int .i64 X.place,.int .u8 X.op.toNat,.int .u8 X.cls.toNat,.int .i64 X.num,.slice X.pa X.pn X.pc] 219);have g4:=hB.next f7;have n9:=p0.but f7 (fun _ _ h=>h);have n6:=o5.but f7 (fun _ _ h=>h);have n7:=hB.lt;have u0:=f7.kc t0 n7.2.1;have u1:=f7.kc t1 n7.2.1;have u2:=f7.kc t2 n7.2.1;clear i0 i1 i2 i3 i4 t0 t1 t2 c0 c6 c7 c8 d1 d2 d3 d4 d5 p0 o5;revert f7 k9 g4 n9 n6 u0 u1 u2;generalize (w.alloc (.cells #[.int .i64 X.place,.int .u8 X.op.toNat,.int .u8 X.cls.toNat,.int .i64 X.num,.slice X.pa X.pn X.pc] 219))=W
 intro f7 k9 g4 n9 n6 t0 t1 t2;obtain⟨c0,c6,c7,c8⟩:=g4.cells;obtain⟨d1,d2,d3,d4,d5⟩:=g4.body;obtain⟨k0,k1,k2,k3,k4⟩:=bC k9;have h0:=ae k9;have b1:=g4.lt;have n0:But (fun _=>False) W W.drew:=But.drew _ _;have j1:=hid (fun(wx:World) (h:But (fun _=>False) W wx)=>rA b (im.classes.map toX) im.sigs c r m vl (.slice (some ⟨gi,0,none⟩) bd.code.length capi) X a3 a4 c3 c4 s l wx (by rw[List.length_map];have:=hW.nc;omega) (by have:=hW.ns;omega) (hTX.cls.but (g4.but.trans h)) (hTX.met.but (g4.but.trans h)) hvl rfl (n9.but h (fun _ _ h=>h)) (n6.but h (fun _ _ h=>h)) (by omega) (by have:=m3.2.2;have:=hbd.loc.1;omega))
 have l5:Hid (∀(wx:World),But (fun _=>False) W wx→Calls Tryz.prog 174 #[.pointer (some ⟨b,0,none⟩),.agg #[.int .u8 c.toNat,.int .i64 m,.int .u8 r.toNat,vl,.slice (some ⟨gi,0,none⟩) bd.code.length capi],.agg #[.int .i64 X.place,.int .u8 X.op.toNat,.int .u8 X.cls.toNat,.int .i64 X.num,.slice X.pa X.pn X.pc],.agg #[.bool true,.slice a3 s.length c3,.slice a4 l.length c4]] wx fun en w'=>But (fun _=>False) wx w'∧ ∃m0 a1 n1 c1 a2 n2 c2 ok,en= .returned (.tuple #[.agg #[.bool m0,.slice a1 n1 c1,.slice a2 n2 c2],.bool ok])∧
   ((cy im.classes im.sigs bd x s l=none∧ok=false)∨(∃s' l',cy im.classes im.sigs bd x s l=some (s',l')∧ok=true∧m0=true∧n1=List.length s'∧n2=List.length l'∧BtB w' 0 (.slice a1 s'.length c1) s'∧BtB w' 0 (.slice a2 l'.length c2) l'))):=by
  refine hid (fun wx h=>(j1.out wx h).mono ?_);rintro en w' ⟨hb,h1|h1⟩
  ·obtain⟨h2,rfl⟩:=h1;exact⟨hb,false,none,0,0,none,0,0,false,rfl,Or.inl ⟨by rw[←g0.out];exact h2,rfl⟩⟩
  ·obtain⟨s',l',a1,c1,a2,c2,h2,rfl,h3,h4⟩:=h1;exact⟨hb,true,a1,_,c1,a2,_,c2,true,rfl,Or.inr ⟨s',l',by rw[←g0.out];exact h2,rfl,rfl,rfl,rfl,World.ownsRow.mono h3 (Nat.zero_le _),World.ownsRow.mono h4 (Nat.zero_le _)⟩⟩
 clear j1 g0;have o4:=hid k9;have o3:=hid g4;refine az (But (fun _=>False) W) 22 (by kernel_rfl) ?_
 iterate 16 (refine aB (v:=?_) rfl (by kernel_rfl) (fun _ _ _ h=>h) rfl n0 ?_ ?_;rotate_left;(focus (intro wS h;have q0:=(h.kc c0 b1.1);have q1:=(h.kc d1 b1.1);have q2:=(h.kc d2 b1.1);have q3:=(h.kc d3 b1.1);have q4:=(h.kc d4 b1.1);have q5:=(h.kc d5 b1.1);have q6:=(h.kc c6 b1.1);have q7:=(h.kc k0 h0);have q8:=(h.kc k1 h0);have q9:=(h.kc k2 h0);have r6:=(h.kc k3 h0);have s0:=(h.kc k4 h0);have s1:=(h.kc t0 b1.2.1);have s2:=(h.kc t1 b1.2.1);have s3:=(h.kc t2 b1.2.1);clear h;go_simp;try rfl));dsimp only[Act.put];try simp only[aR])
 refine lq (q:=20) (o:= ?oA16) (oq:= ?oqA16) (rest:= ?rsA16) (restq:= ?rqA16) ?hoA16 ?hqA16 ?hrA16 ?stA16 ?sqA16
 case hoA16=>rfl
 case hqA16=>rfl
 case hrA16=>kernel_rfl
 case' stA16=>
  intro KS hKS;go_simp;refine(l5.out W.drew n0).mono ?_;rintro en w1 ⟨i5,m0,a1,n1,c1,a2,n2,c2,ok,rfl,j5⟩;have a8:But (fun _=>False) W w1:=n0.trans i5;refine hKS.out _ _ (fun _=>a8) ?_;clear hKS KS
  iterate 3 (refine aB (v:=?_) rfl (by kernel_rfl) (fun _ _ _ h=>h) rfl a8 ?_ ?_;rotate_left;(focus (intro wS h;clear h;go_simp;try rfl));dsimp only[Act.put];try simp only[aR])
  refine ag rfl (by kernel_rfl) ?_;intro KS hKS;go_simp;refine hKS.out _ _ (fun _=>a8.trans (But.alloc _ _ _)) ?_;clear hKS KS;refine ag rfl (by kernel_rfl) ?_;intro KS hKS;go_simp;refine hKS.out _ _ (fun _=>a8.trans (But.alloc _ _ _)) ?_;clear hKS KS;refine ag rfl (by kernel_rfl) ?_;intro KS hKS;go_simp;refine hKS.out _ _ nofun ?_;clear hKS KS;refine aD rfl (by kernel_rfl) ?_;have m1:But (fun _=>False) w1 (w1.alloc (.cells #[.bool m0,.slice a1 n1 c1,.slice a2 n2 c2] 117)):=But.alloc _ _ _;have e8:But (fun _=>False) W (w1.alloc (.cells #[.bool m0,.slice a1 n1 c1,.slice a2 n2 c2] 117)):=a8.trans m1
  have f0:(w1.alloc (.cells #[.bool m0,.slice a1 n1 c1,.slice a2 n2 c2] 117)).heap[w1.heap.size]?=some (.cells #[.bool m0,.slice a1 n1 c1,.slice a2 n2 c2] 117):=heap_alloc_new _ _;have i7:W.heap.size≤w1.heap.size:=a8.size
  have f2:Hid ((cy im.classes im.sigs bd x s l=none∧ok=false)∨(∃s' l',cy im.classes im.sigs bd x s l=some (s',l')∧ok=true∧m0=true∧n1=List.length s'∧n2=List.length l'∧BtB (w1.alloc (.cells #[.bool m0,.slice a1 n1 c1,.slice a2 n2 c2] 117)) 0 (.slice a1 s'.length c1) s'∧BtB (w1.alloc (.cells #[.bool m0,.slice a1 n1 c1,.slice a2 n2 c2] 117)) 0 (.slice a2 l'.length c2) l')):=by
   rcases j5 with h| ⟨s',l',e1,e2,e3,e4,e5,e6,e7⟩
   ·exact hid (Or.inl h)
   ·exact hid (Or.inr ⟨s',l',e1,e2,e3,e4,e5,e6.but m1 (fun _ _ h=>h),e7.but m1 (fun _ _ h=>h)⟩)
  revert e8 f0 i7 f2;clear i5 a8 j5 m1;generalize (w1.alloc (.cells #[.bool m0,.slice a1 n1 c1,.slice a2 n2 c2] 117))=w2;generalize w1.heap.size=bm;intro e8 f0 i7 f2;clear w1
 case' sqA16=>
  intro KS hKS;go_simp;have i6:But (fun _=>False) W (W.alloc (.cells #[.bool false,.slice none 0 0,.slice none 0 0] 117)).drew:=(But.alloc _ _ _).trans (But.drew _ _);have m2:(W.alloc (.cells #[.bool false,.slice none 0 0,.slice none 0 0] 117)).drew.heap[W.heap.size]?=some (.cells #[.bool false,.slice none 0 0,.slice none 0 0] 117):=heap_alloc_new _ _;revert i6 m2;generalize (W.alloc (.cells #[.bool false,.slice none 0 0,.slice none 0 0] 117)).drew=Wd;have i7:W.heap.size≤W.heap.size:=Nat.le_refl _;revert i7;generalize j3:W.heap.size=bm;intro i7 i6 m2;have i7:W.heap.size≤bm:=by omega
  have p1:=hid j3;clear j3;refine hKS.out _ _ (fun _=>i6) ?_;clear hKS KS;refine lr rfl (by kernel_rfl) (by kernel_rfl) ?_;intro KS hKS;go_simp;refine(l5.out Wd i6).mono ?_;rintro en w1 ⟨i5,m0,a1,n1,c1,a2,n2,c2,ok,rfl,j5⟩;have a8:But (fun _=>False) W w1:=i6.trans i5;have e0:w1.heap[bm]?=some (.cells #[.bool false,.slice none 0 0,.slice none 0 0] 117):=i5.kp m2;refine hKS.out _ _ (fun _=>a8) ?_;clear hKS KS
  iterate 3 (refine lu (v:=?_) rfl (by kernel_rfl) (fun _ _ _ h=>h) rfl a8 ?_ ?_;rotate_left;(focus (intro wS h;clear h;go_simp;try rfl));dsimp only[Act.put];try simp only[aR])
  refine lw ?_;obtain⟨r0,r1,r2⟩:=eu e0;obtain⟨z0,z1,z2⟩:=ji e0;have rlt:=ae e0;have f4:=ew w1 bm (.bool m0) (.slice a1 n1 c1) (.slice a2 n2 c2);have f0:=dO e0 (.bool m0) (.slice a1 n1 c1) (.slice a2 n2 c2);unfold mD at f4 f0;have e8:But (fun _=>False) W (((w1.setCell ⟨bm,0,none⟩ (.bool m0)).setCell ⟨bm,1,none⟩ (.slice a1 n1 c1)).setCell ⟨bm,2,none⟩ (.slice a2 n2 c2)):=a8.next f4 (fun k hk e=>by omega)
  have o0: ∀k cur,w1.heap[k]?=some (.cells cur 5)→ ¬k=bm:=fun k cur hk e=>by
   rw[e,e0]at hk;injection hk with hk;injection hk with _ h2;exact absurd h2 (by decide)
  have f2:Hid ((cy im.classes im.sigs bd x s l=none∧ok=false)∨(∃s' l',cy im.classes im.sigs bd x s l=some (s',l')∧ok=true∧m0=true∧n1=List.length s'∧n2=List.length l'∧BtB (((w1.setCell ⟨bm,0,none⟩ (.bool m0)).setCell ⟨bm,1,none⟩ (.slice a1 n1 c1)).setCell ⟨bm,2,none⟩ (.slice a2 n2 c2)) 0 (.slice a1 s'.length c1) s'∧BtB (((w1.setCell ⟨bm,0,none⟩ (.bool m0)).setCell ⟨bm,1,none⟩ (.slice a1 n1 c1)).setCell ⟨bm,2,none⟩ (.slice a2 n2 c2)) 0 (.slice a2 l'.length c2) l')):=by
   rcases j5 with h| ⟨s',l',e1,e2,e3,e4,e5,e6,e7⟩
   ·exact hid (Or.inl h)
   ·exact hid (Or.inr ⟨s',l',e1,e2,e3,e4,e5,bj e6 f4 (fun k cur hh _=>o0 k cur hh),bj e7 f4 (fun k cur hh _=>o0 k cur hh)⟩)
  refine ag rfl (by kernel_rfl) ?_;intro KS hKS;go_simp;refine hKS.out _ _ (fun _=>e8) ?_;clear hKS KS;refine ag rfl (by kernel_rfl) ?_;intro KS hKS;go_simp;refine hKS.out _ _ nofun ?_;clear hKS KS;refine aD rfl (by kernel_rfl) ?_;revert e8 f0 f2;clear i6 m2 e0 r0 r1 r2 z0 z1 z2 rlt i5 a8 f4 j5 o0;generalize (((w1.setCell ⟨bm,0,none⟩ (.bool m0)).setCell ⟨bm,1,none⟩ (.slice a1 n1 c1)).setCell ⟨bm,2,none⟩ (.slice a2 n2 c2))=w2;intro f0 e8 f2;clear w1 Wd p1
 ·clear c0 c6 c7 c8 d1 d2 d3 d4 d5 k0 k1 k2 k3 k4 t0 t1 t2;have a0:=o3.out.next e8;have a9:But (fun k=>k=bb∨k=gs∨k=gw) w w2:=(f7.trans e8).mono (fun _ _ h=>h.elim);have j7:=(e8.block w.heap.size h0 (fun h=>h)).trans o4.out;have n4:=ae j7;obtain⟨k0,k1,k2,k3,k4⟩:=bC j7;obtain⟨m0c,m1c,m2c⟩:=eu f0;have g7:=ae f0;obtain⟨c0,c6,c7,c8⟩:=a0.cells;have f8:=a0.fz 8;clear l5;rcases f2.out with⟨he,rfl⟩ | ⟨s',l',he,rfl,rfl,rfl,rfl,g3,g1⟩
  ·have f5:bO im bd tab wt a x s l=(tab,wt,true):=by unfold bO;rw[he]
   have b0:=hid f5;clear f5 he f2;go_wp2_with fail;exact eo Tryz.results107 rfl ⟨rfl,a9.trans ((But.setB _ _ _ _).mono (fun k _ h=>Or.inl h)),tab,wt,true,rfl,a0.fail,by rw[b0.out],fun h=>by cases h⟩
  ·have f5:bO im bd tab wt a x s l=b7 im.classes s' l' (tab,wt,false) (gV x a):=by unfold bO;rw[he]
   have b0:=hid f5;have h8:=iS hW o1 m3 he;have p2:=hid he;clear f5 he f2;have a6:X.op=x.op:=by rw[←HX.out];rfl
   have b9:X.num=x.b:=by rw[←HX.out];rfl
   have l3:=h8.1;have h9:s'.length≤101:=by have:=h8.2;omega
   have hs'N:s'.length≤iQ tab:=by have:=h8.2;omega
   have b3:wfT im.classes.length bd.locals.length tab.length tab:=by rw[htn];exact hwf
   have h7:=hbd.loc.1;have f3:=hid (fun(jj:Nat) (tb:List St) (wtt:List Bool) (bd2:Bool) (wx:World) (h1:Bld w0 wx bb b gs gw c r m vl (.slice (some ⟨gi,0,none⟩) bd.code.length capi) tb wtt bd2) (h2:wfT im.classes.length bd.locals.length tb.length tb) (h3:tb.length≤100) (h4:BtB wx 0 (.slice a1 s'.length c1) s') (h5:BtB wx 0 (.slice a2 l'.length c2) l')=>kA w0 bb b gs gw c r m vl _ tb wtt bd2 im bd.locals.length jj a1 a2 c1 c2 s' l' wx hW h7 h3 h1 hTX.cls h2 l3 h9 h4 h5);unfold xsV at f3;have g6: ∀jj,(aV im.classes (tab,wt,false) jj s' l').1.length=tab.length:=fun jj=>jQ _ _ _ _ _
   have m5:=fun jj=>pb hW (n:=tab.length) (wt:=wt) (j:=jj) b3 l3 hs'N
   by_cases h116:X.op.toNat=116
   ·have e1:((X.op.toNat:Int)==116)=true:=by rw[beq_iff_eq];omega
    have ht:gV x a=[]:=by unfold gV;rw[if_pos (by rw[←a6];exact h116)]
    have a7:=hid (show bO im bd tab wt a x s l=(tab,wt,false) by rw[b0.out,ht];rfl);clear b0 ht a6 b9 h116;go_wp2_with fail;go_end0;exact⟨rfl,a9,tab,wt,false,rfl,a0,by rw[a7.out],fun _=>by rw[a7.out];exact⟨rfl,rfl⟩⟩
   have e1:=tf X.op.toNat 116 (by omega)
   by_cases h106:X.op.toNat=106
   ·have e2:((X.op.toNat:Int)==106)=true:=by rw[beq_iff_eq];omega
    have ht:gV x a=[X.num]:=by unfold gV;rw[if_neg (by rw[←a6];exact h116),if_pos (by rw[←a6];exact h106),b9]
    have a7:=hid (show bO im bd tab wt a x s l=aV im.classes (tab,wt,false) X.num s' l' by rw[b0.out,ht];rfl);clear b0 ht a6 b9 h116 h106;go_wp2_with fail;refine(f3.out X.num tab wt false w2 a0 b3 (by omega) g3 g1).mono ?_;rintro en w3 ⟨rfl,b4,a5⟩;go_wp2_with fail;go_end0;exact⟨rfl,a9.trans b4,_,_,_,g6 _,a5,by rw[a7.out];simp,fun _=>by rw[a7.out];exact⟨rfl,rfl⟩⟩
   have e2:=tf X.op.toNat 106 (by omega);have p3:IntKind.i64.wrap ((a:Int)+1)=((a+1:Nat):Int):=by rw[bH _ (by omega) (by omega)];simp
   by_cases h102:X.op.toNat=102
   ·have e3:((X.op.toNat:Int)==102)=true:=by rw[beq_iff_eq];omega
    have ht:gV x a=[X.num,a+1]:=by unfold gV;rw[if_neg (by rw[←a6];exact h116),if_neg (by rw[←a6];exact h106),if_pos (by rw[←a6];exact h102),b9]
    have a7:=hid (show bO im bd tab wt a x s l=aV im.classes (aV im.classes (tab,wt,false) X.num s' l') (a+1) s' l' by rw[b0.out,ht];rfl);have b5:=m5 X.num;have b2:=g6 X.num;clear b0 ht a6 b9 h116 h106 h102;go_wp2_with fail;refine(f3.out X.num tab wt false w2 a0 b3 (by omega) g3 g1).mono ?_;rintro en w3 ⟨rfl,b4,a5⟩;have n8:BtB w3 0 (.slice a1 s'.length c1) s':=bj g3 b4 (fun k cur hh _=>a0.u8 hh);have n5:BtB w3 0 (.slice a2 l'.length c2) l':=bj g1 b4 (fun k cur hh _=>a0.u8 hh);have n3: ¬(bm=bb∨bm=gs∨bm=gw):=by omega
    have f6:=(b4.block bm g7 n3).trans f0;obtain⟨W1,j2⟩: ∃W1,aV im.classes (tab,wt,false) X.num s' l'=W1:=⟨_,rfl⟩;rw[j2]at a5 b5 b2 a7;obtain⟨l4,o2,f1⟩:=W1;dsimp only at a5 b5 b2;simp only[Bool.false_or]at a5;clear j2 m0c m1c m2c k0 k1 k2 k3 c0 c6 c7 c8 f8;obtain⟨m0c,m1c,m2c⟩:=eu f6;have j4:=ae f6;go_wp2_with fail;have g2:=f3.out (a+1) l4 o2 f1 w3 a5 (by rw[b2];exact b5.1) (by omega) n8 n5;refine Calls.mono g2 ?_;rintro en w4 ⟨rfl,m4,g5⟩;clear g2;go_wp2_with fail;go_end0;refine⟨rfl,(a9.trans b4).trans m4,_,_,_,(jQ im.classes (l4,false,false) ((a+1:Nat):Int) s' l').trans b2,g5,?_,?_⟩
    ·rw[a7.out]
     cases f1 with
     |true=>simp only[Bool.true_or];exact(kr rfl).symm
     |false=>simp
    ·intro hf
     cases f1 with
     |true=>simp at hf
     |false=>rw[a7.out];exact⟨rfl,rfl⟩
   have e3:=tf X.op.toNat 102 (by omega);have ht:gV x a=[a+1]:=by unfold gV;rw[if_neg (by rw[←a6];exact h116),if_neg (by rw[←a6];exact h106),if_neg (by rw[←a6];exact h102)]
   have a7:=hid (show bO im bd tab wt a x s l=aV im.classes (tab,wt,false) (a+1) s' l' by rw[b0.out,ht];rfl);clear b0 ht a6 b9 h116 h106 h102;go_wp2_with fail;have g2:=f3.out (a+1) tab wt false w2 a0 b3 (by omega) g3 g1;refine Calls.mono g2 ?_;rintro en w3 ⟨rfl,b4,a5⟩;go_wp2_with fail;go_end0;exact⟨rfl,a9.trans b4,_,_,_,g6 _,a5,by rw[a7.out];simp,fun _=>by rw[a7.out];exact⟨rfl,rfl⟩⟩
 ·clear c0 c6 c7 c8 d1 d2 d3 d4 d5 k0 k1 k2 k3 k4 t0 t1 t2;have a0:=o3.out.next e8;have a9:But (fun k=>k=bb∨k=gs∨k=gw) w w2:=(f7.trans e8).mono (fun _ _ h=>h.elim);have j7:=(e8.block w.heap.size h0 (fun h=>h)).trans o4.out;have n4:=ae j7;obtain⟨k0,k1,k2,k3,k4⟩:=bC j7;obtain⟨m0c,m1c,m2c⟩:=eu f0;have g7:=ae f0;obtain⟨c0,c6,c7,c8⟩:=a0.cells;have f8:=a0.fz 8;clear l5;rcases f2.out with⟨he,rfl⟩ | ⟨s',l',he,rfl,rfl,rfl,rfl,g3,g1⟩
  ·have f5:bO im bd tab wt a x s l=(tab,wt,true):=by unfold bO;rw[he]
   have b0:=hid f5;clear f5 he f2;go_wp2_with fail;exact eo Tryz.results107 rfl ⟨rfl,a9.trans ((But.setB _ _ _ _).mono (fun k _ h=>Or.inl h)),tab,wt,true,rfl,a0.fail,by rw[b0.out],fun h=>by cases h⟩
  ·have f5:bO im bd tab wt a x s l=b7 im.classes s' l' (tab,wt,false) (gV x a):=by unfold bO;rw[he]
   have b0:=hid f5;have h8:=iS hW o1 m3 he;have p2:=hid he;clear f5 he f2;have a6:X.op=x.op:=by rw[←HX.out];rfl
   have b9:X.num=x.b:=by rw[←HX.out];rfl
   have l3:=h8.1;have h9:s'.length≤101:=by have:=h8.2;omega
   have hs'N:s'.length≤iQ tab:=by have:=h8.2;omega
   have b3:wfT im.classes.length bd.locals.length tab.length tab:=by rw[htn];exact hwf
   have h7:=hbd.loc.1;have f3:=hid (fun(jj:Nat) (tb:List St) (wtt:List Bool) (bd2:Bool) (wx:World) (h1:Bld w0 wx bb b gs gw c r m vl (.slice (some ⟨gi,0,none⟩) bd.code.length capi) tb wtt bd2) (h2:wfT im.classes.length bd.locals.length tb.length tb) (h3:tb.length≤100) (h4:BtB wx 0 (.slice a1 s'.length c1) s') (h5:BtB wx 0 (.slice a2 l'.length c2) l')=>kA w0 bb b gs gw c r m vl _ tb wtt bd2 im bd.locals.length jj a1 a2 c1 c2 s' l' wx hW h7 h3 h1 hTX.cls h2 l3 h9 h4 h5);unfold xsV at f3;have g6: ∀jj,(aV im.classes (tab,wt,false) jj s' l').1.length=tab.length:=fun jj=>jQ _ _ _ _ _
   have m5:=fun jj=>pb hW (n:=tab.length) (wt:=wt) (j:=jj) b3 l3 hs'N
   by_cases h116:X.op.toNat=116
   ·have e1:((X.op.toNat:Int)==116)=true:=by rw[beq_iff_eq];omega
    have ht:gV x a=[]:=by unfold gV;rw[if_pos (by rw[←a6];exact h116)]
    have a7:=hid (show bO im bd tab wt a x s l=(tab,wt,false) by rw[b0.out,ht];rfl);clear b0 ht a6 b9 h116;go_wp2_with fail;go_end0;exact⟨rfl,a9,tab,wt,false,rfl,a0,by rw[a7.out],fun _=>by rw[a7.out];exact⟨rfl,rfl⟩⟩
   have e1:=tf X.op.toNat 116 (by omega)
   by_cases h106:X.op.toNat=106
   ·have e2:((X.op.toNat:Int)==106)=true:=by rw[beq_iff_eq];omega
    have ht:gV x a=[X.num]:=by unfold gV;rw[if_neg (by rw[←a6];exact h116),if_pos (by rw[←a6];exact h106),b9]
    have a7:=hid (show bO im bd tab wt a x s l=aV im.classes (tab,wt,false) X.num s' l' by rw[b0.out,ht];rfl);clear b0 ht a6 b9 h116 h106;go_wp2_with fail;refine(f3.out X.num tab wt false w2 a0 b3 (by omega) g3 g1).mono ?_;rintro en w3 ⟨rfl,b4,a5⟩;go_wp2_with fail;go_end0;exact⟨rfl,a9.trans b4,_,_,_,g6 _,a5,by rw[a7.out];simp,fun _=>by rw[a7.out];exact⟨rfl,rfl⟩⟩
   have e2:=tf X.op.toNat 106 (by omega);have p3:IntKind.i64.wrap ((a:Int)+1)=((a+1:Nat):Int):=by rw[bH _ (by omega) (by omega)];simp
   by_cases h102:X.op.toNat=102
   ·have e3:((X.op.toNat:Int)==102)=true:=by rw[beq_iff_eq];omega
    have ht:gV x a=[X.num,a+1]:=by unfold gV;rw[if_neg (by rw[←a6];exact h116),if_neg (by rw[←a6];exact h106),if_pos (by rw[←a6];exact h102),b9]
    have a7:=hid (show bO im bd tab wt a x s l=aV im.classes (aV im.classes (tab,wt,false) X.num s' l') (a+1) s' l' by rw[b0.out,ht];rfl);have b5:=m5 X.num;have b2:=g6 X.num;clear b0 ht a6 b9 h116 h106 h102;go_wp2_with fail;refine(f3.out X.num tab wt false w2 a0 b3 (by omega) g3 g1).mono ?_;rintro en w3 ⟨rfl,b4,a5⟩;have n8:BtB w3 0 (.slice a1 s'.length c1) s':=bj g3 b4 (fun k cur hh _=>a0.u8 hh);have n5:BtB w3 0 (.slice a2 l'.length c2) l':=bj g1 b4 (fun k cur hh _=>a0.u8 hh);have n3: ¬(bm=bb∨bm=gs∨bm=gw):=by omega
    have f6:=(b4.block bm g7 n3).trans f0;obtain⟨W1,j2⟩: ∃W1,aV im.classes (tab,wt,false) X.num s' l'=W1:=⟨_,rfl⟩;rw[j2]at a5 b5 b2 a7;obtain⟨l4,o2,f1⟩:=W1;dsimp only at a5 b5 b2;simp only[Bool.false_or]at a5;clear j2 m0c m1c m2c k0 k1 k2 k3 c0 c6 c7 c8 f8;obtain⟨m0c,m1c,m2c⟩:=eu f6;have j4:=ae f6;go_wp2_with fail;have g2:=f3.out (a+1) l4 o2 f1 w3 a5 (by rw[b2];exact b5.1) (by omega) n8 n5;refine Calls.mono g2 ?_;rintro en w4 ⟨rfl,m4,g5⟩;clear g2;go_wp2_with fail;go_end0;refine⟨rfl,(a9.trans b4).trans m4,_,_,_,(jQ im.classes (l4,false,false) ((a+1:Nat):Int) s' l').trans b2,g5,?_,?_⟩
    ·rw[a7.out]
     cases f1 with
     |true=>simp only[Bool.true_or];exact(kr rfl).symm
     |false=>simp
    ·intro hf
     cases f1 with
     |true=>simp at hf
     |false=>rw[a7.out];exact⟨rfl,rfl⟩
   have e3:=tf X.op.toNat 102 (by omega);have ht:gV x a=[a+1]:=by unfold gV;rw[if_neg (by rw[←a6];exact h116),if_neg (by rw[←a6];exact h106),if_neg (by rw[←a6];exact h102)]
   have a7:=hid (show bO im bd tab wt a x s l=aV im.classes (tab,wt,false) (a+1) s' l' by rw[b0.out,ht];rfl);clear b0 ht a6 b9 h116 h106 h102;go_wp2_with fail;have g2:=f3.out (a+1) tab wt false w2 a0 b3 (by omega) g3 g1;refine Calls.mono g2 ?_;rintro en w3 ⟨rfl,b4,a5⟩;go_wp2_with fail;go_end0;exact⟨rfl,a9.trans b4,_,_,_,g6 _,a5,by rw[a7.out];simp,fun _=>by rw[a7.out];exact⟨rfl,rfl⟩⟩
theorem mf {l:List Bool}: ∀(f k:Nat),k+f=l.length→(iZ l f k= -1∧ ∀j,k≤j→j<l.length→l.getD j false=false)∨ ∃j:Nat,iZ l f k=j∧j<l.length∧l.getD j false=true:=by
 intro f
 induction f with
 |zero=>intro k hk;exact Or.inl ⟨rfl,fun j h1 h2=>by omega⟩
 |succ f ih=>
  intro k hk;simp only[iZ]
  by_cases h:l.getD k false=true
  ·exact Or.inr ⟨k,by rw[if_pos h],by omega,h⟩
  ·rw[if_neg h];rcases ih (k+1) (by omega)with⟨h1,h2⟩ |h1
   ·refine Or.inl ⟨h1,fun j h3 h4=> ?_⟩
    by_cases hj:j=k
    ·subst hj;simpa using h
    ·exact h2 j (by omega) h4
   ·exact Or.inr h1
def KnW (tab:List St) (wt:List Bool):Prop:= ∀k,wt.getD k false=true→ ∃s l,tab[k]?=some (some (s,l))
theorem mh {cs:List Cls} {T:Tn} {j k:Nat} {sb lb s l:List UInt8} (h:T.1[k]?=some (some (s,l))): ∃s' l',(bc cs T j sb lb).1[k]?=some (some (s',l')):=by
 unfold bc
 split
 ·exact⟨s,l,h⟩
 split
 ·exact⟨s,l,h⟩
 split
 ·exact⟨s,l,h⟩
 rename_i m hm
 split
 ·exact⟨s,l,h⟩
 simp only
 by_cases hjk:(j:Int).toNat=k
 ·have hk:=(List.getElem?_eq_some_iff.1 h).1;rw[hjk,List.getElem?_set_self hk];exact⟨m.1,m.2,rfl⟩
 ·rw[List.getElem?_set_ne hjk];exact⟨s,l,h⟩
theorem uT {cs:List Cls} {W:Wn} {j:Nat} {sb lb:List UInt8} (h:KnW W.1 W.2.1):KnW (aV cs W j sb lb).1 (aV cs W j sb lb).2.1:=by
 intro k hk;unfold aV at hk⊢;simp only at hk⊢
 by_cases hc:(bc cs (W.1,false,W.2.2) j sb lb).2.1=true
 ·rw[if_pos hc]at hk
  by_cases hjk:j=k
  ·subst hjk;unfold bc at hc⊢
   split at hc
   ·cases hc
   split at hc
   ·cases hc
   split at hc
   ·cases hc
   rename_i m hm
   split at hc
   ·cases hc
   rename_i h1 h2 _ _
   rw[if_neg h1,if_neg h2];simp only[hm]
   rename_i h4
   rw[if_neg h4];simp only;rw[Int.toNat_natCast,List.getElem?_set_self (by simp at h2;omega)];exact⟨m.1,m.2,rfl⟩
  ·have a0:W.2.1.getD k false=true:=by simpa[List.getD,List.getElem?_set,hjk]using hk
   obtain⟨s,l,h1⟩:=h k a0;exact mh (T:=(W.1,false,W.2.2)) h1
 ·rw[if_neg hc]at hk;obtain⟨s,l,h1⟩:=h k hk;exact mh (T:=(W.1,false,W.2.2)) h1
theorem rG {cs:List Cls} {sb lb:List UInt8}: ∀{l:List Nat} {W:Wn},KnW W.1 W.2.1→KnW (b7 cs sb lb W l).1 (b7 cs sb lb W l).2.1:=by
 intro l
 induction l with
 |nil=>intro W h;exact h
 |cons j l ih=>intro W h;exact ih (W:=aV cs W j sb lb) (uT h)
theorem ti {im:Img} {bd:Bod} {tab:List St} {wt:List Bool} {a:Nat} {x:Ins} {s l:List UInt8} (h:KnW tab wt):KnW (bO im bd tab wt a x s l).1 (bO im bd tab wt a x s l).2.1:=by
 unfold bO
 split
 ·exact h
 ·exact rG (W:=(tab,wt,false)) h
theorem KnW.unset {tab:List St} {wt:List Bool} (h:KnW tab wt) (a:Nat):KnW tab (wt.set a false):=by
 intro k hk
 by_cases hak:a=k
 ·subst hak
  have h0:(wt.set a false).getD a false=false:=by
   by_cases h:a<wt.length<;>simp[List.getD,h]
  rw[h0]at hk
  cases hk
 ·exact h k (by simpa[List.getD,List.getElem?_set,hak]using hk)
theorem uU {im:Img} {bd:Bod} {tab:List St} {wt:List Bool} {a:Nat} {x:Ins} {s l:List UInt8}:bO im bd tab (wt.set a false) a x s l=fy im bd (tab,wt,false) a x s l:=by
 unfold bO fy
 cases cy im.classes im.sigs bd x s l<;>rfl
def k6 (im:Img) (bd:Bod) (tab:List St) (wt:List Bool) (bad:Bool) (mm:Nat):Prop:=
 (bad=false∧mQ im bd (fun _=>False) (tab,wt,false)∧t7 im bd (tab,wt,false)∧KnW tab wt∧muW (tab,wt,false)≤mm)∨(bad=true∧cG im bd=none)
theorem k6.start {im:Img} {bd:Bod} (hbd:WfB im.classes im.sigs bd):k6 im bd ((List.replicate bd.code.length (none:St)).set 0 (some ([],bd.locals))) ((List.replicate bd.code.length false).set 0 true) false (muW (bP bd,(List.replicate bd.code.length false).set 0 true,false)):=by
 have hn:=hbd.len.1
 have a1: ∀k s l,(bP bd)[k]?=some (some (s,l))→k=0:=by
  intro k s l h
  by_cases hk:k=0
  ·exact hk
  ·unfold bP at h;rw[List.getElem?_set_ne (fun e=>hk e.symm),List.getElem?_replicate]at h
   split at h<;>simp at h
 refine Or.inl ⟨rfl,⟨eI hbd,by simp,dr _,fun _ k hk _ hw=> ?_⟩,fun H hG=>⟨rfl,jr hG⟩,fun k hk=> ?_,Nat.le_refl _⟩
 ·intro x s l _ h;have:=a1 k s l h;subst this;simp[List.getD,hn]at hw
 ·by_cases h0:k=0
  ·subst h0;exact⟨[],bd.locals,by rw[List.getElem?_set_self (by simpa using hn)]⟩
  ·exfalso
   have a0: ¬0=k:=fun e=>h0 e.symm
   simp only[List.getD,List.getElem?_set_ne a0,List.getElem?_replicate]at hk
   split at hk<;>simp at hk
theorem k6.next {im:Img} {bd:Bod} (hW:WfI im) (hbd:WfB im.classes im.sigs bd) {tab:List St} {wt:List Bool} {mm a:Nat} (h:k6 im bd tab wt false mm) (ha:wt.getD a false=true):
  ∃x s l,bd.code[a]?=some x∧tab[a]?=some (some (s,l))∧wfT im.classes.length bd.locals.length bd.code.length tab∧ ∀tab' wt' bad',bad'=(bO im bd tab (wt.set a false) a x s l).2.2→(bad'=false→tab'=(bO im bd tab (wt.set a false) a x s l).1∧wt'=(bO im bd tab (wt.set a false) a x s l).2.1)→ ∃m',m'<mm∧k6 im bd tab' wt' bad' m':=by
 rcases h with⟨_,hI,hL,hK,a6⟩ | ⟨h,_⟩
 ·obtain⟨s,l,hs⟩:=hK a ha;have a5:=(List.getElem?_eq_some_iff.1 hs).1;have a7:tab.length=bd.code.length:=hI.wf.1;obtain⟨x,hx⟩: ∃x,bd.code[a]?=some x:=⟨_,List.getElem?_eq_getElem (by omega)⟩;refine⟨x,s,l,hx,hs,hI.wf,?_⟩;intro tab' wt' bad' hb ht;have a1:=ti (im:=im) (bd:=bd) (a:=a) (x:=x) (s:=s) (l:=l) (hK.unset a);rw[uU]at hb ht a1;have a0:=qN hW.cls hL hx hs
  cases hbb:(fy im bd (tab,wt,false) a x s l).2.2 with
  |true=>
   rw[hbb]at hb
   have a4:0<muW (tab,wt,false):=by
    have:=jd ha;unfold muW;simp only;omega
   exact⟨0,by omega,Or.inr ⟨hb,a0.none hW hbd hbb⟩⟩
  |false=>
   rw[hbb]at hb;obtain⟨e1,e2⟩:=ht hb;obtain⟨a3,a2⟩:=qO hW hbd rfl hI ha hx hs hbb
   have eW:fy im bd (tab,wt,false) a x s l=(tab',wt',false):=by
    rw[e1,e2];exact Prod.ext rfl (Prod.ext rfl hbb)
   rw[eW]at a3 a0 a2 a1;exact⟨muW (tab',wt',false),by omega,Or.inl ⟨hb,a3,a0,a1,Nat.le_refl _⟩⟩
 ·cases h
theorem k6.done {im:Img} {bd:Bod} (hW:WfI im) (hbd:WfB im.classes im.sigs bd) {tab:List St} {wt:List Bool} {mm:Nat} (h:k6 im bd tab wt false mm) (hn: ∀k,k<wt.length→wt.getD k false=false):cG im bd=some tab:=by
 rcases h with⟨_,hI,hL,hK,a0⟩ | ⟨h,_⟩
 ·exact mQ.done hW hbd rfl hI hL (fun k hk=>hn k (by have:=hI.wl;simp only at this;omega))
 ·cases h
theorem rH:(Tryz.prog.info? 117).map (fun i=>(i.zero,i.size,i.bytes))=some (some (.agg #[.bool false,.slice none 0 0,.slice none 0 0]),3,56):=by kernel_rfl
theorem nK:(Tryz.prog.info? 4).map (fun i=>(i.zero,i.size,i.bytes))=some (some (.bool false),1,1):=by kernel_rfl
def mE:St×Value×Value:=(none,.slice none 0 0,.slice none 0 0)
theorem uV (n:Nat):madeCells #[.bool false,.slice none 0 0,.slice none 0 0] (n*3)=(ei (List.replicate n mE)).toArray:=by
 apply Array.ext
 ·rw[size_madeCells];simp[rD]
 ·intro k h1 h2;rw[size_madeCells]at h1;have hk:k=(k / 3)*3+k % 3:=by omega
  have hl:(List.replicate n mE)[k / 3]?=some mE:=by
   rw[List.getElem?_replicate,if_pos (by omega)]
  have:=du (k:=k % 3) hl (by omega);rw[←hk]at this;have h3:(ei (List.replicate n mE)).toArray[k]?=some ((ei (List.replicate n mE)).toArray[k]):=by rw[Array.getElem?_eq_getElem h2]
  rw[List.getElem?_toArray,this]at h3
  have h4:(madeCells #[.bool false,.slice none 0 0,.slice none 0 0] (n*3))[k]'(by rw[size_madeCells];exact h1)=#[Value.bool false,.slice none 0 0,.slice none 0 0][k % 3]!:=by
   simp[madeCells]
  rw[h4];generalize k % 3=r at h3
  match r with
  |0=>simp[stC,mE]at h3;exact h3
  |1=>simp[stC,mE]at h3;exact h3
  |2=>simp[stC,mE]at h3;exact h3
  |r+3=>simp[stC,mE]at h3
theorem rI (n:Nat):madeCells #[.bool false] n=((List.replicate n false).map Value.bool).toArray:=by
 apply Array.ext
 ·rw[size_madeCells];simp
 ·intro k h1 h2;have e:k % 1=0:=by omega
  simp[madeCells,e]
def fQ (n:Nat):Array Value:=((List.replicate n false).map Value.bool).toArray
def ex (n:Nat):Array Value:=(ei (List.replicate n mE)).toArray
theorem xi (n:Nat) (hn:n≤1000) (w:World):(Instr.makeSlice 179 (.int .i64 (n:Int)) (.int .i64 (n:Int))).run Tryz.prog w= .ok (.slice (some ⟨w.heap.size,0,none⟩) n n) (w.alloc (.cells (fQ n) 4)):=by
 have a0:=nK
 cases hi:Tryz.prog.info? 4 with
 |none=>rw[hi]at a0;cases a0
 |some i=>
  rw[hi]at a0;simp only[Option.map_some,Option.some.injEq,Prod.mk.injEq]at a0;obtain⟨hz,hs,hb⟩:=a0;have:=run_make (P:=Tryz.prog) w 179 4 i _ (by kernel_rfl) hi hz .i64 .i64 n n (by omega) (by omega) (by rw[hb];omega) (by omega);rw[this,hs];simp only[Int.toNat_natCast,Value.cells,Nat.mul_one];rw[rI]
  rfl
theorem uW (n:Nat) (hn:n≤1000) (w:World):(Instr.makeSlice 63 (.int .i64 (n:Int)) (.int .i64 (n:Int))).run Tryz.prog w= .ok (.slice (some ⟨w.heap.size,0,none⟩) n n) (w.alloc (.cells (ex n) 117)):=by
 have a0:=rH
 cases hi:Tryz.prog.info? 117 with
 |none=>rw[hi]at a0;cases a0
 |some i=>
  rw[hi]at a0;simp only[Option.map_some,Option.some.injEq,Prod.mk.injEq]at a0;obtain⟨hz,hs,hb⟩:=a0;have:=run_make (P:=Tryz.prog) w 63 117 i _ (by kernel_rfl) hi hz .i64 .i64 n n (by omega) (by omega) (by rw[hb];omega) (by omega);rw[this,hs];simp only[Int.toNat_natCast,Value.cells];rw[uV]
  rfl
def xj (w:World) (g:Nat) (x0 x1 x2 x3 x4 x5 x6 x7 x8:Value):World:=((((((((w.setCell ⟨g,0,none⟩ x0).setCell ⟨g,1,none⟩ x1).setCell ⟨g,2,none⟩ x2).setCell ⟨g,3,none⟩ x3).setCell ⟨g,4,none⟩ x4).setCell ⟨g,5,none⟩ x5).setCell ⟨g,6,none⟩ x6).setCell ⟨g,7,none⟩ x7).setCell ⟨g,8,none⟩ x8
theorem uX {w:World} {g t:Nat} {a0 a1 a2 a3 a4 a5 a6 a7 a8:Value} (h:w.heap[g]?=some (.cells #[a0,a1,a2,a3,a4,a5,a6,a7,a8] t)) (x0 x1 x2 x3 x4 x5 x6 x7 x8:Value):(xj w g x0 x1 x2 x3 x4 x5 x6 x7 x8).heap[g]?=some (.cells #[x0,x1,x2,x3,x4,x5,x6,x7,x8] t):=by
 unfold xj;have h0: ∀w:World,w.heap[g]?=some (.cells #[a0,a1,a2,a3,a4,a5,a6,a7,a8] t)→(w.setCell ⟨g,0,none⟩ x0).heap[g]?=some (.cells #[x0,a1,a2,a3,a4,a5,a6,a7,a8] t):=fun w h=>heap_setCell_same w g 0 _ _ x0 h
 have h1: ∀w:World,w.heap[g]?=some (.cells #[x0,a1,a2,a3,a4,a5,a6,a7,a8] t)→(w.setCell ⟨g,1,none⟩ x1).heap[g]?=some (.cells #[x0,x1,a2,a3,a4,a5,a6,a7,a8] t):=fun w h=>heap_setCell_same w g 1 _ _ x1 h
 have h2: ∀w:World,w.heap[g]?=some (.cells #[x0,x1,a2,a3,a4,a5,a6,a7,a8] t)→(w.setCell ⟨g,2,none⟩ x2).heap[g]?=some (.cells #[x0,x1,x2,a3,a4,a5,a6,a7,a8] t):=fun w h=>heap_setCell_same w g 2 _ _ x2 h
 have h3: ∀w:World,w.heap[g]?=some (.cells #[x0,x1,x2,a3,a4,a5,a6,a7,a8] t)→(w.setCell ⟨g,3,none⟩ x3).heap[g]?=some (.cells #[x0,x1,x2,x3,a4,a5,a6,a7,a8] t):=fun w h=>heap_setCell_same w g 3 _ _ x3 h
 have h4: ∀w:World,w.heap[g]?=some (.cells #[x0,x1,x2,x3,a4,a5,a6,a7,a8] t)→(w.setCell ⟨g,4,none⟩ x4).heap[g]?=some (.cells #[x0,x1,x2,x3,x4,a5,a6,a7,a8] t):=fun w h=>heap_setCell_same w g 4 _ _ x4 h
 have h5: ∀w:World,w.heap[g]?=some (.cells #[x0,x1,x2,x3,x4,a5,a6,a7,a8] t)→(w.setCell ⟨g,5,none⟩ x5).heap[g]?=some (.cells #[x0,x1,x2,x3,x4,x5,a6,a7,a8] t):=fun w h=>heap_setCell_same w g 5 _ _ x5 h
 have h6: ∀w:World,w.heap[g]?=some (.cells #[x0,x1,x2,x3,x4,x5,a6,a7,a8] t)→(w.setCell ⟨g,6,none⟩ x6).heap[g]?=some (.cells #[x0,x1,x2,x3,x4,x5,x6,a7,a8] t):=fun w h=>heap_setCell_same w g 6 _ _ x6 h
 have h7: ∀w:World,w.heap[g]?=some (.cells #[x0,x1,x2,x3,x4,x5,x6,a7,a8] t)→(w.setCell ⟨g,7,none⟩ x7).heap[g]?=some (.cells #[x0,x1,x2,x3,x4,x5,x6,x7,a8] t):=fun w h=>heap_setCell_same w g 7 _ _ x7 h
 have h8: ∀w:World,w.heap[g]?=some (.cells #[x0,x1,x2,x3,x4,x5,x6,x7,a8] t)→(w.setCell ⟨g,8,none⟩ x8).heap[g]?=some (.cells #[x0,x1,x2,x3,x4,x5,x6,x7,x8] t):=fun w h=>heap_setCell_same w g 8 _ _ x8 h
 exact h8 _ (h7 _ (h6 _ (h5 _ (h4 _ (h3 _ (h2 _ (h1 _ (h0 _ h))))))))
theorem But.put {g:Nat} {w w':World} (h:But (· =g) w w') (k:Nat) (x:Value):But (· =g) w (w'.setCell ⟨g,k,none⟩ x):=h.trans (But.setB w' g k x)
theorem xk (w:World) (g:Nat) (x0 x1 x2 x3 x4 x5 x6 x7 x8:Value):But (· =g) w (xj w g x0 x1 x2 x3 x4 x5 x6 x7 x8):=by
 unfold xj;exact((((((((But.setB w g 0 x0).put 1 x1).put 2 x2).put 3 x3).put 4 x4).put 5 x5).put 6 x6).put 7 x7).put 8 x8
theorem Bt {w:World} {g t:Nat} {x0 x1 x2 x3 x4 x5 x6 x7 x8:Value} (h:w.heap[g]?=some (.cells #[x0,x1,x2,x3,x4,x5,x6,x7,x8] t)):
  w.cell? ⟨g,0,none⟩=some x0∧w.cell? ⟨g,1,none⟩=some x1∧w.cell? ⟨g,2,none⟩=some x2∧w.cell? ⟨g,3,none⟩=some x3∧w.cell? ⟨g,4,none⟩=some x4∧w.cell? ⟨g,5,none⟩=some x5∧w.cell? ⟨g,6,none⟩=some x6∧w.cell? ⟨g,7,none⟩=some x7∧w.cell? ⟨g,8,none⟩=some x8:=by
 refine⟨?_,?_,?_,?_,?_,?_,?_,?_,?_⟩
 ·rw[cell_of_row w g 0 _ _ (0,0) h];rfl
 ·rw[cell_of_row w g 1 _ _ (0,0) h];rfl
 ·rw[cell_of_row w g 2 _ _ (0,0) h];rfl
 ·rw[cell_of_row w g 3 _ _ (0,0) h];rfl
 ·rw[cell_of_row w g 4 _ _ (0,0) h];rfl
 ·rw[cell_of_row w g 5 _ _ (0,0) h];rfl
 ·rw[cell_of_row w g 6 _ _ (0,0) h];rfl
 ·rw[cell_of_row w g 7 _ _ (0,0) h];rfl
 ·rw[cell_of_row w g 8 _ _ (0,0) h];rfl
theorem AC {w:World} {g t:Nat} {cs:Array Value} (h:w.heap[g]?=some (.cells cs t)): ∀k,w.frozen? ⟨g,k,none⟩=false:=fun k=>frozen_of_row w g k _ _ h
theorem tj (b:Nat) (im:Img) (bd:Bod) (c:UInt8) (m:Nat) (al ai:Option Addr) (capl capi:Nat) (w:World) (hW:WfI im) (hbd:WfB im.classes im.sigs bd) (hTX:dk w b im) (hlo:BtB w 0 (.slice al bd.locals.length capl) bd.locals) (hit:ItB w 0 (.slice ai bd.code.length capi) (bd.code.map aK)):
  Calls Tryz.prog 65 #[.pointer (some ⟨b,0,none⟩),hdV c m (aN im.sigs bd).ans (.slice al bd.locals.length capl) (.slice ai bd.code.length capi)] w fun en w'=>But (fun _=>False) w w'∧
   ((cG im bd=none∧en= .returned (.tuple #[.agg #[.slice none 0 0],.bool false]))∨(∃tb gs,cG im bd=some tb∧en= .returned (.tuple #[.agg #[.slice (some ⟨gs,0,none⟩) (List.length tb) (List.length tb)],.bool true])∧StB w' gs tb∧w.heap.size≤gs)):=by
 unfold hdV;obtain⟨r,hr⟩: ∃r,(aN im.sigs bd).ans=r:=⟨_,rfl⟩;have HR:=hid hr;rw[hr];clear hr;have n9:=hbd.len;have i9:=uW bd.code.length (by omega);have i7:=xi bd.code.length (by omega);have h7:But (fun _=>False) w ((w.alloc (.cells #[.int .u8 c.toNat,.int .i64 m,.int .u8 r.toNat,.slice al bd.locals.length capl,.slice ai bd.code.length capi] 115)).alloc (.cells #[.slice none 0 0] 65)):=(But.alloc _ _ _).trans (But.alloc _ _ _)
 have e5:((w.alloc (.cells #[.int .u8 c.toNat,.int .i64 m,.int .u8 r.toNat,.slice al bd.locals.length capl,.slice ai bd.code.length capi] 115)).alloc (.cells #[.slice none 0 0] 65)).heap[w.heap.size]?=some (.cells #[.int .u8 c.toNat,.int .i64 m,.int .u8 r.toNat,.slice al bd.locals.length capl,.slice ai bd.code.length capi] 115):=by
  rw[Below.heap_alloc _ _ _ (by first| (simp;done) | (simp;omega))];exact heap_alloc_new w _
 have g2:((w.alloc (.cells #[.int .u8 c.toNat,.int .i64 m,.int .u8 r.toNat,.slice al bd.locals.length capl,.slice ai bd.code.length capi] 115)).alloc (.cells #[.slice none 0 0] 65)).heap[w.heap.size+1]?=some (.cells #[.slice none 0 0] 65):=aw (by simp) _
 go_in
 go_wp2_with fail;revert h7 e5 g2;generalize ((w.alloc (.cells #[.int .u8 c.toNat,.int .i64 m,.int .u8 r.toNat,.slice al bd.locals.length capl,.slice ai bd.code.length capi] 115)).alloc (.cells #[.slice none 0 0] 65))=Wb;intro h7 e5 g2;obtain⟨k0,k1,k2,k3,k4⟩:=bC e5;have b2:=ae e5;have i5:=ae g2;have j4:=hid e5;have j5:=hid g2;clear e5 g2;have e8:But (fun _=>False) Wb Wb.drew:=But.drew _ _;refine jN (But (fun _=>False) Wb) 8 (by kernel_rfl) ?_;have fSA:=hid (fun wS (h:(But (fun _=>False) Wb) wS)=>(And.intro (h.kc k0 b2) (And.intro (h.kc k1 b2) (And.intro (h.kc k2 b2) (And.intro (h.kc k3 b2) (h.kc k4 b2))))))
 refine bn (k:=0) (v:= ?vA0) rfl (by decide) (by kernel_rfl) (fun _ _ _ h=>h) rfl e8 ?yA0 ?rA0
 case yA0=>intro wS h;obtain⟨q0,q1,q2,q3,q4⟩:=fSA.out wS h;clear h;go_simp;try rfl
 dsimp only[Act.put]
 try simp only[aR]
 refine bn (k:=1) (v:= ?vA1) rfl (by decide) (by kernel_rfl) (fun _ _ _ h=>h) rfl e8 ?yA1 ?rA1
 case yA1=>intro wS h;obtain⟨q0,q1,q2,q3,q4⟩:=fSA.out wS h;clear h;go_simp;try rfl
 dsimp only[Act.put]
 try simp only[aR]
 refine bn (k:=2) (v:= ?vA2) rfl (by decide) (by kernel_rfl) (fun _ _ _ h=>h) rfl e8 ?yA2 ?rA2
 case yA2=>intro wS h;obtain⟨q0,q1,q2,q3,q4⟩:=fSA.out wS h;clear h;go_simp;try rfl
 dsimp only[Act.put]
 try simp only[aR]
 refine bn (k:=4) (v:= ?vA4) rfl (by decide) (by kernel_rfl) (fun _ _ _ h=>h) rfl e8 ?yA4 ?rA4
 case yA4=>intro wS h;obtain⟨q0,q1,q2,q3,q4⟩:=fSA.out wS h;clear h;go_simp;try rfl
 dsimp only[Act.put]
 try simp only[aR]
 try clear fSA
 revert e8;generalize Wb.drew=w1;intro hC;refine tW (k1:=3) (o1:= ?oA3) (k2:=5) (o2:= ?oA5) (k3:=7) (o3:= ?oA7) ?hoA3 ?hoA5 ?hoA7 ?hlA3_5_7 ?hrA3_5_7 ?stA3 ?stA5 ?stA7
 case hoA3=>rfl
 case hoA5=>rfl
 case hoA7=>rfl
 case hlA3_5_7=>decide
 case hrA3_5_7=>kernel_rfl
 case' stA3=>
  intro KS hKS;go_simp;have hN:(w1.alloc (.cells (ex bd.code.length) 117)).heap[w1.heap.size]?=some (.cells (ex bd.code.length) 117):=heap_alloc_new _ _;have hA:But (fun _=>False) w1 (w1.alloc (.cells (ex bd.code.length) 117)):=But.alloc _ _ _;have a9:Wb.heap.size≤w1.heap.size:=hC.size;have a0:=hC.trans hA;clear hC hA;refine hKS.out _ _ (fun _=>a0) ?_;clear hKS KS;revert hN a0 a9;generalize (w1.alloc (.cells (ex bd.code.length) 117))=w2;generalize w1.heap.size=gs;intro a3 a9 hC;refine pq (k1:=5) (o1:= ?oB5) (k2:=7) (o2:= ?oB7) ?hoB5 ?hoB7 ?hlB5_7 ?hrB5_7 ?stB5 ?stB7
  case hoB5=>rfl
  case hoB7=>rfl
  case hlB5_7=>decide
  case hrB5_7=>kernel_rfl
  case' stB5=>
   intro KS hKS;go_simp;have hN:(w2.alloc (.cells (fQ bd.code.length) 4)).heap[w2.heap.size]?=some (.cells (fQ bd.code.length) 4):=heap_alloc_new _ _;have hA:But (fun _=>False) w2 (w2.alloc (.cells (fQ bd.code.length) 4)):=But.alloc _ _ _;have b0:Wb.heap.size≤w2.heap.size:=hC.size;have a0:=hC.trans hA;have a4:=hA.kp a3;clear hC hA a3;refine hKS.out _ _ (fun _=>a0) ?_;clear hKS KS;revert hN a0 b0 a4;generalize (w2.alloc (.cells (fQ bd.code.length) 4))=w3;generalize w2.heap.size=gw;intro a5 b0 hC a3;refine bn (k:=6) (v:= ?vBbxq6) rfl (by decide) (by kernel_rfl) (fun _ _ _ h=>h) rfl hC ?yBbxq6 ?rBbxq6
   case yBbxq6=>intro wS h;clear h;go_simp;try rfl
   dsimp only[Act.put]
   try simp only[aR]
   refine cF (k:=7) rfl (by decide) (by kernel_rfl) ?_;intro KS hKS;go_simp;have hN:(w3.alloc (.cells #[.pointer none,.int .u8 0,.int .i64 0,.int .u8 0,.slice none 0 0,.slice none 0 0,.slice none 0 0,.slice none 0 0,.bool false] 181)).heap[w3.heap.size]?=some (.cells #[.pointer none,.int .u8 0,.int .i64 0,.int .u8 0,.slice none 0 0,.slice none 0 0,.slice none 0 0,.slice none 0 0,.bool false] 181):=heap_alloc_new _ _;have hA:But (fun _=>False) w3 (w3.alloc (.cells #[.pointer none,.int .u8 0,.int .i64 0,.int .u8 0,.slice none 0 0,.slice none 0 0,.slice none 0 0,.slice none 0 0,.bool false] 181)):=But.alloc _ _ _
   have b1:Wb.heap.size≤w3.heap.size:=hC.size;have a0:=hC.trans hA;have a4:=hA.kp a3;have a6:=hA.kp a5;clear hC hA a3 a5;refine hKS.out _ _ (fun _=>a0) ?_;clear hKS KS;revert hN a0 b1 a4 a6;generalize (w3.alloc (.cells #[.pointer none,.int .u8 0,.int .i64 0,.int .u8 0,.slice none 0 0,.slice none 0 0,.slice none 0 0,.slice none 0 0,.bool false] 181))=w4;generalize w3.heap.size=bb;intro a1 b1 hC a3 a5
  case' stB7=>
   intro KS hKS;go_simp;have hN:(w2.alloc (.cells #[.pointer none,.int .u8 0,.int .i64 0,.int .u8 0,.slice none 0 0,.slice none 0 0,.slice none 0 0,.slice none 0 0,.bool false] 181)).heap[w2.heap.size]?=some (.cells #[.pointer none,.int .u8 0,.int .i64 0,.int .u8 0,.slice none 0 0,.slice none 0 0,.slice none 0 0,.slice none 0 0,.bool false] 181):=heap_alloc_new _ _;have hA:But (fun _=>False) w2 (w2.alloc (.cells #[.pointer none,.int .u8 0,.int .i64 0,.int .u8 0,.slice none 0 0,.slice none 0 0,.slice none 0 0,.slice none 0 0,.bool false] 181)):=But.alloc _ _ _;have b1:Wb.heap.size≤w2.heap.size:=hC.size
   have a0:=hC.trans hA;have a4:=hA.kp a3;clear hC hA a3;refine hKS.out _ _ (fun _=>a0) ?_;clear hKS KS;revert hN a0 b1 a4;generalize (w2.alloc (.cells #[.pointer none,.int .u8 0,.int .i64 0,.int .u8 0,.slice none 0 0,.slice none 0 0,.slice none 0 0,.slice none 0 0,.bool false] 181))=w3;generalize w2.heap.size=bb;intro a1 b1 hC a3;refine cF (k:=5) rfl (by decide) (by kernel_rfl) ?_;intro KS hKS;go_simp;have hN:(w3.alloc (.cells (fQ bd.code.length) 4)).heap[w3.heap.size]?=some (.cells (fQ bd.code.length) 4):=heap_alloc_new _ _;have hA:But (fun _=>False) w3 (w3.alloc (.cells (fQ bd.code.length) 4)):=But.alloc _ _ _
   have b0:Wb.heap.size≤w3.heap.size:=hC.size;have a0:=hC.trans hA;have a4:=hA.kp a3;have a7:=hA.kp a1;clear hC hA a3 a1;refine hKS.out _ _ (fun _=>a0) ?_;clear hKS KS;revert hN a0 b0 a4 a7;generalize (w3.alloc (.cells (fQ bd.code.length) 4))=w4;generalize w3.heap.size=gw;intro a5 b0 hC a3 a1;refine bn (k:=6) (v:= ?vBcxz6) rfl (by decide) (by kernel_rfl) (fun _ _ _ h=>h) rfl hC ?yBcxz6 ?rBcxz6
   case yBcxz6=>intro wS h;clear h;go_simp;try rfl
   dsimp only[Act.put]
   try simp only[aR]
 case' stA5=>
  intro KS hKS;go_simp;have hN:(w1.alloc (.cells (fQ bd.code.length) 4)).heap[w1.heap.size]?=some (.cells (fQ bd.code.length) 4):=heap_alloc_new _ _;have hA:But (fun _=>False) w1 (w1.alloc (.cells (fQ bd.code.length) 4)):=But.alloc _ _ _;have b0:Wb.heap.size≤w1.heap.size:=hC.size;have a0:=hC.trans hA;clear hC hA;refine hKS.out _ _ (fun _=>a0) ?_;clear hKS KS;revert hN a0 b0;generalize (w1.alloc (.cells (fQ bd.code.length) 4))=w2;generalize w1.heap.size=gw;intro a5 b0 hC;refine pq (k1:=3) (o1:= ?oC3) (k2:=7) (o2:= ?oC7) ?hoC3 ?hoC7 ?hlC3_7 ?hrC3_7 ?stC3 ?stC7
  case hoC3=>rfl
  case hoC7=>rfl
  case hlC3_7=>decide
  case hrC3_7=>kernel_rfl
  case' stC3=>
   intro KS hKS;go_simp;have hN:(w2.alloc (.cells (ex bd.code.length) 117)).heap[w2.heap.size]?=some (.cells (ex bd.code.length) 117):=heap_alloc_new _ _;have hA:But (fun _=>False) w2 (w2.alloc (.cells (ex bd.code.length) 117)):=But.alloc _ _ _;have a9:Wb.heap.size≤w2.heap.size:=hC.size;have a0:=hC.trans hA;have a6:=hA.kp a5;clear hC hA a5;refine hKS.out _ _ (fun _=>a0) ?_;clear hKS KS;revert hN a0 a9 a6;generalize (w2.alloc (.cells (ex bd.code.length) 117))=w3;generalize w2.heap.size=gs;intro a3 a9 hC a5;refine bn (k:=6) (v:= ?vCaxq6) rfl (by decide) (by kernel_rfl) (fun _ _ _ h=>h) rfl hC ?yCaxq6 ?rCaxq6
   case yCaxq6=>intro wS h;clear h;go_simp;try rfl
   dsimp only[Act.put]
   try simp only[aR]
   refine cF (k:=7) rfl (by decide) (by kernel_rfl) ?_;intro KS hKS;go_simp;have hN:(w3.alloc (.cells #[.pointer none,.int .u8 0,.int .i64 0,.int .u8 0,.slice none 0 0,.slice none 0 0,.slice none 0 0,.slice none 0 0,.bool false] 181)).heap[w3.heap.size]?=some (.cells #[.pointer none,.int .u8 0,.int .i64 0,.int .u8 0,.slice none 0 0,.slice none 0 0,.slice none 0 0,.slice none 0 0,.bool false] 181):=heap_alloc_new _ _;have hA:But (fun _=>False) w3 (w3.alloc (.cells #[.pointer none,.int .u8 0,.int .i64 0,.int .u8 0,.slice none 0 0,.slice none 0 0,.slice none 0 0,.slice none 0 0,.bool false] 181)):=But.alloc _ _ _
   have b1:Wb.heap.size≤w3.heap.size:=hC.size;have a0:=hC.trans hA;have a6:=hA.kp a5;have a4:=hA.kp a3;clear hC hA a5 a3;refine hKS.out _ _ (fun _=>a0) ?_;clear hKS KS;revert hN a0 b1 a6 a4;generalize (w3.alloc (.cells #[.pointer none,.int .u8 0,.int .i64 0,.int .u8 0,.slice none 0 0,.slice none 0 0,.slice none 0 0,.slice none 0 0,.bool false] 181))=w4;generalize w3.heap.size=bb;intro a1 b1 hC a5 a3
  case' stC7=>
   intro KS hKS;go_simp;have hN:(w2.alloc (.cells #[.pointer none,.int .u8 0,.int .i64 0,.int .u8 0,.slice none 0 0,.slice none 0 0,.slice none 0 0,.slice none 0 0,.bool false] 181)).heap[w2.heap.size]?=some (.cells #[.pointer none,.int .u8 0,.int .i64 0,.int .u8 0,.slice none 0 0,.slice none 0 0,.slice none 0 0,.slice none 0 0,.bool false] 181):=heap_alloc_new _ _;have hA:But (fun _=>False) w2 (w2.alloc (.cells #[.pointer none,.int .u8 0,.int .i64 0,.int .u8 0,.slice none 0 0,.slice none 0 0,.slice none 0 0,.slice none 0 0,.bool false] 181)):=But.alloc _ _ _;have b1:Wb.heap.size≤w2.heap.size:=hC.size
   have a0:=hC.trans hA;have a6:=hA.kp a5;clear hC hA a5;refine hKS.out _ _ (fun _=>a0) ?_;clear hKS KS;revert hN a0 b1 a6;generalize (w2.alloc (.cells #[.pointer none,.int .u8 0,.int .i64 0,.int .u8 0,.slice none 0 0,.slice none 0 0,.slice none 0 0,.slice none 0 0,.bool false] 181))=w3;generalize w2.heap.size=bb;intro a1 b1 hC a5;refine cF (k:=3) rfl (by decide) (by kernel_rfl) ?_;intro KS hKS;go_simp;have hN:(w3.alloc (.cells (ex bd.code.length) 117)).heap[w3.heap.size]?=some (.cells (ex bd.code.length) 117):=heap_alloc_new _ _;have hA:But (fun _=>False) w3 (w3.alloc (.cells (ex bd.code.length) 117)):=But.alloc _ _ _
   have a9:Wb.heap.size≤w3.heap.size:=hC.size;have a0:=hC.trans hA;have a6:=hA.kp a5;have a7:=hA.kp a1;clear hC hA a5 a1;refine hKS.out _ _ (fun _=>a0) ?_;clear hKS KS;revert hN a0 a9 a6 a7;generalize (w3.alloc (.cells (ex bd.code.length) 117))=w4;generalize w3.heap.size=gs;intro a3 a9 hC a5 a1;refine bn (k:=6) (v:= ?vCcxz6) rfl (by decide) (by kernel_rfl) (fun _ _ _ h=>h) rfl hC ?yCcxz6 ?rCcxz6
   case yCcxz6=>intro wS h;clear h;go_simp;try rfl
   dsimp only[Act.put]
   try simp only[aR]
 case' stA7=>
  intro KS hKS;go_simp;have hN:(w1.alloc (.cells #[.pointer none,.int .u8 0,.int .i64 0,.int .u8 0,.slice none 0 0,.slice none 0 0,.slice none 0 0,.slice none 0 0,.bool false] 181)).heap[w1.heap.size]?=some (.cells #[.pointer none,.int .u8 0,.int .i64 0,.int .u8 0,.slice none 0 0,.slice none 0 0,.slice none 0 0,.slice none 0 0,.bool false] 181):=heap_alloc_new _ _;have hA:But (fun _=>False) w1 (w1.alloc (.cells #[.pointer none,.int .u8 0,.int .i64 0,.int .u8 0,.slice none 0 0,.slice none 0 0,.slice none 0 0,.slice none 0 0,.bool false] 181)):=But.alloc _ _ _;have b1:Wb.heap.size≤w1.heap.size:=hC.size
  have a0:=hC.trans hA;clear hC hA;refine hKS.out _ _ (fun _=>a0) ?_;clear hKS KS;revert hN a0 b1;generalize (w1.alloc (.cells #[.pointer none,.int .u8 0,.int .i64 0,.int .u8 0,.slice none 0 0,.slice none 0 0,.slice none 0 0,.slice none 0 0,.bool false] 181))=w2;generalize w1.heap.size=bb;intro a1 b1 hC;refine pq (k1:=3) (o1:= ?oD3) (k2:=5) (o2:= ?oD5) ?hoD3 ?hoD5 ?hlD3_5 ?hrD3_5 ?stD3 ?stD5
  case hoD3=>rfl
  case hoD5=>rfl
  case hlD3_5=>decide
  case hrD3_5=>kernel_rfl
  case' stD3=>
   intro KS hKS;go_simp;have hN:(w2.alloc (.cells (ex bd.code.length) 117)).heap[w2.heap.size]?=some (.cells (ex bd.code.length) 117):=heap_alloc_new _ _;have hA:But (fun _=>False) w2 (w2.alloc (.cells (ex bd.code.length) 117)):=But.alloc _ _ _;have a9:Wb.heap.size≤w2.heap.size:=hC.size;have a0:=hC.trans hA;have a7:=hA.kp a1;clear hC hA a1;refine hKS.out _ _ (fun _=>a0) ?_;clear hKS KS;revert hN a0 a9 a7;generalize (w2.alloc (.cells (ex bd.code.length) 117))=w3;generalize w2.heap.size=gs;intro a3 a9 hC a1;refine cF (k:=5) rfl (by decide) (by kernel_rfl) ?_;intro KS hKS;go_simp;have hN:(w3.alloc (.cells (fQ bd.code.length) 4)).heap[w3.heap.size]?=some (.cells (fQ bd.code.length) 4):=heap_alloc_new _ _
   have hA:But (fun _=>False) w3 (w3.alloc (.cells (fQ bd.code.length) 4)):=But.alloc _ _ _;have b0:Wb.heap.size≤w3.heap.size:=hC.size;have a0:=hC.trans hA;have a7:=hA.kp a1;have a4:=hA.kp a3;clear hC hA a1 a3;refine hKS.out _ _ (fun _=>a0) ?_;clear hKS KS;revert hN a0 b0 a7 a4;generalize (w3.alloc (.cells (fQ bd.code.length) 4))=w4;generalize w3.heap.size=gw;intro a5 b0 hC a1 a3;refine bn (k:=6) (v:= ?vDaxz6) rfl (by decide) (by kernel_rfl) (fun _ _ _ h=>h) rfl hC ?yDaxz6 ?rDaxz6
   case yDaxz6=>intro wS h;clear h;go_simp;try rfl
   dsimp only[Act.put]
   try simp only[aR]
  case' stD5=>
   intro KS hKS;go_simp;have hN:(w2.alloc (.cells (fQ bd.code.length) 4)).heap[w2.heap.size]?=some (.cells (fQ bd.code.length) 4):=heap_alloc_new _ _;have hA:But (fun _=>False) w2 (w2.alloc (.cells (fQ bd.code.length) 4)):=But.alloc _ _ _;have b0:Wb.heap.size≤w2.heap.size:=hC.size;have a0:=hC.trans hA;have a7:=hA.kp a1;clear hC hA a1;refine hKS.out _ _ (fun _=>a0) ?_;clear hKS KS;revert hN a0 b0 a7;generalize (w2.alloc (.cells (fQ bd.code.length) 4))=w3;generalize w2.heap.size=gw;intro a5 b0 hC a1;refine cF (k:=3) rfl (by decide) (by kernel_rfl) ?_;intro KS hKS;go_simp;have hN:(w3.alloc (.cells (ex bd.code.length) 117)).heap[w3.heap.size]?=some (.cells (ex bd.code.length) 117):=heap_alloc_new _ _
   have hA:But (fun _=>False) w3 (w3.alloc (.cells (ex bd.code.length) 117)):=But.alloc _ _ _;have a9:Wb.heap.size≤w3.heap.size:=hC.size;have a0:=hC.trans hA;have a7:=hA.kp a1;have a6:=hA.kp a5;clear hC hA a1 a5;refine hKS.out _ _ (fun _=>a0) ?_;clear hKS KS;revert hN a0 a9 a7 a6;generalize (w3.alloc (.cells (ex bd.code.length) 117))=w4;generalize w3.heap.size=gs;intro a3 a9 hC a1 a5;refine bn (k:=6) (v:= ?vDbxz6) rfl (by decide) (by kernel_rfl) (fun _ _ _ h=>h) rfl hC ?yDbxz6 ?rDbxz6
   case yDbxz6=>intro wS h;clear h;go_simp;try rfl
   dsimp only[Act.put]
   try simp only[aR]
 all_goals
  obtain⟨q0,q1,q2,q3,q4,q5,q6,q7,q8⟩:=Bt a1;have fz:=AC a1;have n8:=ae a1;have n2:bb≠gs:=fun e=>by rw[e,a3]at a1;injection a1 with h;injection h with _ h2;exact absurd h2 (by decide)
  have n3:bb≠gw:=fun e=>by rw[e,a5]at a1;injection a1 with h;injection h with _ h2;exact absurd h2 (by decide)
  have hP:=uX a1 (.pointer (some ⟨b,0,none⟩)) (.int .u8 c.toNat) (.int .i64 m) (.int .u8 r.toNat) (.slice al bd.locals.length capl) (.slice ai bd.code.length capi) (.slice (some ⟨gs,0,none⟩) bd.code.length bd.code.length) (.slice (some ⟨gw,0,none⟩) bd.code.length bd.code.length) (.bool false);have hQ:=xk w4 bb (.pointer (some ⟨b,0,none⟩)) (.int .u8 c.toNat) (.int .i64 m) (.int .u8 r.toNat) (.slice al bd.locals.length capl) (.slice ai bd.code.length capi) (.slice (some ⟨gs,0,none⟩) bd.code.length bd.code.length) (.slice (some ⟨gw,0,none⟩) bd.code.length bd.code.length) (.bool false);have a4:=(hQ.block gs (ae a3) (fun e=>n2 e.symm)).trans a3
  have a6:=(hQ.block gw (ae a5) (fun e=>n3 e.symm)).trans a5;have a0:=hC.next hQ (fun k hk e=>by omega);unfold xj at hP hQ a4 a6 a0;clear a3 a5 a1 hC hQ n2 n3;have f0:=fz 0;have f1:=fz 1;have f2:=fz 2;have f3:=fz 3;have f4:=fz 4;have f5:=fz 5;have f6:=fz 6;have f7:=fz 7;have f8:=fz 8;clear fz;refine cF (k:=8) rfl (by decide) (by kernel_rfl) ?_;intro KS hKS;go_simp;refine hKS.out _ _ nofun ?_;clear hKS KS;refine kG rfl (by kernel_rfl) ?_;clear q0 q1 q2 q3 q4 q5 q6 q7 q8 f0 f1 f2 f3 f4 f5 f6 f7 f8 n8;revert hP a4 a6 a0;generalize ((((((((w4.setCell ⟨bb,0,none⟩ (.pointer (some ⟨b,0,none⟩))).setCell ⟨bb,1,none⟩ (.int .u8 c.toNat)).setCell ⟨bb,2,none⟩ (.int .i64 m)).setCell ⟨bb,3,none⟩ (.int .u8 r.toNat)).setCell ⟨bb,4,none⟩ (.slice al bd.locals.length capl)).setCell ⟨bb,5,none⟩ (.slice ai bd.code.length capi)).setCell ⟨bb,6,none⟩ (.slice (some ⟨gs,0,none⟩) bd.code.length bd.code.length)).setCell ⟨bb,7,none⟩ (.slice (some ⟨gw,0,none⟩) bd.code.length bd.code.length)).setCell ⟨bb,8,none⟩ (.bool false)=wz
  intro a1 a3 a5 hC;have p5:=h7.size
  have e7:Bld w wz bb b gs gw c r m (.slice al bd.locals.length capl) (.slice ai bd.code.length capi) (List.replicate bd.code.length none) (List.replicate bd.code.length false) false:=by
   refine⟨h7.trans hC,by omega,by omega,by omega,by rw[List.length_replicate];exact a1,⟨List.replicate bd.code.length mE,a3,by simp[mE],fun x hx s lo e=>by rw[List.eq_of_mem_replicate hx]at e;cases e⟩,a5,by simp⟩
  have e2:=(hC.block w.heap.size b2 (fun h=>h)).trans j4.out;have g3:=(hC.block (w.heap.size+1) i5 (fun h=>h)).trans j5.out;clear k0 k1 k2 k3 k4 a3 a5 a1 hC i9 i7;obtain⟨k0,k1,k2,k3,k4⟩:=bC e2;have g1:=ae e2;have hE:=BtB.empty wz;have l0:But (fun _=>False) wz (wz.alloc (.cells #[] 5)):=But.alloc _ _ _;have b9:=e7.next l0;have h1:=hlo.but b9.but (fun _ _ h=>h);have i6:=hbd.loc.1;have h4:wfT im.classes.length bd.locals.length (List.replicate bd.code.length (none:St)).length (List.replicate bd.code.length none):=⟨rfl,fun k s l hk=>by rw[List.getElem?_replicate]at hk;split at hk<;>simp at hk⟩;have h6:okZ im.classes.length bd.locals.length [] bd.locals:=⟨by simp,fun c hc=>iR (hbd.loc.2 c hc),rfl⟩
  have i0:=kA w bb b gs gw c r m _ _ _ _ false im bd.locals.length 0 (some ⟨wz.heap.size,0,none⟩) al 0 capl [] bd.locals _ hW i6 (by simp;omega) b9 hTX.cls h4 h6 (by simp) (World.ownsRow.mono hE (Nat.zero_le _)) h1;have h0:(List.replicate bd.code.length (none:St))[0]?=some none:=by rw[List.getElem?_replicate,if_pos (by omega)]
  rw[xg h0]at i0;unfold xsV at i0;have k9:=hid i0;have i1:=hid e2;have e3:=hid g3;clear i0 hE l0 b9 h1 h4 h6 h0 e7 e2 g3 j4 j5;go_wp2_with fail;refine k9.out.mono ?_;rintro en w5 ⟨rfl,l3,a8⟩;clear k9;simp only[Bool.or_false]at a8;have g4:=(((But.alloc (fun _=>False) wz (.cells #[] 5)).mono (G:=fun k=>k=bb∨k=gs∨k=gw) (fun _ _ h=>h.elim)).trans l3).block (w.heap.size+1) (ae e3.out) (by omega);have g5:=g4.trans e3.out;have a2:=hid g5;clear g4 g5 e3 i1 k0 k1 k2 k3 k4 g1 l3;have b4:=hid (k6.start hbd);obtain⟨tab,i3⟩: ∃tab,(List.replicate bd.code.length (none:St)).set 0 (some ([],bd.locals))=tab:=⟨_,rfl⟩
  obtain⟨wt,m1⟩: ∃wt,(List.replicate bd.code.length false).set 0 true=wt:=⟨_,rfl⟩;obtain⟨j1,m0⟩: ∃j1,muW (bP bd,(List.replicate bd.code.length false).set 0 true,false)=j1:=⟨_,rfl⟩;have h3:tab.length≤100:=by rw[←i3];simp;omega
  rw[m0]at b4;rw[i3,m1]at a8 b4;clear i3 m1 m0;have m3:=a8.cells;have g0:=iD bb gw wt w5 (by rw[a8.wl];exact m3.2.2.1) a8.wts (by rw[a8.wl];exact h3);have e6:=hid g0;clear g0 m3;go_wp2_with fail;refine e6.out.mono ?_;rintro en wx ⟨rfl,h5⟩;rw[h5];clear h5 wx e6;go_wp2_with fail
  go_loopg [8] j1 (fun mm av wr=> ∃(tab:List St) (wt:List Bool) (bad:Bool),av= .int .i64 (iZ wt wt.length 0)∧Bld w wr bb b gs gw c r m (.slice al bd.locals.length capl) (.slice ai bd.code.length capi) tab wt bad∧Hid (wr.heap[w.heap.size+1]?=some (.cells #[.slice none 0 0] 65))∧Hid (k6 im bd tab wt bad mm))
  case atStart=>exact⟨tab,wt,false,rfl,a8,a2,b4.out⟩
  case round=>
   clear a8 b4 h3 a2;obtain⟨tab,wt,bad,rfl,e0,a2,b4⟩:=hrel;obtain⟨c0,c6,c7,c8⟩:=e0.cells;have p3:=e0.lt
   cases bad with
   |true=>
    have hN:cG im bd=none:=by
     rcases b4.out with⟨h,_⟩ | ⟨_,h⟩
     ·cases h
     ·exact h
    have HN:=hid hN;have r0:wr.cell? ⟨w.heap.size+1,0,none⟩=some (.slice none 0 0):=by rw[cell_of_row wr (w.heap.size+1) 0 _ _ (0,0) a2.out];rfl
    have f0:wr.frozen? ⟨w.heap.size+1,0,none⟩=false:=frozen_of_row wr (w.heap.size+1) 0 _ _ a2.out;clear hN b4;rcases mf (l:=wt) wt.length 0 (by omega)with⟨hf,e1⟩ | ⟨a,hf,n7,h8⟩
    ·rw[hf];clear hf e1;go_wp2_with fail;have h9:=heap_setCell_same wr (w.heap.size+1) 0 _ _ (.slice none 0 0) a2.out;have b3:=But.setB wr (w.heap.size+1) 0 (.slice none 0 0);revert h9 b3;generalize (wr.setCell ⟨w.heap.size+1,0,none⟩ (.slice none 0 0))=w9;intro h9 b3;have z0:w9.cell? ⟨w.heap.size+1,0,none⟩=some (.slice none 0 0):=by rw[cell_of_row w9 (w.heap.size+1) 0 _ _ (0,0) h9];rfl
     exact bodyPost_ret (v:= .tuple #[.agg #[.slice none 0 0],.bool false]) (by simp[results,Tryz.results65,go_sem,z0]) rfl ⟨e0.but.next b3 (fun k hk h=>by omega),Or.inl ⟨HN.out,rfl⟩⟩
    ·rw[hf];have n6:(0:Int)≤(a:Int):=by omega
     clear hf h8;go_wp2_with fail;have h9:=heap_setCell_same wr (w.heap.size+1) 0 _ _ (.slice none 0 0) a2.out;have b3:=But.setB wr (w.heap.size+1) 0 (.slice none 0 0);revert h9 b3;generalize (wr.setCell ⟨w.heap.size+1,0,none⟩ (.slice none 0 0))=w9;intro h9 b3;have z0:w9.cell? ⟨w.heap.size+1,0,none⟩=some (.slice none 0 0):=by rw[cell_of_row w9 (w.heap.size+1) 0 _ _ (0,0) h9];rfl
     exact bodyPost_ret (v:= .tuple #[.agg #[.slice none 0 0],.bool false]) (by simp[results,Tryz.results65,go_sem,z0]) rfl ⟨e0.but.next b3 (fun k hk h=>by omega),Or.inl ⟨HN.out,rfl⟩⟩
   |false=>
    rcases mf (l:=wt) wt.length 0 (by omega)with⟨hf,e1⟩ | ⟨a,hf,n7,h8⟩
    ·rw[hf];have hN:=b4.out.done hW hbd (fun k hk=>e1 k (Nat.zero_le _) hk);have HN:=hid hN;have r0:wr.cell? ⟨w.heap.size+1,0,none⟩=some (.slice none 0 0):=by rw[cell_of_row wr (w.heap.size+1) 0 _ _ (0,0) a2.out];rfl
     have f0:wr.frozen? ⟨w.heap.size+1,0,none⟩=false:=frozen_of_row wr (w.heap.size+1) 0 _ _ a2.out;clear hN b4 hf e1;go_wp2_with fail;have h9:=heap_setCell_same wr (w.heap.size+1) 0 _ _ (.slice (some ⟨gs,0,none⟩) tab.length tab.length) a2.out;have b3:=But.setB wr (w.heap.size+1) 0 (.slice (some ⟨gs,0,none⟩) tab.length tab.length);revert h9 b3;generalize (wr.setCell ⟨w.heap.size+1,0,none⟩ (.slice (some ⟨gs,0,none⟩) tab.length tab.length))=w9;intro h9 b3;have z0:w9.cell? ⟨w.heap.size+1,0,none⟩=some (.slice (some ⟨gs,0,none⟩) tab.length tab.length):=by rw[cell_of_row w9 (w.heap.size+1) 0 _ _ (0,0) h9];rfl
     have j0:=e0.sts.off b3 (by omega) (fun k cur hk e=>by
      rw[e,a2.out]at hk;injection hk with hk;injection hk with _ h2;exact absurd h2 (by decide))
     exact bodyPost_ret (v:= .tuple #[.agg #[.slice (some ⟨gs,0,none⟩) tab.length tab.length],.bool true]) (by simp[results,Tryz.results65,go_sem,z0]) rfl ⟨e0.but.next b3 (fun k hk h=>by omega),Or.inr ⟨tab,gs,HN.out,rfl,j0,by omega⟩⟩
    ·rw[hf];obtain⟨x,s,l,hx,o0,n1,m5⟩:=b4.out.next hW hbd h8;have o4:tab.length=bd.code.length:=n1.1;have o6:=e0.wl;obtain⟨p0,p1⟩:=e0.wcell (k:=a) (by omega);have p2:(a:Int)<(tab.length:Int):=by omega
     have n6:(0:Int)≤(a:Int):=by omega
     have j7:=hid m5;have l4:=e0.wait a false;have j2:=hid l4;clear m5 b4 hf h8;have g6:=((But.setB wr gw a (.bool false)).block (w.heap.size+1) (ae a2.out) (by omega)).trans a2.out;have e4:=hid g6;have i4:=rF w bb b gs gw m c (.slice al bd.locals.length capl) ai capi tab (wt.set a false) im bd a x s l _ hW hbd (by rw[HR.out];exact j2.out) rfl hit hTX n1 o4 hx o0;rw[HR.out]at i4;have j3:=hid i4;clear g6 a2 i4 l4 j2;go_wp2_with fail;refine j3.out.mono ?_;rintro en w7 ⟨rfl,n5,tab',wt',bad',o5,b5,m2,n0⟩;obtain⟨m',p4,l5⟩:=j7.out tab' wt' bad' m2 n0;have n4:=hid l5;have g7:=(n5.block (w.heap.size+1) (ae e4.out) (by omega)).trans e4.out
     have i2:=hid g7;have m4:=b5.cells;have g0:=iD bb gw wt' w7 (by rw[b5.wl];exact m4.2.2.1) b5.wts (by rw[b5.wl];omega);have e6:=hid g0;clear g7 l5 j7 j3 m2 n0 g0 m4 e4 c0 c6 c7 c8 p0 p1;go_wp2_with fail;refine e6.out.mono ?_;rintro en wx ⟨rfl,h5⟩;rw[h5];clear h5 wx e6;go_wp2_with fail
     go_roundg m'
     case measure=>omega
     case rel=>exact⟨tab',wt',bad',rfl,b5,i2,n4.out⟩
end
end Go.Proofs.YtpfkkmacakjmbaaGreatDoor
