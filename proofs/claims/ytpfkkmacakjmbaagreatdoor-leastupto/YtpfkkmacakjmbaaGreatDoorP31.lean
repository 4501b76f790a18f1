import Derived.Test.YtpfkkmacakjmbaaGreatDoorP30
set_option maxRecDepth 100000
set_option maxHeartbeats 6400000
set_option linter.unusedSimpArgs false
set_option linter.unusedVariables false
namespace Go.Proofs.YtpfkkmacakjmbaaGreatDoor
section
open Go Go.RowKit Sp
attribute [local go_sem ↓] Go.wp_at_zero Go.wp_at_succ
def bM (im:Img) (bd:Bod) (tab:List St) (wt:List Bool) (a:Nat) (x:Ins) (s l:List UInt8):Wn:=
 match df im.classes im.sigs bd x s l with
 |none=>(tab,wt,true)
 |some (s',l')=>bW im.classes s' l' (tab,wt,false) (fX x a)
theorem oK {im:Img} (hW:WfI im) {nl n j:Nat} {tab:List St} {wt:List Bool} {sb lb:List UInt8} (h:wfT im.classes.length nl n tab) (hz:okZ im.classes.length nl sb lb) (hl:sb.length≤ig tab):wfT im.classes.length nl n (aP im.classes (tab,wt,false) j sb lb).1∧ig tab≤ig (aP im.classes (tab,wt,false) j sb lb).1:=
 gP hW.nc hW.cls (T:=(tab,false,false)) (j:=(j:Int)) h hz hl
theorem rS (w0:World) (bb b gs gw:Nat) (m:Nat) (c:UInt8) (vl:Value) (ai:Option Addr) (capi:Nat) (tab:List St) (wt:List Bool) (im:Img) (bd:Bod) (a:Nat) (x:Ins) (s l:List UInt8) (w:World) (hW:WfI im) (hbd:WfB im.classes im.sigs bd)
  (hB:Bld w0 w bb b gs gw c (aW im.sigs bd).ans m vl (.slice ai bd.code.length capi) tab wt false) (hvl:vl.oneCell'=true) (hit:ItB w0 0 (.slice ai bd.code.length capi) (bd.code.map bj)) (hTX:dE w0 b im) (hwf:wfT im.classes.length bd.locals.length bd.code.length tab) (htn:tab.length=bd.code.length)
  (hx:bd.code[a]?=some x) (hst:tab[a]?=some (some (s,l))):
  Calls Tryz.prog 107 #[.pointer (some ⟨bb,0,none⟩),.int .i64 a] w fun en w'=>en= .returned (.tuple #[])∧But (fun k=>k=bb∨k=gs∨k=gw) w w'∧
   ∃tab' wt' bad',tab'.length=tab.length∧Bld w0 w' bb b gs gw c (aW im.sigs bd).ans m vl (.slice ai bd.code.length capi) tab' wt' bad'∧bad'=(bM im bd tab wt a x s l).2.2∧(bad'=false→tab'=(bM im bd tab wt a x s l).1∧wt'=(bM im bd tab wt a x s l).2.1):=by
 have ha:=(List.getElem?_eq_some_iff.1 hx).1;have p8:(a:Int)<(bd.code.length:Int):=by omega
 have r3:(a:Int)<(tab.length:Int):=by omega
 have p5:=hbd.len;obtain⟨l6,o5⟩:=hwf.2 a s l hst;have p6:=o7 tab;have o0:=hbd.code x (List.mem_of_getElem? hx);obtain⟨a3,c3,a4,c4,t0,t1,t2,o6,o4⟩:=hB.known hst;obtain⟨c0,c6,c7,c8⟩:=hB.cells;obtain⟨d1,d2,d3,d4,d5⟩:=hB.body;have h0:ItB w 0 (.slice ai bd.code.length capi) (bd.code.map bj):=ah hit hB.but (fun _ _ h=>h);have l0:(bd.code.map bj).length=bd.code.length:=by simp
 have j0:(bd.code.map bj)[a]?=some (bj x):=by rw[List.getElem?_map,hx];rfl
 obtain⟨gi,p3,p4,_,i7⟩:=aD (n:=bd.code.length) (by unfold ItB at h0;rw[l0]at h0;exact h0) (by omega);have i0:w.cell? ⟨gi,a*5,none⟩=some (.int .i64 (bj x).place):=i7 _ _ (aL (k:=0) j0 (by omega));have i1:w.cell? ⟨gi,a*5+1,none⟩=some (.int .u8 (bj x).op.toNat):=i7 _ _ (aL (k:=1) j0 (by omega));have i2:w.cell? ⟨gi,a*5+2,none⟩=some (.int .u8 (bj x).cls.toNat):=i7 _ _ (aL (k:=2) j0 (by omega));have i3:w.cell? ⟨gi,a*5+3,none⟩=some (.int .i64 (bj x).num):=i7 _ _ (aL (k:=3) j0 (by omega));have i4:w.cell? ⟨gi,a*5+4,none⟩=some (.slice (bj x).pa (bj x).pn (bj x).pc):=i7 _ _ (aL (k:=4) j0 (by omega));subst p3
 clear i7 j0 l0;obtain⟨X,hX⟩: ∃X,bj x=X:=⟨_,rfl⟩;obtain⟨r,hr⟩: ∃r,(aW im.sigs bd).ans=r:=⟨_,rfl⟩;rw[hX]at i0 i1 i2 i3 i4;rw[hr]at hB d3;simp only[hr];have HX:=hid hX;have HR:=hid hr;have f7:=hid (vI hW hbd o0 l6);rw[hX,hr]at f7;clear hX hr
 go_in
 go_wp2_with fail;have f6:But (fun _=>False) w (w.alloc (.cells #[.int .i64 X.place,.int .u8 X.op.toNat,.int .u8 X.cls.toNat,.int .i64 X.num,.slice X.pa X.pn X.pc] 219)):=But.alloc _ _ _;have k9:=heap_alloc_new w (.cells #[.int .i64 X.place,.int .u8 X.op.toNat,.int .u8 X.cls.toNat,.int .i64 X.num,.slice X.pa X.pn X.pc] 219);have g3:=hB.next f6;have n6:=o6.but f6 (fun _ _ h=>h);have n3:=o4.but f6 (fun _ _ h=>h);have n4:=hB.lt;have u0:=f6.kc t0 n4.2.1;have u1:=f6.kc t1 n4.2.1;have u2:=f6.kc t2 n4.2.1;clear i0 i1 i2 i3 i4 t0 t1 t2 c0 c6 c7 c8 d1 d2 d3 d4 d5 o6 o4;revert f6 k9 g3 n6 n3 u0 u1 u2;generalize (w.alloc (.cells #[.int .i64 X.place,.int .u8 X.op.toNat,.int .u8 X.cls.toNat,.int .i64 X.num,.slice X.pa X.pn X.pc] 219))=W
 intro f6 k9 g3 n6 n3 t0 t1 t2;obtain⟨c0,c6,c7,c8⟩:=g3.cells;obtain⟨d1,d2,d3,d4,d5⟩:=g3.body;obtain⟨k0,k1,k2,k3,k4⟩:=bc k9;have g7:=ae k9;have b2:=g3.lt;have m3:But (fun _=>False) W W.drew:=But.drew _ _;have j1:=hid (fun(wx:World) (h:But (fun _=>False) W wx)=>rN b (im.classes.map toX) im.sigs c r m vl (.slice (some ⟨gi,0,none⟩) bd.code.length capi) X a3 a4 c3 c4 s l wx (by rw[List.length_map];have:=hW.nc;omega) (by have:=hW.ns;omega) (hTX.cls.but (g3.but.trans h)) (hTX.met.but (g3.but.trans h)) hvl rfl (n6.but h (fun _ _ h=>h)) (n3.but h (fun _ _ h=>h)) (by omega) (by have:=l6.2.2;have:=hbd.loc.1;omega))
 have l3:Hid (∀(wx:World),But (fun _=>False) W wx→Calls Tryz.prog 174 #[.pointer (some ⟨b,0,none⟩),.agg #[.int .u8 c.toNat,.int .i64 m,.int .u8 r.toNat,vl,.slice (some ⟨gi,0,none⟩) bd.code.length capi],.agg #[.int .i64 X.place,.int .u8 X.op.toNat,.int .u8 X.cls.toNat,.int .i64 X.num,.slice X.pa X.pn X.pc],.agg #[.bool true,.slice a3 s.length c3,.slice a4 l.length c4]] wx fun en w'=>But (fun _=>False) wx w'∧ ∃m0 a1 n1 c1 a2 n2 c2 ok,en= .returned (.tuple #[.agg #[.bool m0,.slice a1 n1 c1,.slice a2 n2 c2],.bool ok])∧
   ((df im.classes im.sigs bd x s l=none∧ok=false)∨(∃s' l',df im.classes im.sigs bd x s l=some (s',l')∧ok=true∧m0=true∧n1=List.length s'∧n2=List.length l'∧BtB w' 0 (.slice a1 s'.length c1) s'∧BtB w' 0 (.slice a2 l'.length c2) l'))):=by
  refine hid (fun wx h=>(j1.out wx h).mono ?_);rintro en w' ⟨hb,h1|h1⟩
  ·obtain⟨h2,rfl⟩:=h1;exact⟨hb,false,none,0,0,none,0,0,false,rfl,Or.inl ⟨by rw[←f7.out];exact h2,rfl⟩⟩
  ·obtain⟨s',l',a1,c1,a2,c2,h2,rfl,h3,h4⟩:=h1;exact⟨hb,true,a1,_,c1,a2,_,c2,true,rfl,Or.inr ⟨s',l',by rw[←f7.out];exact h2,rfl,rfl,rfl,rfl,World.ownsRow.mono h3 (Nat.zero_le _),World.ownsRow.mono h4 (Nat.zero_le _)⟩⟩
 clear j1 f7;have o3:=hid k9;have o2:=hid g3;refine aB (But (fun _=>False) W) 22 (by kernel_rfl) ?_
 iterate 16 (refine aG (v:=?_) rfl (by kernel_rfl) (fun _ _ _ h=>h) rfl m3 ?_ ?_;rotate_left;(focus (intro wS h;have q0:=(h.kc c0 b2.1);have q1:=(h.kc d1 b2.1);have q2:=(h.kc d2 b2.1);have q3:=(h.kc d3 b2.1);have q4:=(h.kc d4 b2.1);have q5:=(h.kc d5 b2.1);have q6:=(h.kc c6 b2.1);have q7:=(h.kc k0 g7);have q8:=(h.kc k1 g7);have q9:=(h.kc k2 g7);have r4:=(h.kc k3 g7);have r5:=(h.kc k4 g7);have r8:=(h.kc t0 b2.2.1);have s0:=(h.kc t1 b2.2.1);have s1:=(h.kc t2 b2.2.1);clear h;go_simp;try rfl));dsimp only[Act.put];try simp only[aK])
 refine nZ (q:=20) (o:= ?oA16) (oq:= ?oqA16) (rest:= ?rsA16) (restq:= ?rqA16) ?hoA16 ?hqA16 ?hrA16 ?stA16 ?sqA16
 case hoA16=>rfl
 case hqA16=>rfl
 case hrA16=>kernel_rfl
 case' stA16=>
  intro KS hKS;go_simp;refine(l3.out W.drew m3).mono ?_;rintro en w1 ⟨h9,m0,a1,n1,c1,a2,n2,c2,ok,rfl,j5⟩;have a8:But (fun _=>False) W w1:=m3.trans h9;refine hKS.out _ _ (fun _=>a8) ?_;clear hKS KS
  iterate 3 (refine aG (v:=?_) rfl (by kernel_rfl) (fun _ _ _ h=>h) rfl a8 ?_ ?_;rotate_left;(focus (intro wS h;clear h;go_simp;try rfl));dsimp only[Act.put];try simp only[aK])
  refine ag rfl (by kernel_rfl) ?_;intro KS hKS;go_simp;refine hKS.out _ _ (fun _=>a8.trans (But.alloc _ _ _)) ?_;clear hKS KS;refine ag rfl (by kernel_rfl) ?_;intro KS hKS;go_simp;refine hKS.out _ _ (fun _=>a8.trans (But.alloc _ _ _)) ?_;clear hKS KS;refine ag rfl (by kernel_rfl) ?_;intro KS hKS;go_simp;refine hKS.out _ _ nofun ?_;clear hKS KS;refine aF rfl (by kernel_rfl) ?_;have l4:But (fun _=>False) w1 (w1.alloc (.cells #[.bool m0,.slice a1 n1 c1,.slice a2 n2 c2] 117)):=But.alloc _ _ _;have e8:But (fun _=>False) W (w1.alloc (.cells #[.bool m0,.slice a1 n1 c1,.slice a2 n2 c2] 117)):=a8.trans l4
  have e9:(w1.alloc (.cells #[.bool m0,.slice a1 n1 c1,.slice a2 n2 c2] 117)).heap[w1.heap.size]?=some (.cells #[.bool m0,.slice a1 n1 c1,.slice a2 n2 c2] 117):=heap_alloc_new _ _;have i6:W.heap.size≤w1.heap.size:=a8.size
  have f0:Hid ((df im.classes im.sigs bd x s l=none∧ok=false)∨(∃s' l',df im.classes im.sigs bd x s l=some (s',l')∧ok=true∧m0=true∧n1=List.length s'∧n2=List.length l'∧BtB (w1.alloc (.cells #[.bool m0,.slice a1 n1 c1,.slice a2 n2 c2] 117)) 0 (.slice a1 s'.length c1) s'∧BtB (w1.alloc (.cells #[.bool m0,.slice a1 n1 c1,.slice a2 n2 c2] 117)) 0 (.slice a2 l'.length c2) l')):=by
   rcases j5 with h| ⟨s',l',e1,e2,e3,e4,e5,e6,e7⟩
   ·exact hid (Or.inl h)
   ·exact hid (Or.inr ⟨s',l',e1,e2,e3,e4,e5,e6.but l4 (fun _ _ h=>h),e7.but l4 (fun _ _ h=>h)⟩)
  revert e8 e9 i6 f0;clear h9 a8 j5 l4;generalize (w1.alloc (.cells #[.bool m0,.slice a1 n1 c1,.slice a2 n2 c2] 117))=w2;generalize w1.heap.size=bm;intro e8 e9 i6 f0;clear w1
 case' sqA16=>
  intro KS hKS;go_simp;have i5:But (fun _=>False) W (W.alloc (.cells #[.bool false,.slice none 0 0,.slice none 0 0] 117)).drew:=(But.alloc _ _ _).trans (But.drew _ _);have l5:(W.alloc (.cells #[.bool false,.slice none 0 0,.slice none 0 0] 117)).drew.heap[W.heap.size]?=some (.cells #[.bool false,.slice none 0 0,.slice none 0 0] 117):=heap_alloc_new _ _;revert i5 l5;generalize (W.alloc (.cells #[.bool false,.slice none 0 0,.slice none 0 0] 117)).drew=Wd;have i6:W.heap.size≤W.heap.size:=Nat.le_refl _;revert i6;generalize j3:W.heap.size=bm;intro i6 i5 l5;have i6:W.heap.size≤bm:=by omega
  have p0:=hid j3;clear j3;refine hKS.out _ _ (fun _=>i5) ?_;clear hKS KS;refine n8 rfl (by kernel_rfl) (by kernel_rfl) ?_;intro KS hKS;go_simp;refine(l3.out Wd i5).mono ?_;rintro en w1 ⟨h9,m0,a1,n1,c1,a2,n2,c2,ok,rfl,j5⟩;have a8:But (fun _=>False) W w1:=i5.trans h9;have e0:w1.heap[bm]?=some (.cells #[.bool false,.slice none 0 0,.slice none 0 0] 117):=h9.kp l5;refine hKS.out _ _ (fun _=>a8) ?_;clear hKS KS
  iterate 3 (refine n9 (v:=?_) rfl (by kernel_rfl) (fun _ _ _ h=>h) rfl a8 ?_ ?_;rotate_left;(focus (intro wS h;clear h;go_simp;try rfl));dsimp only[Act.put];try simp only[aK])
  refine od ?_;obtain⟨r0,r1,r2⟩:=eY e0;obtain⟨z0,z1,z2⟩:=iJ e0;have rlt:=ae e0;have f3:=rM w1 bm (.bool m0) (.slice a1 n1 c1) (.slice a2 n2 c2);have e9:=oJ e0 (.bool m0) (.slice a1 n1 c1) (.slice a2 n2 c2);unfold zF at f3 e9;have e8:But (fun _=>False) W (((w1.setCell ⟨bm,0,none⟩ (.bool m0)).setCell ⟨bm,1,none⟩ (.slice a1 n1 c1)).setCell ⟨bm,2,none⟩ (.slice a2 n2 c2)):=a8.next f3 (fun k hk e=>by omega)
  have n7: ∀k cur,w1.heap[k]?=some (.cells cur 5)→ ¬k=bm:=fun k cur hk e=>by
   rw[e,e0]at hk;injection hk with hk;injection hk with _ h2;exact absurd h2 (by decide)
  have f0:Hid ((df im.classes im.sigs bd x s l=none∧ok=false)∨(∃s' l',df im.classes im.sigs bd x s l=some (s',l')∧ok=true∧m0=true∧n1=List.length s'∧n2=List.length l'∧BtB (((w1.setCell ⟨bm,0,none⟩ (.bool m0)).setCell ⟨bm,1,none⟩ (.slice a1 n1 c1)).setCell ⟨bm,2,none⟩ (.slice a2 n2 c2)) 0 (.slice a1 s'.length c1) s'∧BtB (((w1.setCell ⟨bm,0,none⟩ (.bool m0)).setCell ⟨bm,1,none⟩ (.slice a1 n1 c1)).setCell ⟨bm,2,none⟩ (.slice a2 n2 c2)) 0 (.slice a2 l'.length c2) l')):=by
   rcases j5 with h| ⟨s',l',e1,e2,e3,e4,e5,e6,e7⟩
   ·exact hid (Or.inl h)
   ·exact hid (Or.inr ⟨s',l',e1,e2,e3,e4,e5,aU e6 f3 (fun k cur hh _=>n7 k cur hh),aU e7 f3 (fun k cur hh _=>n7 k cur hh)⟩)
  refine ag rfl (by kernel_rfl) ?_;intro KS hKS;go_simp;refine hKS.out _ _ (fun _=>e8) ?_;clear hKS KS;refine ag rfl (by kernel_rfl) ?_;intro KS hKS;go_simp;refine hKS.out _ _ nofun ?_;clear hKS KS;refine aF rfl (by kernel_rfl) ?_;revert e8 e9 f0;clear i5 l5 e0 r0 r1 r2 z0 z1 z2 rlt h9 a8 f3 j5 n7;generalize (((w1.setCell ⟨bm,0,none⟩ (.bool m0)).setCell ⟨bm,1,none⟩ (.slice a1 n1 c1)).setCell ⟨bm,2,none⟩ (.slice a2 n2 c2))=w2;intro e9 e8 f0;clear w1 Wd p0
 ·clear c0 c6 c7 c8 d1 d2 d3 d4 d5 k0 k1 k2 k3 k4 t0 t1 t2;have a0:=o2.out.next e8;have b0:But (fun k=>k=bb∨k=gs∨k=gw) w w2:=(f6.trans e8).mono (fun _ _ h=>h.elim);have j7:=(e8.block w.heap.size g7 (fun h=>h)).trans o3.out;have m5:=ae j7;obtain⟨k0,k1,k2,k3,k4⟩:=bc j7;obtain⟨m0c,m1c,m2c⟩:=eY e9;have g6:=ae e9;obtain⟨c0,c6,c7,c8⟩:=a0.cells;have f8:=a0.fz 8;clear l3;rcases f0.out with⟨he,rfl⟩ | ⟨s',l',he,rfl,rfl,rfl,rfl,g2,g0⟩
  ·have f4:bM im bd tab wt a x s l=(tab,wt,true):=by unfold bM;rw[he]
   have b1:=hid f4;clear f4 he f0;go_wp2_with fail;exact fV Tryz.results107 rfl ⟨rfl,b0.trans ((But.setB _ _ _ _).mono (fun k _ h=>Or.inl h)),tab,wt,true,rfl,a0.fail,by rw[b1.out],fun h=>by cases h⟩
  ·have f4:bM im bd tab wt a x s l=bW im.classes s' l' (tab,wt,false) (fX x a):=by unfold bM;rw[he]
   have b1:=hid f4;have h7:=jo hW o0 l6 he;have p1:=hid he;clear f4 he f0;have a6:X.op=x.op:=by rw[←HX.out];rfl
   have d6:X.num=x.b:=by rw[←HX.out];rfl
   have l1:=h7.1;have h8:s'.length≤101:=by have:=h7.2;omega
   have hs'N:s'.length≤ig tab:=by have:=h7.2;omega
   have b4:wfT im.classes.length bd.locals.length tab.length tab:=by rw[htn];exact hwf
   have h6:=hbd.loc.1;have f2:=hid (fun(jj:Nat) (tb:List St) (wtt:List Bool) (bd2:Bool) (wx:World) (h1:Bld w0 wx bb b gs gw c r m vl (.slice (some ⟨gi,0,none⟩) bd.code.length capi) tb wtt bd2) (h2:wfT im.classes.length bd.locals.length tb.length tb) (h3:tb.length≤100) (h4:BtB wx 0 (.slice a1 s'.length c1) s') (h5:BtB wx 0 (.slice a2 l'.length c2) l')=>jY w0 bb b gs gw c r m vl _ tb wtt bd2 im bd.locals.length jj a1 a2 c1 c2 s' l' wx hW h6 h3 h1 hTX.cls h2 l1 h8 h4 h5);unfold xsV at f2;have g5: ∀jj,(aP im.classes (tab,wt,false) jj s' l').1.length=tab.length:=fun jj=>jn _ _ _ _ _
   have m2:=fun jj=>oK hW (n:=tab.length) (wt:=wt) (j:=jj) b4 l1 hs'N
   by_cases h116:X.op.toNat=116
   ·have e1:((X.op.toNat:Int)==116)=true:=by rw[beq_iff_eq];omega
    have ht:fX x a=[]:=by unfold fX;rw[if_pos (by rw[←a6];exact h116)]
    have a7:=hid (show bM im bd tab wt a x s l=(tab,wt,false) by rw[b1.out,ht];rfl);clear b1 ht a6 d6 h116;go_wp2_with fail;go_end0;exact⟨rfl,b0,tab,wt,false,rfl,a0,by rw[a7.out],fun _=>by rw[a7.out];exact⟨rfl,rfl⟩⟩
   have e1:=tf X.op.toNat 116 (by omega)
   by_cases h106:X.op.toNat=106
   ·have e2:((X.op.toNat:Int)==106)=true:=by rw[beq_iff_eq];omega
    have ht:fX x a=[X.num]:=by unfold fX;rw[if_neg (by rw[←a6];exact h116),if_pos (by rw[←a6];exact h106),d6]
    have a7:=hid (show bM im bd tab wt a x s l=aP im.classes (tab,wt,false) X.num s' l' by rw[b1.out,ht];rfl);clear b1 ht a6 d6 h116 h106;go_wp2_with fail;refine(f2.out X.num tab wt false w2 a0 b4 (by omega) g2 g0).mono ?_;rintro en w3 ⟨rfl,b5,a5⟩;go_wp2_with fail;go_end0;exact⟨rfl,b0.trans b5,_,_,_,g5 _,a5,by rw[a7.out];simp,fun _=>by rw[a7.out];exact⟨rfl,rfl⟩⟩
   have e2:=tf X.op.toNat 106 (by omega);have p2:IntKind.i64.wrap ((a:Int)+1)=((a+1:Nat):Int):=by rw[dj _ (by omega) (by omega)];simp
   by_cases h102:X.op.toNat=102
   ·have e3:((X.op.toNat:Int)==102)=true:=by rw[beq_iff_eq];omega
    have ht:fX x a=[X.num,a+1]:=by unfold fX;rw[if_neg (by rw[←a6];exact h116),if_neg (by rw[←a6];exact h106),if_pos (by rw[←a6];exact h102),d6]
    have a7:=hid (show bM im bd tab wt a x s l=aP im.classes (aP im.classes (tab,wt,false) X.num s' l') (a+1) s' l' by rw[b1.out,ht];rfl);have b6:=m2 X.num;have b3:=g5 X.num;clear b1 ht a6 d6 h116 h106 h102;go_wp2_with fail;refine(f2.out X.num tab wt false w2 a0 b4 (by omega) g2 g0).mono ?_;rintro en w3 ⟨rfl,b5,a5⟩;have n5:BtB w3 0 (.slice a1 s'.length c1) s':=aU g2 b5 (fun k cur hh _=>a0.u8 hh);have n0:BtB w3 0 (.slice a2 l'.length c2) l':=aU g0 b5 (fun k cur hh _=>a0.u8 hh);have m4: ¬(bm=bb∨bm=gs∨bm=gw):=by omega
    have f5:=(b5.block bm g6 m4).trans e9;obtain⟨W1,j2⟩: ∃W1,aP im.classes (tab,wt,false) X.num s' l'=W1:=⟨_,rfl⟩;rw[j2]at a5 b6 b3 a7;obtain⟨l2,o1,f1⟩:=W1;dsimp only at a5 b6 b3;simp only[Bool.false_or]at a5;clear j2 m0c m1c m2c k0 k1 k2 k3 c0 c6 c7 c8 f8;obtain⟨m0c,m1c,m2c⟩:=eY f5;have j4:=ae f5;go_wp2_with fail;have g1:=f2.out (a+1) l2 o1 f1 w3 a5 (by rw[b3];exact b6.1) (by omega) n5 n0;refine Calls.mono g1 ?_;rintro en w4 ⟨rfl,m1,g4⟩;clear g1;go_wp2_with fail;go_end0;refine⟨rfl,(b0.trans b5).trans m1,_,_,_,(jn im.classes (l2,false,false) ((a+1:Nat):Int) s' l').trans b3,g4,?_,?_⟩
    ·rw[a7.out]
     cases f1 with
     |true=>simp only[Bool.true_or];exact(jR rfl).symm
     |false=>simp
    ·intro hf
     cases f1 with
     |true=>simp at hf
     |false=>rw[a7.out];exact⟨rfl,rfl⟩
   have e3:=tf X.op.toNat 102 (by omega);have ht:fX x a=[a+1]:=by unfold fX;rw[if_neg (by rw[←a6];exact h116),if_neg (by rw[←a6];exact h106),if_neg (by rw[←a6];exact h102)]
   have a7:=hid (show bM im bd tab wt a x s l=aP im.classes (tab,wt,false) (a+1) s' l' by rw[b1.out,ht];rfl);clear b1 ht a6 d6 h116 h106 h102;go_wp2_with fail;have g1:=f2.out (a+1) tab wt false w2 a0 b4 (by omega) g2 g0;refine Calls.mono g1 ?_;rintro en w3 ⟨rfl,b5,a5⟩;go_wp2_with fail;go_end0;exact⟨rfl,b0.trans b5,_,_,_,g5 _,a5,by rw[a7.out];simp,fun _=>by rw[a7.out];exact⟨rfl,rfl⟩⟩
 ·clear c0 c6 c7 c8 d1 d2 d3 d4 d5 k0 k1 k2 k3 k4 t0 t1 t2;have a0:=o2.out.next e8;have b0:But (fun k=>k=bb∨k=gs∨k=gw) w w2:=(f6.trans e8).mono (fun _ _ h=>h.elim);have j7:=(e8.block w.heap.size g7 (fun h=>h)).trans o3.out;have m5:=ae j7;obtain⟨k0,k1,k2,k3,k4⟩:=bc j7;obtain⟨m0c,m1c,m2c⟩:=eY e9;have g6:=ae e9;obtain⟨c0,c6,c7,c8⟩:=a0.cells;have f8:=a0.fz 8;clear l3;rcases f0.out with⟨he,rfl⟩ | ⟨s',l',he,rfl,rfl,rfl,rfl,g2,g0⟩
  ·have f4:bM im bd tab wt a x s l=(tab,wt,true):=by unfold bM;rw[he]
   have b1:=hid f4;clear f4 he f0;go_wp2_with fail;exact fV Tryz.results107 rfl ⟨rfl,b0.trans ((But.setB _ _ _ _).mono (fun k _ h=>Or.inl h)),tab,wt,true,rfl,a0.fail,by rw[b1.out],fun h=>by cases h⟩
  ·have f4:bM im bd tab wt a x s l=bW im.classes s' l' (tab,wt,false) (fX x a):=by unfold bM;rw[he]
   have b1:=hid f4;have h7:=jo hW o0 l6 he;have p1:=hid he;clear f4 he f0;have a6:X.op=x.op:=by rw[←HX.out];rfl
   have d6:X.num=x.b:=by rw[←HX.out];rfl
   have l1:=h7.1;have h8:s'.length≤101:=by have:=h7.2;omega
   have hs'N:s'.length≤ig tab:=by have:=h7.2;omega
   have b4:wfT im.classes.length bd.locals.length tab.length tab:=by rw[htn];exact hwf
   have h6:=hbd.loc.1;have f2:=hid (fun(jj:Nat) (tb:List St) (wtt:List Bool) (bd2:Bool) (wx:World) (h1:Bld w0 wx bb b gs gw c r m vl (.slice (some ⟨gi,0,none⟩) bd.code.length capi) tb wtt bd2) (h2:wfT im.classes.length bd.locals.length tb.length tb) (h3:tb.length≤100) (h4:BtB wx 0 (.slice a1 s'.length c1) s') (h5:BtB wx 0 (.slice a2 l'.length c2) l')=>jY w0 bb b gs gw c r m vl _ tb wtt bd2 im bd.locals.length jj a1 a2 c1 c2 s' l' wx hW h6 h3 h1 hTX.cls h2 l1 h8 h4 h5);unfold xsV at f2;have g5: ∀jj,(aP im.classes (tab,wt,false) jj s' l').1.length=tab.length:=fun jj=>jn _ _ _ _ _
   have m2:=fun jj=>oK hW (n:=tab.length) (wt:=wt) (j:=jj) b4 l1 hs'N
   by_cases h116:X.op.toNat=116
   ·have e1:((X.op.toNat:Int)==116)=true:=by rw[beq_iff_eq];omega
    have ht:fX x a=[]:=by unfold fX;rw[if_pos (by rw[←a6];exact h116)]
    have a7:=hid (show bM im bd tab wt a x s l=(tab,wt,false) by rw[b1.out,ht];rfl);clear b1 ht a6 d6 h116;go_wp2_with fail;go_end0;exact⟨rfl,b0,tab,wt,false,rfl,a0,by rw[a7.out],fun _=>by rw[a7.out];exact⟨rfl,rfl⟩⟩
   have e1:=tf X.op.toNat 116 (by omega)
   by_cases h106:X.op.toNat=106
   ·have e2:((X.op.toNat:Int)==106)=true:=by rw[beq_iff_eq];omega
    have ht:fX x a=[X.num]:=by unfold fX;rw[if_neg (by rw[←a6];exact h116),if_pos (by rw[←a6];exact h106),d6]
    have a7:=hid (show bM im bd tab wt a x s l=aP im.classes (tab,wt,false) X.num s' l' by rw[b1.out,ht];rfl);clear b1 ht a6 d6 h116 h106;go_wp2_with fail;refine(f2.out X.num tab wt false w2 a0 b4 (by omega) g2 g0).mono ?_;rintro en w3 ⟨rfl,b5,a5⟩;go_wp2_with fail;go_end0;exact⟨rfl,b0.trans b5,_,_,_,g5 _,a5,by rw[a7.out];simp,fun _=>by rw[a7.out];exact⟨rfl,rfl⟩⟩
   have e2:=tf X.op.toNat 106 (by omega);have p2:IntKind.i64.wrap ((a:Int)+1)=((a+1:Nat):Int):=by rw[dj _ (by omega) (by omega)];simp
   by_cases h102:X.op.toNat=102
   ·have e3:((X.op.toNat:Int)==102)=true:=by rw[beq_iff_eq];omega
    have ht:fX x a=[X.num,a+1]:=by unfold fX;rw[if_neg (by rw[←a6];exact h116),if_neg (by rw[←a6];exact h106),if_pos (by rw[←a6];exact h102),d6]
    have a7:=hid (show bM im bd tab wt a x s l=aP im.classes (aP im.classes (tab,wt,false) X.num s' l') (a+1) s' l' by rw[b1.out,ht];rfl);have b6:=m2 X.num;have b3:=g5 X.num;clear b1 ht a6 d6 h116 h106 h102;go_wp2_with fail;refine(f2.out X.num tab wt false w2 a0 b4 (by omega) g2 g0).mono ?_;rintro en w3 ⟨rfl,b5,a5⟩;have n5:BtB w3 0 (.slice a1 s'.length c1) s':=aU g2 b5 (fun k cur hh _=>a0.u8 hh);have n0:BtB w3 0 (.slice a2 l'.length c2) l':=aU g0 b5 (fun k cur hh _=>a0.u8 hh);have m4: ¬(bm=bb∨bm=gs∨bm=gw):=by omega
    have f5:=(b5.block bm g6 m4).trans e9;obtain⟨W1,j2⟩: ∃W1,aP im.classes (tab,wt,false) X.num s' l'=W1:=⟨_,rfl⟩;rw[j2]at a5 b6 b3 a7;obtain⟨l2,o1,f1⟩:=W1;dsimp only at a5 b6 b3;simp only[Bool.false_or]at a5;clear j2 m0c m1c m2c k0 k1 k2 k3 c0 c6 c7 c8 f8;obtain⟨m0c,m1c,m2c⟩:=eY f5;have j4:=ae f5;go_wp2_with fail;have g1:=f2.out (a+1) l2 o1 f1 w3 a5 (by rw[b3];exact b6.1) (by omega) n5 n0;refine Calls.mono g1 ?_;rintro en w4 ⟨rfl,m1,g4⟩;clear g1;go_wp2_with fail;go_end0;refine⟨rfl,(b0.trans b5).trans m1,_,_,_,(jn im.classes (l2,false,false) ((a+1:Nat):Int) s' l').trans b3,g4,?_,?_⟩
    ·rw[a7.out]
     cases f1 with
     |true=>simp only[Bool.true_or];exact(jR rfl).symm
     |false=>simp
    ·intro hf
     cases f1 with
     |true=>simp at hf
     |false=>rw[a7.out];exact⟨rfl,rfl⟩
   have e3:=tf X.op.toNat 102 (by omega);have ht:fX x a=[a+1]:=by unfold fX;rw[if_neg (by rw[←a6];exact h116),if_neg (by rw[←a6];exact h106),if_neg (by rw[←a6];exact h102)]
   have a7:=hid (show bM im bd tab wt a x s l=aP im.classes (tab,wt,false) (a+1) s' l' by rw[b1.out,ht];rfl);clear b1 ht a6 d6 h116 h106 h102;go_wp2_with fail;have g1:=f2.out (a+1) tab wt false w2 a0 b4 (by omega) g2 g0;refine Calls.mono g1 ?_;rintro en w3 ⟨rfl,b5,a5⟩;go_wp2_with fail;go_end0;exact⟨rfl,b0.trans b5,_,_,_,g5 _,a5,by rw[a7.out];simp,fun _=>by rw[a7.out];exact⟨rfl,rfl⟩⟩
theorem lH {l:List Bool}: ∀(f k:Nat),k+f=l.length→(ir l f k= -1∧ ∀j,k≤j→j<l.length→l.getD j false=false)∨ ∃j:Nat,ir l f k=j∧j<l.length∧l.getD j false=true:=by
 intro f
 induction f with
 |zero=>intro k hk;exact Or.inl ⟨rfl,fun j h1 h2=>by omega⟩
 |succ f ih=>
  intro k hk;simp only[ir]
  by_cases h:l.getD k false=true
  ·exact Or.inr ⟨k,by rw[if_pos h],by omega,h⟩
  ·rw[if_neg h];rcases ih (k+1) (by omega)with⟨h1,h2⟩ |h1
   ·refine Or.inl ⟨h1,fun j h3 h4=> ?_⟩
    by_cases hj:j=k
    ·subst hj;simpa using h
    ·exact h2 j (by omega) h4
   ·exact Or.inr h1
def KnW (tab:List St) (wt:List Bool):Prop:= ∀k,wt.getD k false=true→ ∃s l,tab[k]?=some (some (s,l))
theorem lJ {cs:List Cls} {T:Tn} {j k:Nat} {sb lb s l:List UInt8} (h:T.1[k]?=some (some (s,l))): ∃s' l',(bJ cs T j sb lb).1[k]?=some (some (s',l')):=by
 unfold bJ
 split
 ·exact⟨s,l,h⟩
 split
 ·exact⟨s,l,h⟩
 split
 ·exact⟨s,l,h⟩
 rename_i m hm
 split
 ·exact⟨s,l,h⟩
 simp only
 by_cases hjk:(j:Int).toNat=k
 ·have hk:=(List.getElem?_eq_some_iff.1 h).1;rw[hjk,List.getElem?_set_self hk];exact⟨m.1,m.2,rfl⟩
 ·rw[List.getElem?_set_ne hjk];exact⟨s,l,h⟩
theorem vJ {cs:List Cls} {W:Wn} {j:Nat} {sb lb:List UInt8} (h:KnW W.1 W.2.1):KnW (aP cs W j sb lb).1 (aP cs W j sb lb).2.1:=by
 intro k hk;unfold aP at hk⊢;simp only at hk⊢
 by_cases hc:(bJ cs (W.1,false,W.2.2) j sb lb).2.1=true
 ·rw[if_pos hc]at hk
  by_cases hjk:j=k
  ·subst hjk;unfold bJ at hc⊢
   split at hc
   ·cases hc
   split at hc
   ·cases hc
   split at hc
   ·cases hc
   rename_i m hm
   split at hc
   ·cases hc
   rename_i h1 h2 _ _
   rw[if_neg h1,if_neg h2];simp only[hm]
   rename_i h4
   rw[if_neg h4];simp only;rw[Int.toNat_natCast,List.getElem?_set_self (by simp at h2;omega)];exact⟨m.1,m.2,rfl⟩
  ·have a0:W.2.1.getD k false=true:=by simpa[List.getD,List.getElem?_set,hjk]using hk
   obtain⟨s,l,h1⟩:=h k a0;exact lJ (T:=(W.1,false,W.2.2)) h1
 ·rw[if_neg hc]at hk;obtain⟨s,l,h1⟩:=h k hk;exact lJ (T:=(W.1,false,W.2.2)) h1
theorem rT {cs:List Cls} {sb lb:List UInt8}: ∀{l:List Nat} {W:Wn},KnW W.1 W.2.1→KnW (bW cs sb lb W l).1 (bW cs sb lb W l).2.1:=by
 intro l
 induction l with
 |nil=>intro W h;exact h
 |cons j l ih=>intro W h;exact ih (W:=aP cs W j sb lb) (vJ h)
theorem tC {im:Img} {bd:Bod} {tab:List St} {wt:List Bool} {a:Nat} {x:Ins} {s l:List UInt8} (h:KnW tab wt):KnW (bM im bd tab wt a x s l).1 (bM im bd tab wt a x s l).2.1:=by
 unfold bM
 split
 ·exact h
 ·exact rT (W:=(tab,wt,false)) h
theorem KnW.unset {tab:List St} {wt:List Bool} (h:KnW tab wt) (a:Nat):KnW tab (wt.set a false):=by
 intro k hk
 by_cases hak:a=k
 ·subst hak
  have h0:(wt.set a false).getD a false=false:=by
   by_cases h:a<wt.length<;>simp[List.getD,h]
  rw[h0]at hk
  cases hk
 ·exact h k (by simpa[List.getD,List.getElem?_set,hak]using hk)
theorem vK {im:Img} {bd:Bod} {tab:List St} {wt:List Bool} {a:Nat} {x:Ins} {s l:List UInt8}:bM im bd tab (wt.set a false) a x s l=eR im bd (tab,wt,false) a x s l:=by
 unfold bM eR
 cases df im.classes im.sigs bd x s l<;>rfl
def kK (im:Img) (bd:Bod) (tab:List St) (wt:List Bool) (bad:Bool) (mm:Nat):Prop:=
 (bad=false∧my im bd (fun _=>False) (tab,wt,false)∧uA im bd (tab,wt,false)∧KnW tab wt∧muW (tab,wt,false)≤mm)∨(bad=true∧cZ im bd=none)
theorem kK.start {im:Img} {bd:Bod} (hbd:WfB im.classes im.sigs bd):kK im bd ((List.replicate bd.code.length (none:St)).set 0 (some ([],bd.locals))) ((List.replicate bd.code.length false).set 0 true) false (muW (b9 bd,(List.replicate bd.code.length false).set 0 true,false)):=by
 have hn:=hbd.len.1
 have a1: ∀k s l,(b9 bd)[k]?=some (some (s,l))→k=0:=by
  intro k s l h
  by_cases hk:k=0
  ·exact hk
  ·unfold b9 at h;rw[List.getElem?_set_ne (fun e=>hk e.symm),List.getElem?_replicate]at h
   split at h<;>simp at h
 refine Or.inl ⟨rfl,⟨eU hbd,by simp,c9 _,fun _ k hk _ hw=> ?_⟩,fun H hG=>⟨rfl,iT hG⟩,fun k hk=> ?_,Nat.le_refl _⟩
 ·intro x s l _ h;have:=a1 k s l h;subst this;simp[List.getD,hn]at hw
 ·by_cases h0:k=0
  ·subst h0;exact⟨[],bd.locals,by rw[List.getElem?_set_self (by simpa using hn)]⟩
  ·exfalso
   have a0: ¬0=k:=fun e=>h0 e.symm
   simp only[List.getD,List.getElem?_set_ne a0,List.getElem?_replicate]at hk
   split at hk<;>simp at hk
theorem kK.next {im:Img} {bd:Bod} (hW:WfI im) (hbd:WfB im.classes im.sigs bd) {tab:List St} {wt:List Bool} {mm a:Nat} (h:kK im bd tab wt false mm) (ha:wt.getD a false=true):
  ∃x s l,bd.code[a]?=some x∧tab[a]?=some (some (s,l))∧wfT im.classes.length bd.locals.length bd.code.length tab∧ ∀tab' wt' bad',bad'=(bM im bd tab (wt.set a false) a x s l).2.2→(bad'=false→tab'=(bM im bd tab (wt.set a false) a x s l).1∧wt'=(bM im bd tab (wt.set a false) a x s l).2.1)→ ∃m',m'<mm∧kK im bd tab' wt' bad' m':=by
 rcases h with⟨_,hI,hL,hK,a6⟩ | ⟨h,_⟩
 ·obtain⟨s,l,hs⟩:=hK a ha;have a5:=(List.getElem?_eq_some_iff.1 hs).1;have a7:tab.length=bd.code.length:=hI.wf.1;obtain⟨x,hx⟩: ∃x,bd.code[a]?=some x:=⟨_,List.getElem?_eq_getElem (by omega)⟩;refine⟨x,s,l,hx,hs,hI.wf,?_⟩;intro tab' wt' bad' hb ht;have a1:=tC (im:=im) (bd:=bd) (a:=a) (x:=x) (s:=s) (l:=l) (hK.unset a);rw[vK]at hb ht a1;have a0:=qS hW.cls hL hx hs
  cases hbb:(eR im bd (tab,wt,false) a x s l).2.2 with
  |true=>
   rw[hbb]at hb
   have a4:0<muW (tab,wt,false):=by
    have:=iE ha;unfold muW;simp only;omega
   exact⟨0,by omega,Or.inr ⟨hb,a0.none hW hbd hbb⟩⟩
  |false=>
   rw[hbb]at hb;obtain⟨e1,e2⟩:=ht hb;obtain⟨a3,a2⟩:=qT hW hbd rfl hI ha hx hs hbb
   have eW:eR im bd (tab,wt,false) a x s l=(tab',wt',false):=by
    rw[e1,e2];exact Prod.ext rfl (Prod.ext rfl hbb)
   rw[eW]at a3 a0 a2 a1;exact⟨muW (tab',wt',false),by omega,Or.inl ⟨hb,a3,a0,a1,Nat.le_refl _⟩⟩
 ·cases h
theorem kK.done {im:Img} {bd:Bod} (hW:WfI im) (hbd:WfB im.classes im.sigs bd) {tab:List St} {wt:List Bool} {mm:Nat} (h:kK im bd tab wt false mm) (hn: ∀k,k<wt.length→wt.getD k false=false):cZ im bd=some tab:=by
 rcases h with⟨_,hI,hL,hK,a0⟩ | ⟨h,_⟩
 ·exact my.done hW hbd rfl hI hL (fun k hk=>hn k (by have:=hI.wl;simp only at this;omega))
 ·cases h
theorem rU:(Tryz.prog.info? 117).map (fun i=>(i.zero,i.size,i.bytes))=some (some (.agg #[.bool false,.slice none 0 0,.slice none 0 0]),3,56):=by kernel_rfl
theorem tD:(Tryz.prog.info? 4).map (fun i=>(i.zero,i.size,i.bytes))=some (some (.bool false),1,1):=by kernel_rfl
def lV:St×Value×Value:=(none,.slice none 0 0,.slice none 0 0)
theorem vL (n:Nat):madeCells #[.bool false,.slice none 0 0,.slice none 0 0] (n*3)=(dZ (List.replicate n lV)).toArray:=by
 apply Array.ext
 ·rw[size_madeCells];simp[rQ]
 ·intro k h1 h2;rw[size_madeCells]at h1;have hk:k=(k / 3)*3+k % 3:=by omega
  have hl:(List.replicate n lV)[k / 3]?=some lV:=by
   rw[List.getElem?_replicate,if_pos (by omega)]
  have:=co (k:=k % 3) hl (by omega);rw[←hk]at this;have h3:(dZ (List.replicate n lV)).toArray[k]?=some ((dZ (List.replicate n lV)).toArray[k]):=by rw[Array.getElem?_eq_getElem h2]
  rw[List.getElem?_toArray,this]at h3
  have h4:(madeCells #[.bool false,.slice none 0 0,.slice none 0 0] (n*3))[k]'(by rw[size_madeCells];exact h1)=#[Value.bool false,.slice none 0 0,.slice none 0 0][k % 3]!:=by
   simp[madeCells]
  rw[h4];generalize k % 3=r at h3
  match r with
  |0=>simp[stC,lV]at h3;exact h3
  |1=>simp[stC,lV]at h3;exact h3
  |2=>simp[stC,lV]at h3;exact h3
  |r+3=>simp[stC,lV]at h3
theorem ye (n:Nat):madeCells #[.bool false] n=((List.replicate n false).map Value.bool).toArray:=by
 apply Array.ext
 ·rw[size_madeCells];simp
 ·intro k h1 h2;have e:k % 1=0:=by omega
  simp[madeCells,e]
def gK (n:Nat):Array Value:=((List.replicate n false).map Value.bool).toArray
def dV (n:Nat):Array Value:=(dZ (List.replicate n lV)).toArray
theorem yf (n:Nat) (hn:n≤1000) (w:World):(Instr.makeSlice 179 (.int .i64 (n:Int)) (.int .i64 (n:Int))).run Tryz.prog w= .ok (.slice (some ⟨w.heap.size,0,none⟩) n n) (w.alloc (.cells (gK n) 4)):=by
 have a0:=tD
 cases hi:Tryz.prog.info? 4 with
 |none=>rw[hi]at a0;cases a0
 |some i=>
  rw[hi]at a0;simp only[Option.map_some,Option.some.injEq,Prod.mk.injEq]at a0;obtain⟨hz,hs,hb⟩:=a0;have:=run_make (P:=Tryz.prog) w 179 4 i _ (by kernel_rfl) hi hz .i64 .i64 n n (by omega) (by omega) (by rw[hb];omega) (by omega);rw[this,hs];simp only[Int.toNat_natCast,Value.cells,Nat.mul_one];rw[ye]
  rfl
theorem vM (n:Nat) (hn:n≤1000) (w:World):(Instr.makeSlice 63 (.int .i64 (n:Int)) (.int .i64 (n:Int))).run Tryz.prog w= .ok (.slice (some ⟨w.heap.size,0,none⟩) n n) (w.alloc (.cells (dV n) 117)):=by
 have a0:=rU
 cases hi:Tryz.prog.info? 117 with
 |none=>rw[hi]at a0;cases a0
 |some i=>
  rw[hi]at a0;simp only[Option.map_some,Option.some.injEq,Prod.mk.injEq]at a0;obtain⟨hz,hs,hb⟩:=a0;have:=run_make (P:=Tryz.prog) w 63 117 i _ (by kernel_rfl) hi hz .i64 .i64 n n (by omega) (by omega) (by rw[hb];omega) (by omega);rw[this,hs];simp only[Int.toNat_natCast,Value.cells];rw[vL]
  rfl
def yg (w:World) (g:Nat) (x0 x1 x2 x3 x4 x5 x6 x7 x8:Value):World:=((((((((w.setCell ⟨g,0,none⟩ x0).setCell ⟨g,1,none⟩ x1).setCell ⟨g,2,none⟩ x2).setCell ⟨g,3,none⟩ x3).setCell ⟨g,4,none⟩ x4).setCell ⟨g,5,none⟩ x5).setCell ⟨g,6,none⟩ x6).setCell ⟨g,7,none⟩ x7).setCell ⟨g,8,none⟩ x8
theorem vN {w:World} {g t:Nat} {a0 a1 a2 a3 a4 a5 a6 a7 a8:Value} (h:w.heap[g]?=some (.cells #[a0,a1,a2,a3,a4,a5,a6,a7,a8] t)) (x0 x1 x2 x3 x4 x5 x6 x7 x8:Value):(yg w g x0 x1 x2 x3 x4 x5 x6 x7 x8).heap[g]?=some (.cells #[x0,x1,x2,x3,x4,x5,x6,x7,x8] t):=by
 unfold yg;have h0: ∀w:World,w.heap[g]?=some (.cells #[a0,a1,a2,a3,a4,a5,a6,a7,a8] t)→(w.setCell ⟨g,0,none⟩ x0).heap[g]?=some (.cells #[x0,a1,a2,a3,a4,a5,a6,a7,a8] t):=fun w h=>heap_setCell_same w g 0 _ _ x0 h
 have h1: ∀w:World,w.heap[g]?=some (.cells #[x0,a1,a2,a3,a4,a5,a6,a7,a8] t)→(w.setCell ⟨g,1,none⟩ x1).heap[g]?=some (.cells #[x0,x1,a2,a3,a4,a5,a6,a7,a8] t):=fun w h=>heap_setCell_same w g 1 _ _ x1 h
 have h2: ∀w:World,w.heap[g]?=some (.cells #[x0,x1,a2,a3,a4,a5,a6,a7,a8] t)→(w.setCell ⟨g,2,none⟩ x2).heap[g]?=some (.cells #[x0,x1,x2,a3,a4,a5,a6,a7,a8] t):=fun w h=>heap_setCell_same w g 2 _ _ x2 h
 have h3: ∀w:World,w.heap[g]?=some (.cells #[x0,x1,x2,a3,a4,a5,a6,a7,a8] t)→(w.setCell ⟨g,3,none⟩ x3).heap[g]?=some (.cells #[x0,x1,x2,x3,a4,a5,a6,a7,a8] t):=fun w h=>heap_setCell_same w g 3 _ _ x3 h
 have h4: ∀w:World,w.heap[g]?=some (.cells #[x0,x1,x2,x3,a4,a5,a6,a7,a8] t)→(w.setCell ⟨g,4,none⟩ x4).heap[g]?=some (.cells #[x0,x1,x2,x3,x4,a5,a6,a7,a8] t):=fun w h=>heap_setCell_same w g 4 _ _ x4 h
 have h5: ∀w:World,w.heap[g]?=some (.cells #[x0,x1,x2,x3,x4,a5,a6,a7,a8] t)→(w.setCell ⟨g,5,none⟩ x5).heap[g]?=some (.cells #[x0,x1,x2,x3,x4,x5,a6,a7,a8] t):=fun w h=>heap_setCell_same w g 5 _ _ x5 h
 have h6: ∀w:World,w.heap[g]?=some (.cells #[x0,x1,x2,x3,x4,x5,a6,a7,a8] t)→(w.setCell ⟨g,6,none⟩ x6).heap[g]?=some (.cells #[x0,x1,x2,x3,x4,x5,x6,a7,a8] t):=fun w h=>heap_setCell_same w g 6 _ _ x6 h
 have h7: ∀w:World,w.heap[g]?=some (.cells #[x0,x1,x2,x3,x4,x5,x6,a7,a8] t)→(w.setCell ⟨g,7,none⟩ x7).heap[g]?=some (.cells #[x0,x1,x2,x3,x4,x5,x6,x7,a8] t):=fun w h=>heap_setCell_same w g 7 _ _ x7 h
 have h8: ∀w:World,w.heap[g]?=some (.cells #[x0,x1,x2,x3,x4,x5,x6,x7,a8] t)→(w.setCell ⟨g,8,none⟩ x8).heap[g]?=some (.cells #[x0,x1,x2,x3,x4,x5,x6,x7,x8] t):=fun w h=>heap_setCell_same w g 8 _ _ x8 h
 exact h8 _ (h7 _ (h6 _ (h5 _ (h4 _ (h3 _ (h2 _ (h1 _ (h0 _ h))))))))
theorem But.put {g:Nat} {w w':World} (h:But (· =g) w w') (k:Nat) (x:Value):But (· =g) w (w'.setCell ⟨g,k,none⟩ x):=h.trans (But.setB w' g k x)
theorem yh (w:World) (g:Nat) (x0 x1 x2 x3 x4 x5 x6 x7 x8:Value):But (· =g) w (yg w g x0 x1 x2 x3 x4 x5 x6 x7 x8):=by
 unfold yg;exact((((((((But.setB w g 0 x0).put 1 x1).put 2 x2).put 3 x3).put 4 x4).put 5 x5).put 6 x6).put 7 x7).put 8 x8
theorem Br {w:World} {g t:Nat} {x0 x1 x2 x3 x4 x5 x6 x7 x8:Value} (h:w.heap[g]?=some (.cells #[x0,x1,x2,x3,x4,x5,x6,x7,x8] t)):
  w.cell? ⟨g,0,none⟩=some x0∧w.cell? ⟨g,1,none⟩=some x1∧w.cell? ⟨g,2,none⟩=some x2∧w.cell? ⟨g,3,none⟩=some x3∧w.cell? ⟨g,4,none⟩=some x4∧w.cell? ⟨g,5,none⟩=some x5∧w.cell? ⟨g,6,none⟩=some x6∧w.cell? ⟨g,7,none⟩=some x7∧w.cell? ⟨g,8,none⟩=some x8:=by
 refine⟨?_,?_,?_,?_,?_,?_,?_,?_,?_⟩
 ·rw[cell_of_row w g 0 _ _ (0,0) h];rfl
 ·rw[cell_of_row w g 1 _ _ (0,0) h];rfl
 ·rw[cell_of_row w g 2 _ _ (0,0) h];rfl
 ·rw[cell_of_row w g 3 _ _ (0,0) h];rfl
 ·rw[cell_of_row w g 4 _ _ (0,0) h];rfl
 ·rw[cell_of_row w g 5 _ _ (0,0) h];rfl
 ·rw[cell_of_row w g 6 _ _ (0,0) h];rfl
 ·rw[cell_of_row w g 7 _ _ (0,0) h];rfl
 ·rw[cell_of_row w g 8 _ _ (0,0) h];rfl
theorem A9 {w:World} {g t:Nat} {cs:Array Value} (h:w.heap[g]?=some (.cells cs t)): ∀k,w.frozen? ⟨g,k,none⟩=false:=fun k=>frozen_of_row w g k _ _ h
theorem tE (b:Nat) (im:Img) (bd:Bod) (c:UInt8) (m:Nat) (al ai:Option Addr) (capl capi:Nat) (w:World) (hW:WfI im) (hbd:WfB im.classes im.sigs bd) (hTX:dE w b im) (hlo:BtB w 0 (.slice al bd.locals.length capl) bd.locals) (hit:ItB w 0 (.slice ai bd.code.length capi) (bd.code.map bj)):
  Calls Tryz.prog 65 #[.pointer (some ⟨b,0,none⟩),hdV c m (aW im.sigs bd).ans (.slice al bd.locals.length capl) (.slice ai bd.code.length capi)] w fun en w'=>But (fun _=>False) w w'∧
   ((cZ im bd=none∧en= .returned (.tuple #[.agg #[.slice none 0 0],.bool false]))∨(∃tb gs,cZ im bd=some tb∧en= .returned (.tuple #[.agg #[.slice (some ⟨gs,0,none⟩) (List.length tb) (List.length tb)],.bool true])∧StB w' gs tb∧w.heap.size≤gs)):=by
 unfold hdV;obtain⟨r,hr⟩: ∃r,(aW im.sigs bd).ans=r:=⟨_,rfl⟩;have HR:=hid hr;rw[hr];clear hr;have n6:=hbd.len;have i7:=vM bd.code.length (by omega);have i6:=yf bd.code.length (by omega);have h6:But (fun _=>False) w ((w.alloc (.cells #[.int .u8 c.toNat,.int .i64 m,.int .u8 r.toNat,.slice al bd.locals.length capl,.slice ai bd.code.length capi] 115)).alloc (.cells #[.slice none 0 0] 65)):=(But.alloc _ _ _).trans (But.alloc _ _ _)
 have e5:((w.alloc (.cells #[.int .u8 c.toNat,.int .i64 m,.int .u8 r.toNat,.slice al bd.locals.length capl,.slice ai bd.code.length capi] 115)).alloc (.cells #[.slice none 0 0] 65)).heap[w.heap.size]?=some (.cells #[.int .u8 c.toNat,.int .i64 m,.int .u8 r.toNat,.slice al bd.locals.length capl,.slice ai bd.code.length capi] 115):=by
  rw[Below.heap_alloc _ _ _ (by first| (simp;done) | (simp;omega))];exact heap_alloc_new w _
 have g1:((w.alloc (.cells #[.int .u8 c.toNat,.int .i64 m,.int .u8 r.toNat,.slice al bd.locals.length capl,.slice ai bd.code.length capi] 115)).alloc (.cells #[.slice none 0 0] 65)).heap[w.heap.size+1]?=some (.cells #[.slice none 0 0] 65):=CB (by simp) _
 go_in
 go_wp2_with fail;revert h6 e5 g1;generalize ((w.alloc (.cells #[.int .u8 c.toNat,.int .i64 m,.int .u8 r.toNat,.slice al bd.locals.length capl,.slice ai bd.code.length capi] 115)).alloc (.cells #[.slice none 0 0] 65))=Wb;intro h6 e5 g1;obtain⟨k0,k1,k2,k3,k4⟩:=bc e5;have b3:=ae e5;have i4:=ae g1;have j4:=hid e5;have j5:=hid g1;clear e5 g1;have e8:But (fun _=>False) Wb Wb.drew:=But.drew _ _;refine ck (But (fun _=>False) Wb) 8 (by kernel_rfl) ?_;have fSA:=hid (fun wS (h:(But (fun _=>False) Wb) wS)=>(And.intro (h.kc k0 b3) (And.intro (h.kc k1 b3) (And.intro (h.kc k2 b3) (And.intro (h.kc k3 b3) (h.kc k4 b3))))))
 refine ay (k:=0) (v:= ?vA0) rfl (by decide) (by kernel_rfl) (fun _ _ _ h=>h) rfl e8 ?yA0 ?rA0
 case yA0=>intro wS h;obtain⟨q0,q1,q2,q3,q4⟩:=fSA.out wS h;clear h;go_simp;try rfl
 dsimp only[Act.put]
 try simp only[aK]
 refine ay (k:=1) (v:= ?vA1) rfl (by decide) (by kernel_rfl) (fun _ _ _ h=>h) rfl e8 ?yA1 ?rA1
 case yA1=>intro wS h;obtain⟨q0,q1,q2,q3,q4⟩:=fSA.out wS h;clear h;go_simp;try rfl
 dsimp only[Act.put]
 try simp only[aK]
 refine ay (k:=2) (v:= ?vA2) rfl (by decide) (by kernel_rfl) (fun _ _ _ h=>h) rfl e8 ?yA2 ?rA2
 case yA2=>intro wS h;obtain⟨q0,q1,q2,q3,q4⟩:=fSA.out wS h;clear h;go_simp;try rfl
 dsimp only[Act.put]
 try simp only[aK]
 refine ay (k:=4) (v:= ?vA4) rfl (by decide) (by kernel_rfl) (fun _ _ _ h=>h) rfl e8 ?yA4 ?rA4
 case yA4=>intro wS h;obtain⟨q0,q1,q2,q3,q4⟩:=fSA.out wS h;clear h;go_simp;try rfl
 dsimp only[Act.put]
 try simp only[aK]
 try clear fSA
 revert e8;generalize Wb.drew=w1;intro hC;refine ut (k1:=3) (o1:= ?oA3) (k2:=5) (o2:= ?oA5) (k3:=7) (o3:= ?oA7) ?hoA3 ?hoA5 ?hoA7 ?hlA3_5_7 ?hrA3_5_7 ?stA3 ?stA5 ?stA7
 case hoA3=>rfl
 case hoA5=>rfl
 case hoA7=>rfl
 case hlA3_5_7=>decide
 case hrA3_5_7=>kernel_rfl
 case' stA3=>
  intro KS hKS;go_simp;have hN:(w1.alloc (.cells (dV bd.code.length) 117)).heap[w1.heap.size]?=some (.cells (dV bd.code.length) 117):=heap_alloc_new _ _;have hA:But (fun _=>False) w1 (w1.alloc (.cells (dV bd.code.length) 117)):=But.alloc _ _ _;have b0:Wb.heap.size≤w1.heap.size:=hC.size;have a0:=hC.trans hA;clear hC hA;refine hKS.out _ _ (fun _=>a0) ?_;clear hKS KS;revert hN a0 b0;generalize (w1.alloc (.cells (dV bd.code.length) 117))=w2;generalize w1.heap.size=gs;intro a3 b0 hC;refine ie (k1:=5) (o1:= ?oB5) (k2:=7) (o2:= ?oB7) ?hoB5 ?hoB7 ?hlB5_7 ?hrB5_7 ?stB5 ?stB7
  case hoB5=>rfl
  case hoB7=>rfl
  case hlB5_7=>decide
  case hrB5_7=>kernel_rfl
  case' stB5=>
   intro KS hKS;go_simp;have hN:(w2.alloc (.cells (gK bd.code.length) 4)).heap[w2.heap.size]?=some (.cells (gK bd.code.length) 4):=heap_alloc_new _ _;have hA:But (fun _=>False) w2 (w2.alloc (.cells (gK bd.code.length) 4)):=But.alloc _ _ _;have b1:Wb.heap.size≤w2.heap.size:=hC.size;have a0:=hC.trans hA;have a4:=hA.kp a3;clear hC hA a3;refine hKS.out _ _ (fun _=>a0) ?_;clear hKS KS;revert hN a0 b1 a4;generalize (w2.alloc (.cells (gK bd.code.length) 4))=w3;generalize w2.heap.size=gw;intro a5 b1 hC a3;refine ay (k:=6) (v:= ?vBbxq6) rfl (by decide) (by kernel_rfl) (fun _ _ _ h=>h) rfl hC ?yBbxq6 ?rBbxq6
   case yBbxq6=>intro wS h;clear h;go_simp;try rfl
   dsimp only[Act.put]
   try simp only[aK]
   refine aA (k:=7) rfl (by decide) (by kernel_rfl) ?_;intro KS hKS;go_simp;have hN:(w3.alloc (.cells #[.pointer none,.int .u8 0,.int .i64 0,.int .u8 0,.slice none 0 0,.slice none 0 0,.slice none 0 0,.slice none 0 0,.bool false] 181)).heap[w3.heap.size]?=some (.cells #[.pointer none,.int .u8 0,.int .i64 0,.int .u8 0,.slice none 0 0,.slice none 0 0,.slice none 0 0,.slice none 0 0,.bool false] 181):=heap_alloc_new _ _;have hA:But (fun _=>False) w3 (w3.alloc (.cells #[.pointer none,.int .u8 0,.int .i64 0,.int .u8 0,.slice none 0 0,.slice none 0 0,.slice none 0 0,.slice none 0 0,.bool false] 181)):=But.alloc _ _ _
   have b2:Wb.heap.size≤w3.heap.size:=hC.size;have a0:=hC.trans hA;have a4:=hA.kp a3;have a6:=hA.kp a5;clear hC hA a3 a5;refine hKS.out _ _ (fun _=>a0) ?_;clear hKS KS;revert hN a0 b2 a4 a6;generalize (w3.alloc (.cells #[.pointer none,.int .u8 0,.int .i64 0,.int .u8 0,.slice none 0 0,.slice none 0 0,.slice none 0 0,.slice none 0 0,.bool false] 181))=w4;generalize w3.heap.size=bb;intro a1 b2 hC a3 a5
  case' stB7=>
   intro KS hKS;go_simp;have hN:(w2.alloc (.cells #[.pointer none,.int .u8 0,.int .i64 0,.int .u8 0,.slice none 0 0,.slice none 0 0,.slice none 0 0,.slice none 0 0,.bool false] 181)).heap[w2.heap.size]?=some (.cells #[.pointer none,.int .u8 0,.int .i64 0,.int .u8 0,.slice none 0 0,.slice none 0 0,.slice none 0 0,.slice none 0 0,.bool false] 181):=heap_alloc_new _ _;have hA:But (fun _=>False) w2 (w2.alloc (.cells #[.pointer none,.int .u8 0,.int .i64 0,.int .u8 0,.slice none 0 0,.slice none 0 0,.slice none 0 0,.slice none 0 0,.bool false] 181)):=But.alloc _ _ _;have b2:Wb.heap.size≤w2.heap.size:=hC.size
   have a0:=hC.trans hA;have a4:=hA.kp a3;clear hC hA a3;refine hKS.out _ _ (fun _=>a0) ?_;clear hKS KS;revert hN a0 b2 a4;generalize (w2.alloc (.cells #[.pointer none,.int .u8 0,.int .i64 0,.int .u8 0,.slice none 0 0,.slice none 0 0,.slice none 0 0,.slice none 0 0,.bool false] 181))=w3;generalize w2.heap.size=bb;intro a1 b2 hC a3;refine aA (k:=5) rfl (by decide) (by kernel_rfl) ?_;intro KS hKS;go_simp;have hN:(w3.alloc (.cells (gK bd.code.length) 4)).heap[w3.heap.size]?=some (.cells (gK bd.code.length) 4):=heap_alloc_new _ _;have hA:But (fun _=>False) w3 (w3.alloc (.cells (gK bd.code.length) 4)):=But.alloc _ _ _
   have b1:Wb.heap.size≤w3.heap.size:=hC.size;have a0:=hC.trans hA;have a4:=hA.kp a3;have a7:=hA.kp a1;clear hC hA a3 a1;refine hKS.out _ _ (fun _=>a0) ?_;clear hKS KS;revert hN a0 b1 a4 a7;generalize (w3.alloc (.cells (gK bd.code.length) 4))=w4;generalize w3.heap.size=gw;intro a5 b1 hC a3 a1;refine ay (k:=6) (v:= ?vBcxz6) rfl (by decide) (by kernel_rfl) (fun _ _ _ h=>h) rfl hC ?yBcxz6 ?rBcxz6
   case yBcxz6=>intro wS h;clear h;go_simp;try rfl
   dsimp only[Act.put]
   try simp only[aK]
 case' stA5=>
  intro KS hKS;go_simp;have hN:(w1.alloc (.cells (gK bd.code.length) 4)).heap[w1.heap.size]?=some (.cells (gK bd.code.length) 4):=heap_alloc_new _ _;have hA:But (fun _=>False) w1 (w1.alloc (.cells (gK bd.code.length) 4)):=But.alloc _ _ _;have b1:Wb.heap.size≤w1.heap.size:=hC.size;have a0:=hC.trans hA;clear hC hA;refine hKS.out _ _ (fun _=>a0) ?_;clear hKS KS;revert hN a0 b1;generalize (w1.alloc (.cells (gK bd.code.length) 4))=w2;generalize w1.heap.size=gw;intro a5 b1 hC;refine ie (k1:=3) (o1:= ?oC3) (k2:=7) (o2:= ?oC7) ?hoC3 ?hoC7 ?hlC3_7 ?hrC3_7 ?stC3 ?stC7
  case hoC3=>rfl
  case hoC7=>rfl
  case hlC3_7=>decide
  case hrC3_7=>kernel_rfl
  case' stC3=>
   intro KS hKS;go_simp;have hN:(w2.alloc (.cells (dV bd.code.length) 117)).heap[w2.heap.size]?=some (.cells (dV bd.code.length) 117):=heap_alloc_new _ _;have hA:But (fun _=>False) w2 (w2.alloc (.cells (dV bd.code.length) 117)):=But.alloc _ _ _;have b0:Wb.heap.size≤w2.heap.size:=hC.size;have a0:=hC.trans hA;have a6:=hA.kp a5;clear hC hA a5;refine hKS.out _ _ (fun _=>a0) ?_;clear hKS KS;revert hN a0 b0 a6;generalize (w2.alloc (.cells (dV bd.code.length) 117))=w3;generalize w2.heap.size=gs;intro a3 b0 hC a5;refine ay (k:=6) (v:= ?vCaxq6) rfl (by decide) (by kernel_rfl) (fun _ _ _ h=>h) rfl hC ?yCaxq6 ?rCaxq6
   case yCaxq6=>intro wS h;clear h;go_simp;try rfl
   dsimp only[Act.put]
   try simp only[aK]
   refine aA (k:=7) rfl (by decide) (by kernel_rfl) ?_;intro KS hKS;go_simp;have hN:(w3.alloc (.cells #[.pointer none,.int .u8 0,.int .i64 0,.int .u8 0,.slice none 0 0,.slice none 0 0,.slice none 0 0,.slice none 0 0,.bool false] 181)).heap[w3.heap.size]?=some (.cells #[.pointer none,.int .u8 0,.int .i64 0,.int .u8 0,.slice none 0 0,.slice none 0 0,.slice none 0 0,.slice none 0 0,.bool false] 181):=heap_alloc_new _ _;have hA:But (fun _=>False) w3 (w3.alloc (.cells #[.pointer none,.int .u8 0,.int .i64 0,.int .u8 0,.slice none 0 0,.slice none 0 0,.slice none 0 0,.slice none 0 0,.bool false] 181)):=But.alloc _ _ _
   have b2:Wb.heap.size≤w3.heap.size:=hC.size;have a0:=hC.trans hA;have a6:=hA.kp a5;have a4:=hA.kp a3;clear hC hA a5 a3;refine hKS.out _ _ (fun _=>a0) ?_;clear hKS KS;revert hN a0 b2 a6 a4;generalize (w3.alloc (.cells #[.pointer none,.int .u8 0,.int .i64 0,.int .u8 0,.slice none 0 0,.slice none 0 0,.slice none 0 0,.slice none 0 0,.bool false] 181))=w4;generalize w3.heap.size=bb;intro a1 b2 hC a5 a3
  case' stC7=>
   intro KS hKS;go_simp;have hN:(w2.alloc (.cells #[.pointer none,.int .u8 0,.int .i64 0,.int .u8 0,.slice none 0 0,.slice none 0 0,.slice none 0 0,.slice none 0 0,.bool false] 181)).heap[w2.heap.size]?=some (.cells #[.pointer none,.int .u8 0,.int .i64 0,.int .u8 0,.slice none 0 0,.slice none 0 0,.slice none 0 0,.slice none 0 0,.bool false] 181):=heap_alloc_new _ _;have hA:But (fun _=>False) w2 (w2.alloc (.cells #[.pointer none,.int .u8 0,.int .i64 0,.int .u8 0,.slice none 0 0,.slice none 0 0,.slice none 0 0,.slice none 0 0,.bool false] 181)):=But.alloc _ _ _;have b2:Wb.heap.size≤w2.heap.size:=hC.size
   have a0:=hC.trans hA;have a6:=hA.kp a5;clear hC hA a5;refine hKS.out _ _ (fun _=>a0) ?_;clear hKS KS;revert hN a0 b2 a6;generalize (w2.alloc (.cells #[.pointer none,.int .u8 0,.int .i64 0,.int .u8 0,.slice none 0 0,.slice none 0 0,.slice none 0 0,.slice none 0 0,.bool false] 181))=w3;generalize w2.heap.size=bb;intro a1 b2 hC a5;refine aA (k:=3) rfl (by decide) (by kernel_rfl) ?_;intro KS hKS;go_simp;have hN:(w3.alloc (.cells (dV bd.code.length) 117)).heap[w3.heap.size]?=some (.cells (dV bd.code.length) 117):=heap_alloc_new _ _;have hA:But (fun _=>False) w3 (w3.alloc (.cells (dV bd.code.length) 117)):=But.alloc _ _ _
   have b0:Wb.heap.size≤w3.heap.size:=hC.size;have a0:=hC.trans hA;have a6:=hA.kp a5;have a7:=hA.kp a1;clear hC hA a5 a1;refine hKS.out _ _ (fun _=>a0) ?_;clear hKS KS;revert hN a0 b0 a6 a7;generalize (w3.alloc (.cells (dV bd.code.length) 117))=w4;generalize w3.heap.size=gs;intro a3 b0 hC a5 a1;refine ay (k:=6) (v:= ?vCcxz6) rfl (by decide) (by kernel_rfl) (fun _ _ _ h=>h) rfl hC ?yCcxz6 ?rCcxz6
   case yCcxz6=>intro wS h;clear h;go_simp;try rfl
   dsimp only[Act.put]
   try simp only[aK]
 case' stA7=>
  intro KS hKS;go_simp;have hN:(w1.alloc (.cells #[.pointer none,.int .u8 0,.int .i64 0,.int .u8 0,.slice none 0 0,.slice none 0 0,.slice none 0 0,.slice none 0 0,.bool false] 181)).heap[w1.heap.size]?=some (.cells #[.pointer none,.int .u8 0,.int .i64 0,.int .u8 0,.slice none 0 0,.slice none 0 0,.slice none 0 0,.slice none 0 0,.bool false] 181):=heap_alloc_new _ _;have hA:But (fun _=>False) w1 (w1.alloc (.cells #[.pointer none,.int .u8 0,.int .i64 0,.int .u8 0,.slice none 0 0,.slice none 0 0,.slice none 0 0,.slice none 0 0,.bool false] 181)):=But.alloc _ _ _;have b2:Wb.heap.size≤w1.heap.size:=hC.size
  have a0:=hC.trans hA;clear hC hA;refine hKS.out _ _ (fun _=>a0) ?_;clear hKS KS;revert hN a0 b2;generalize (w1.alloc (.cells #[.pointer none,.int .u8 0,.int .i64 0,.int .u8 0,.slice none 0 0,.slice none 0 0,.slice none 0 0,.slice none 0 0,.bool false] 181))=w2;generalize w1.heap.size=bb;intro a1 b2 hC;refine ie (k1:=3) (o1:= ?oD3) (k2:=5) (o2:= ?oD5) ?hoD3 ?hoD5 ?hlD3_5 ?hrD3_5 ?stD3 ?stD5
  case hoD3=>rfl
  case hoD5=>rfl
  case hlD3_5=>decide
  case hrD3_5=>kernel_rfl
  case' stD3=>
   intro KS hKS;go_simp;have hN:(w2.alloc (.cells (dV bd.code.length) 117)).heap[w2.heap.size]?=some (.cells (dV bd.code.length) 117):=heap_alloc_new _ _;have hA:But (fun _=>False) w2 (w2.alloc (.cells (dV bd.code.length) 117)):=But.alloc _ _ _;have b0:Wb.heap.size≤w2.heap.size:=hC.size;have a0:=hC.trans hA;have a7:=hA.kp a1;clear hC hA a1;refine hKS.out _ _ (fun _=>a0) ?_;clear hKS KS;revert hN a0 b0 a7;generalize (w2.alloc (.cells (dV bd.code.length) 117))=w3;generalize w2.heap.size=gs;intro a3 b0 hC a1;refine aA (k:=5) rfl (by decide) (by kernel_rfl) ?_;intro KS hKS;go_simp;have hN:(w3.alloc (.cells (gK bd.code.length) 4)).heap[w3.heap.size]?=some (.cells (gK bd.code.length) 4):=heap_alloc_new _ _
   have hA:But (fun _=>False) w3 (w3.alloc (.cells (gK bd.code.length) 4)):=But.alloc _ _ _;have b1:Wb.heap.size≤w3.heap.size:=hC.size;have a0:=hC.trans hA;have a7:=hA.kp a1;have a4:=hA.kp a3;clear hC hA a1 a3;refine hKS.out _ _ (fun _=>a0) ?_;clear hKS KS;revert hN a0 b1 a7 a4;generalize (w3.alloc (.cells (gK bd.code.length) 4))=w4;generalize w3.heap.size=gw;intro a5 b1 hC a1 a3;refine ay (k:=6) (v:= ?vDaxz6) rfl (by decide) (by kernel_rfl) (fun _ _ _ h=>h) rfl hC ?yDaxz6 ?rDaxz6
   case yDaxz6=>intro wS h;clear h;go_simp;try rfl
   dsimp only[Act.put]
   try simp only[aK]
  case' stD5=>
   intro KS hKS;go_simp;have hN:(w2.alloc (.cells (gK bd.code.length) 4)).heap[w2.heap.size]?=some (.cells (gK bd.code.length) 4):=heap_alloc_new _ _;have hA:But (fun _=>False) w2 (w2.alloc (.cells (gK bd.code.length) 4)):=But.alloc _ _ _;have b1:Wb.heap.size≤w2.heap.size:=hC.size;have a0:=hC.trans hA;have a7:=hA.kp a1;clear hC hA a1;refine hKS.out _ _ (fun _=>a0) ?_;clear hKS KS;revert hN a0 b1 a7;generalize (w2.alloc (.cells (gK bd.code.length) 4))=w3;generalize w2.heap.size=gw;intro a5 b1 hC a1;refine aA (k:=3) rfl (by decide) (by kernel_rfl) ?_;intro KS hKS;go_simp;have hN:(w3.alloc (.cells (dV bd.code.length) 117)).heap[w3.heap.size]?=some (.cells (dV bd.code.length) 117):=heap_alloc_new _ _
   have hA:But (fun _=>False) w3 (w3.alloc (.cells (dV bd.code.length) 117)):=But.alloc _ _ _;have b0:Wb.heap.size≤w3.heap.size:=hC.size;have a0:=hC.trans hA;have a7:=hA.kp a1;have a6:=hA.kp a5;clear hC hA a1 a5;refine hKS.out _ _ (fun _=>a0) ?_;clear hKS KS;revert hN a0 b0 a7 a6;generalize (w3.alloc (.cells (dV bd.code.length) 117))=w4;generalize w3.heap.size=gs;intro a3 b0 hC a1 a5;refine ay (k:=6) (v:= ?vDbxz6) rfl (by decide) (by kernel_rfl) (fun _ _ _ h=>h) rfl hC ?yDbxz6 ?rDbxz6
   case yDbxz6=>intro wS h;clear h;go_simp;try rfl
   dsimp only[Act.put]
   try simp only[aK]
 all_goals
  obtain⟨q0,q1,q2,q3,q4,q5,q6,q7,q8⟩:=Br a1;have fz:=A9 a1;have n5:=ae a1;have m5:bb≠gs:=fun e=>by rw[e,a3]at a1;injection a1 with h;injection h with _ h2;exact absurd h2 (by decide)
  have n0:bb≠gw:=fun e=>by rw[e,a5]at a1;injection a1 with h;injection h with _ h2;exact absurd h2 (by decide)
  have hP:=vN a1 (.pointer (some ⟨b,0,none⟩)) (.int .u8 c.toNat) (.int .i64 m) (.int .u8 r.toNat) (.slice al bd.locals.length capl) (.slice ai bd.code.length capi) (.slice (some ⟨gs,0,none⟩) bd.code.length bd.code.length) (.slice (some ⟨gw,0,none⟩) bd.code.length bd.code.length) (.bool false);have hQ:=yh w4 bb (.pointer (some ⟨b,0,none⟩)) (.int .u8 c.toNat) (.int .i64 m) (.int .u8 r.toNat) (.slice al bd.locals.length capl) (.slice ai bd.code.length capi) (.slice (some ⟨gs,0,none⟩) bd.code.length bd.code.length) (.slice (some ⟨gw,0,none⟩) bd.code.length bd.code.length) (.bool false);have a4:=(hQ.block gs (ae a3) (fun e=>m5 e.symm)).trans a3
  have a6:=(hQ.block gw (ae a5) (fun e=>n0 e.symm)).trans a5;have a0:=hC.next hQ (fun k hk e=>by omega);unfold yg at hP hQ a4 a6 a0;clear a3 a5 a1 hC hQ m5 n0;have f0:=fz 0;have f1:=fz 1;have f2:=fz 2;have f3:=fz 3;have f4:=fz 4;have f5:=fz 5;have f6:=fz 6;have f7:=fz 7;have f8:=fz 8;clear fz;refine aA (k:=8) rfl (by decide) (by kernel_rfl) ?_;intro KS hKS;go_simp;refine hKS.out _ _ nofun ?_;clear hKS KS;refine b7 rfl (by kernel_rfl) ?_;clear q0 q1 q2 q3 q4 q5 q6 q7 q8 f0 f1 f2 f3 f4 f5 f6 f7 f8 n5;revert hP a4 a6 a0;generalize ((((((((w4.setCell ⟨bb,0,none⟩ (.pointer (some ⟨b,0,none⟩))).setCell ⟨bb,1,none⟩ (.int .u8 c.toNat)).setCell ⟨bb,2,none⟩ (.int .i64 m)).setCell ⟨bb,3,none⟩ (.int .u8 r.toNat)).setCell ⟨bb,4,none⟩ (.slice al bd.locals.length capl)).setCell ⟨bb,5,none⟩ (.slice ai bd.code.length capi)).setCell ⟨bb,6,none⟩ (.slice (some ⟨gs,0,none⟩) bd.code.length bd.code.length)).setCell ⟨bb,7,none⟩ (.slice (some ⟨gw,0,none⟩) bd.code.length bd.code.length)).setCell ⟨bb,8,none⟩ (.bool false)=wz
  intro a1 a3 a5 hC;have p4:=h6.size
  have e7:Bld w wz bb b gs gw c r m (.slice al bd.locals.length capl) (.slice ai bd.code.length capi) (List.replicate bd.code.length none) (List.replicate bd.code.length false) false:=by
   refine⟨h6.trans hC,by omega,by omega,by omega,by rw[List.length_replicate];exact a1,⟨List.replicate bd.code.length lV,a3,by simp[lV],fun x hx s lo e=>by rw[List.eq_of_mem_replicate hx]at e;cases e⟩,a5,by simp⟩
  have e2:=(hC.block w.heap.size b3 (fun h=>h)).trans j4.out;have g2:=(hC.block (w.heap.size+1) i4 (fun h=>h)).trans j5.out;clear k0 k1 k2 k3 k4 a3 a5 a1 hC i7 i6;obtain⟨k0,k1,k2,k3,k4⟩:=bc e2;have g0:=ae e2;have hE:=BtB.empty wz;have l0:But (fun _=>False) wz (wz.alloc (.cells #[] 5)):=But.alloc _ _ _;have d6:=e7.next l0;have g7:=hlo.but d6.but (fun _ _ h=>h);have i5:=hbd.loc.1;have h3:wfT im.classes.length bd.locals.length (List.replicate bd.code.length (none:St)).length (List.replicate bd.code.length none):=⟨rfl,fun k s l hk=>by rw[List.getElem?_replicate]at hk;split at hk<;>simp at hk⟩;have h5:okZ im.classes.length bd.locals.length [] bd.locals:=⟨by simp,fun c hc=>gd (hbd.loc.2 c hc),rfl⟩
  have h8:=jY w bb b gs gw c r m _ _ _ _ false im bd.locals.length 0 (some ⟨wz.heap.size,0,none⟩) al 0 capl [] bd.locals _ hW i5 (by simp;omega) d6 hTX.cls h3 h5 (by simp) (World.ownsRow.mono hE (Nat.zero_le _)) g7;have h0:(List.replicate bd.code.length (none:St))[0]?=some none:=by rw[List.getElem?_replicate,if_pos (by omega)]
  rw[yc h0]at h8;unfold xsV at h8;have k9:=hid h8;have i0:=hid e2;have e3:=hid g2;clear h8 hE l0 d6 g7 h3 h5 h0 e7 e2 g2 j4 j5;go_wp2_with fail;refine k9.out.mono ?_;rintro en w5 ⟨rfl,l1,a8⟩;clear k9;simp only[Bool.or_false]at a8;have g3:=(((But.alloc (fun _=>False) wz (.cells #[] 5)).mono (G:=fun k=>k=bb∨k=gs∨k=gw) (fun _ _ h=>h.elim)).trans l1).block (w.heap.size+1) (ae e3.out) (by omega);have g4:=g3.trans e3.out;have a2:=hid g4;clear g3 g4 e3 i0 k0 k1 k2 k3 k4 g0 l1;have b5:=hid (kK.start hbd);obtain⟨tab,i2⟩: ∃tab,(List.replicate bd.code.length (none:St)).set 0 (some ([],bd.locals))=tab:=⟨_,rfl⟩
  obtain⟨wt,l5⟩: ∃wt,(List.replicate bd.code.length false).set 0 true=wt:=⟨_,rfl⟩;obtain⟨j1,l4⟩: ∃j1,muW (b9 bd,(List.replicate bd.code.length false).set 0 true,false)=j1:=⟨_,rfl⟩;have h1:tab.length≤100:=by rw[←i2];simp;omega
  rw[l4]at b5;rw[i2,l5]at a8 b5;clear i2 l5 l4;have m0:=a8.cells;have e9:=gV bb gw wt w5 (by rw[a8.wl];exact m0.2.2.1) a8.wts (by rw[a8.wl];exact h1);have e6:=hid e9;clear e9 m0;go_wp2_with fail;refine e6.out.mono ?_;rintro en wx ⟨rfl,h4⟩;rw[h4];clear h4 wx e6;go_wp2_with fail
  go_loopg [8] j1 (fun mm av wr=> ∃(tab:List St) (wt:List Bool) (bad:Bool),av= .int .i64 (ir wt wt.length 0)∧Bld w wr bb b gs gw c r m (.slice al bd.locals.length capl) (.slice ai bd.code.length capi) tab wt bad∧Hid (wr.heap[w.heap.size+1]?=some (.cells #[.slice none 0 0] 65))∧Hid (kK im bd tab wt bad mm))
  case atStart=>exact⟨tab,wt,false,rfl,a8,a2,b5.out⟩
  case round=>
   clear a8 b5 h1 a2;obtain⟨tab,wt,bad,rfl,e0,a2,b5⟩:=hrel;obtain⟨c0,c6,c7,c8⟩:=e0.cells;have p2:=e0.lt
   cases bad with
   |true=>
    have hN:cZ im bd=none:=by
     rcases b5.out with⟨h,_⟩ | ⟨_,h⟩
     ·cases h
     ·exact h
    have HN:=hid hN;have r0:wr.cell? ⟨w.heap.size+1,0,none⟩=some (.slice none 0 0):=by rw[cell_of_row wr (w.heap.size+1) 0 _ _ (0,0) a2.out];rfl
    have f0:wr.frozen? ⟨w.heap.size+1,0,none⟩=false:=frozen_of_row wr (w.heap.size+1) 0 _ _ a2.out;clear hN b5;rcases lH (l:=wt) wt.length 0 (by omega)with⟨hf,e1⟩ | ⟨a,hf,n4,h7⟩
    ·rw[hf];clear hf e1;go_wp2_with fail;have h9:=heap_setCell_same wr (w.heap.size+1) 0 _ _ (.slice none 0 0) a2.out;have b4:=But.setB wr (w.heap.size+1) 0 (.slice none 0 0);revert h9 b4;generalize (wr.setCell ⟨w.heap.size+1,0,none⟩ (.slice none 0 0))=w9;intro h9 b4;have z0:w9.cell? ⟨w.heap.size+1,0,none⟩=some (.slice none 0 0):=by rw[cell_of_row w9 (w.heap.size+1) 0 _ _ (0,0) h9];rfl
     exact bodyPost_ret (v:= .tuple #[.agg #[.slice none 0 0],.bool false]) (by simp[results,Tryz.results65,go_sem,z0]) rfl ⟨e0.but.next b4 (fun k hk h=>by omega),Or.inl ⟨HN.out,rfl⟩⟩
    ·rw[hf];have n3:(0:Int)≤(a:Int):=by omega
     clear hf h7;go_wp2_with fail;have h9:=heap_setCell_same wr (w.heap.size+1) 0 _ _ (.slice none 0 0) a2.out;have b4:=But.setB wr (w.heap.size+1) 0 (.slice none 0 0);revert h9 b4;generalize (wr.setCell ⟨w.heap.size+1,0,none⟩ (.slice none 0 0))=w9;intro h9 b4;have z0:w9.cell? ⟨w.heap.size+1,0,none⟩=some (.slice none 0 0):=by rw[cell_of_row w9 (w.heap.size+1) 0 _ _ (0,0) h9];rfl
     exact bodyPost_ret (v:= .tuple #[.agg #[.slice none 0 0],.bool false]) (by simp[results,Tryz.results65,go_sem,z0]) rfl ⟨e0.but.next b4 (fun k hk h=>by omega),Or.inl ⟨HN.out,rfl⟩⟩
   |false=>
    rcases lH (l:=wt) wt.length 0 (by omega)with⟨hf,e1⟩ | ⟨a,hf,n4,h7⟩
    ·rw[hf];have hN:=b5.out.done hW hbd (fun k hk=>e1 k (Nat.zero_le _) hk);have HN:=hid hN;have r0:wr.cell? ⟨w.heap.size+1,0,none⟩=some (.slice none 0 0):=by rw[cell_of_row wr (w.heap.size+1) 0 _ _ (0,0) a2.out];rfl
     have f0:wr.frozen? ⟨w.heap.size+1,0,none⟩=false:=frozen_of_row wr (w.heap.size+1) 0 _ _ a2.out;clear hN b5 hf e1;go_wp2_with fail;have h9:=heap_setCell_same wr (w.heap.size+1) 0 _ _ (.slice (some ⟨gs,0,none⟩) tab.length tab.length) a2.out;have b4:=But.setB wr (w.heap.size+1) 0 (.slice (some ⟨gs,0,none⟩) tab.length tab.length);revert h9 b4;generalize (wr.setCell ⟨w.heap.size+1,0,none⟩ (.slice (some ⟨gs,0,none⟩) tab.length tab.length))=w9;intro h9 b4;have z0:w9.cell? ⟨w.heap.size+1,0,none⟩=some (.slice (some ⟨gs,0,none⟩) tab.length tab.length):=by rw[cell_of_row w9 (w.heap.size+1) 0 _ _ (0,0) h9];rfl
     have j0:=e0.sts.off b4 (by omega) (fun k cur hk e=>by
      rw[e,a2.out]at hk;injection hk with hk;injection hk with _ h2;exact absurd h2 (by decide))
     exact bodyPost_ret (v:= .tuple #[.agg #[.slice (some ⟨gs,0,none⟩) tab.length tab.length],.bool true]) (by simp[results,Tryz.results65,go_sem,z0]) rfl ⟨e0.but.next b4 (fun k hk h=>by omega),Or.inr ⟨tab,gs,HN.out,rfl,j0,by omega⟩⟩
    ·rw[hf];obtain⟨x,s,l,hx,n7,m4,m2⟩:=b5.out.next hW hbd h7;have o0:tab.length=bd.code.length:=m4.1;have o5:=e0.wl;obtain⟨o6,p0⟩:=e0.wcell (k:=a) (by omega);have p1:(a:Int)<(tab.length:Int):=by omega
     have n3:(0:Int)≤(a:Int):=by omega
     have j7:=hid m2;have l2:=e0.wait a false;have j2:=hid l2;clear m2 b5 hf h7;have g5:=((But.setB wr gw a (.bool false)).block (w.heap.size+1) (ae a2.out) (by omega)).trans a2.out;have e4:=hid g5;have i3:=rS w bb b gs gw m c (.slice al bd.locals.length capl) ai capi tab (wt.set a false) im bd a x s l _ hW hbd (by rw[HR.out];exact j2.out) rfl hit hTX m4 o0 hx n7;rw[HR.out]at i3;have j3:=hid i3;clear g5 a2 i3 l2 j2;go_wp2_with fail;refine j3.out.mono ?_;rintro en w7 ⟨rfl,n2,tab',wt',bad',o4,b6,l6,m3⟩;obtain⟨m',p3,l3⟩:=j7.out tab' wt' bad' l6 m3;have n1:=hid l3;have g6:=(n2.block (w.heap.size+1) (ae e4.out) (by omega)).trans e4.out
     have i1:=hid g6;have m1:=b6.cells;have e9:=gV bb gw wt' w7 (by rw[b6.wl];exact m1.2.2.1) b6.wts (by rw[b6.wl];omega);have e6:=hid e9;clear g6 l3 j7 j3 l6 m3 e9 m1 e4 c0 c6 c7 c8 o6 p0;go_wp2_with fail;refine e6.out.mono ?_;rintro en wx ⟨rfl,h4⟩;rw[h4];clear h4 wx e6;go_wp2_with fail
     go_roundg m'
     case measure=>omega
     case rel=>exact⟨tab',wt',bad',rfl,b6,i1,n1.out⟩
end
end Go.Proofs.YtpfkkmacakjmbaaGreatDoor
