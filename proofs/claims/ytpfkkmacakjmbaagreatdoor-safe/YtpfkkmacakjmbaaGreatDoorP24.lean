import Derived.Test.YtpfkkmacakjmbaaGreatDoorP23
set_option maxRecDepth 100000
set_option maxHeartbeats 6400000
set_option linter.all false
namespace Go.Proofs.YtpfkkmacakjmbaaGreatDoor
open Proofs.Tryz
section
open Go Go.RowKit Sp
attribute [local go_sem ↓] dG dH
def cK (im:Img) (bd:Bod) (tab:List St) (wt:List Bool) (a:Nat) (x:Ins) (s l:L_):Wn:=
 match eN im.zz im.zj bd x s l with
 |none=>(tab,wt,true)
 |some (s',l')=>da im.zz s' l' (tab,wt,false) (jb x a)
theorem rp {im:Img} (hW:WfI im) {nl n j:Nat} {tab:List St} {wt:List Bool} {sb lb:L_} (h:wfT im.zz.length nl n tab) (hz:okZ im.zz.length nl sb lb) (hl:sb.length<=j6 tab):wfT im.zz.length nl n (a9 im.zz (tab,wt,false) j sb lb).1/\j6 tab<=j6 (a9 im.zz (tab,wt,false) j sb lb).1:=
 jI hW.nc hW.cls (T:=(tab,false,false)) (j:=(j:Int)) h hz hl
theorem uJ (w0:World) (bb b gs gw:Nat) (m:Nat) (c:UInt8) (vl:Value) (ai:Option Addr) (capi:Nat) (tab:List St) (wt:List Bool) (im:Img) (bd:Bod) (a:Nat) (x:Ins) (s l:L_) (w:World) (hW:WfI im) (hbd:WfB im.zz im.zj bd)
  (hB:Bld w0 w bb b gs gw c (bu im.zj bd).ans m vl (.slice ai bd.code.length capi) tab wt false) (hvl:vl.oneCell'=true) (hit:ItB w0 0 (.slice ai bd.code.length capi) (bd.code.map bP)) (hTX:eS w0 b im) (hwf:wfT im.zz.length bd.locals.length bd.code.length tab) (htn:tab.length=bd.code.length)
  (hx:bd.code[a]?=some x) (hst:tab[a]?=some (some (s,l))):
  Calls prog 107 #[.pointer (some ⟨bb,0,none⟩),.int .i64 a] w λen w'=>en= .returned (.tuple #[])/\But (λk=>k=bb\/k=gs\/k=gw) w w'/\
   ∃tab' wt' bad',tab'.length=tab.length/\Bld w0 w' bb b gs gw c (bu im.zj bd).ans m vl (.slice ai bd.code.length capi) tab' wt' bad'/\bad'=(cK im bd tab wt a x s l).2.2/\(bad'=false->tab'=(cK im bd tab wt a x s l).1/\wt'=(cK im bd tab wt a x s l).2.1):=by
 have ha:=(bC hx).1;have p5:(a:Int)<(bd.code.length:Int):=by omega
 have p6:(a:Int)<(tab.length:Int):=by omega
 have p3:=hbd.len;obtain⟨l6,o3⟩:=hwf.2 a s l hst;have p4:=oQ tab;have n8:=hbd.code x (bp hx);obtain⟨a3,c3,a4,c4,t0,t1,t2,o4,o2⟩:=hB.known hst;obtain⟨c0,c6,c7,c8⟩:=hB.cells;obtain⟨d1,d2,d3,d4,d5⟩:=hB.body;have g6:ItB w 0 (.slice ai bd.code.length capi) (bd.code.map bP):=aj hit hB.but (λ_ _ h=>h);have j7:(bd.code.map bP).length=bd.code.length:=by simp
 have i6:(bd.code.map bP)[a]?=some (bP x):=by rw[cg,hx];rfl
 obtain⟨gi,p1,p2,_,i5⟩:=aF (n:=bd.code.length) (by unfold ItB at g6;rw[j7]at g6;exact g6) (by omega);have i0:w.cell? ⟨gi,a*5,none⟩=some (.int .i64 (bP x).place):=i5 _ _ (aS (k:=0) i6 (by omega));have i1:w.cell? ⟨gi,a*5+1,none⟩=some (.int .u8 (bP x).op.toNat):=i5 _ _ (aS (k:=1) i6 (by omega));have i2:w.cell? ⟨gi,a*5+2,none⟩=some (.int .u8 (bP x).cls.toNat):=i5 _ _ (aS (k:=2) i6 (by omega));have i3:w.cell? ⟨gi,a*5+3,none⟩=some (.int .i64 (bP x).num):=i5 _ _ (aS (k:=3) i6 (by omega));have i4:w.cell? ⟨gi,a*5+4,none⟩=some (.slice (bP x).pa (bP x).pn (bP x).pc):=i5 _ _ (aS (k:=4) i6 (by omega));subst p1
 clear i5 i6 j7;obtain⟨X,hX⟩: ∃X,bP x=X:=⟨_,rfl⟩;obtain⟨r,hr⟩: ∃r,(bu im.zj bd).ans=r:=⟨_,rfl⟩;rw[hX]at i0 i1 i2 i3 i4;rw[hr]at hB d3;simp only[hr];have HX:=hid hX;have HR:=hid hr;have f5:=hid (y8 hW hbd n8 l6);rw[hX,hr]at f5;clear hX hr
 go_in
 go_wp2_with fail;have f4:B_ w (w.alloc (.cells #[.int .i64 X.place,.int .u8 X.op.toNat,.int .u8 X.cls.toNat,.int .i64 X.num,.slice X.pa X.pn X.pc] 219)):=ag _ _ _;have j5:=aO w (.cells #[.int .i64 X.place,.int .u8 X.op.toNat,.int .u8 X.cls.toNat,.int .i64 X.num,.slice X.pa X.pn X.pc] 219);have g1:=hB.next f4;have n6:=o4.but f4 (λ_ _ h=>h);have n3:=o2.but f4 (λ_ _ h=>h);have n4:=hB.lt;have u0:=f4.kc t0 n4.2.1;have u1:=f4.kc t1 n4.2.1;have u2:=f4.kc t2 n4.2.1;clear i0 i1 i2 i3 i4 t0 t1 t2 c0 c6 c7 c8 d1 d2 d3 d4 d5 o4 o2;revert f4 j5 g1 n6 n3 u0 u1 u2;generalize (w.alloc (.cells #[.int .i64 X.place,.int .u8 X.op.toNat,.int .u8 X.cls.toNat,.int .i64 X.num,.slice X.pa X.pn X.pc] 219))=W
 intro f4 j5 g1 n6 n3 t0 t1 t2;obtain⟨c0,c6,c7,c8⟩:=g1.cells;obtain⟨d1,d2,d3,d4,d5⟩:=g1.body;obtain⟨k0,k1,k2,k3,k4⟩:=bN j5;have g5:=ae j5;have b2:=g1.lt;have m3:B_ W W.drew:=aD _ _;have i7:=hid (λ(wx:World) (h:B_ W wx)=>uE b (im.zz.map toX) im.zj c r m vl (.slice (some ⟨gi,0,none⟩) bd.code.length capi) X a3 a4 c3 c4 s l wx (by rw[cP];have:=hW.nc;omega) (by have:=hW.ns;omega) (hTX.cls.but (g1.but.trans h)) (hTX.met.but (g1.but.trans h)) hvl rfl (n6.but h (λ_ _ h=>h)) (n3.but h (λ_ _ h=>h)) (by omega) (by have:=l6.2.2;have:=hbd.loc.1;omega))
 have l3:Hid (∀(wx:World),B_ W wx->Calls prog 174 #[.pointer (some ⟨b,0,none⟩),.agg #[.int .u8 c.toNat,.int .i64 m,.int .u8 r.toNat,vl,.slice (some ⟨gi,0,none⟩) bd.code.length capi],.agg #[.int .i64 X.place,.int .u8 X.op.toNat,.int .u8 X.cls.toNat,.int .i64 X.num,.slice X.pa X.pn X.pc],.agg #[.bool true,.slice a3 s.length c3,.slice a4 l.length c4]] wx λen w'=>B_ wx w'/\ ∃m0 a1 n1 c1 a2 n2 c2 ok,en= .returned (.tuple #[.agg #[.bool m0,.slice a1 n1 c1,.slice a2 n2 c2],.bool ok])/\
   ((eN im.zz im.zj bd x s l=none/\ok=false)\/(∃s' l',eN im.zz im.zj bd x s l=some (s',l')/\ok=true/\m0=true/\n1=List.length s'/\n2=List.length l'/\BtB w' 0 (.slice a1 s'.length c1) s'/\BtB w' 0 (.slice a2 l'.length c2) l'))):=by
  refine hid (λwx h=>(i7.out wx h).mono ?_);rintro en w' ⟨hb,h1|h1⟩
  .obtain⟨h2,rfl⟩:=h1;exact⟨hb,false,none,0,0,none,0,0,false,rfl,Or.inl ⟨by rw[<-f5.out];exact h2,rfl⟩⟩
  .obtain⟨s',l',a1,c1,a2,c2,h2,rfl,h3,h4⟩:=h1;exact⟨hb,true,a1,_,c1,a2,_,c2,true,rfl,Or.inr ⟨s',l',by rw[<-f5.out];exact h2,rfl,rfl,rfl,rfl,dn h3 (Nat.zero_le _),dn h4 (Nat.zero_le _)⟩⟩
 clear i7 f5;have o1:=hid j5;have o0:=hid g1;refine aI (B_ W) 22 ?_
 iterate 16 (refine aQ (v:=?_) rfl m3 ?_ ?_;rotate_left;(focus (intro wS h;have q0:=(h.kc c0 b2.1);have q1:=(h.kc d1 b2.1);have q2:=(h.kc d2 b2.1);have q3:=(h.kc d3 b2.1);have q4:=(h.kc d4 b2.1);have q5:=(h.kc d5 b2.1);have q6:=(h.kc c6 b2.1);have q7:=(h.kc k0 g5);have q8:=(h.kc k1 g5);have q9:=(h.kc k2 g5);have p8:=(h.kc k3 g5);have r3:=(h.kc k4 g5);have r4:=(h.kc t0 b2.2.1);have r5:=(h.kc t1 b2.2.1);have r6:=(h.kc t2 b2.2.1);clear h;go_simp;try rfl));dsimp only[Act.put];try simp only[cH])
 refine xP (q:=20) (o:= ?oA16) (oq:= ?oqA16) (rest:= ?rsA16) (restq:= ?rqA16) ?hoA16 ?hqA16 ?hrA16 ?stA16 ?sqA16
 case hoA16=>rfl
 case hqA16=>rfl
 case hrA16=>kernel_rfl
 case' stA16=>
  intro KS hKS;go_simp;refine(l3.out W.drew m3).mono ?_;rintro en w1 ⟨h7,m0,a1,n1,c1,a2,n2,c2,ok,rfl,j3⟩;have a8:B_ W w1:=m3.trans h7;refine hKS.out _ _ (λ_=>a8) ?_;clear hKS KS
  iterate 3 (refine aQ (v:=?_) rfl a8 ?_ ?_;rotate_left;(focus (intro wS h;clear h;go_simp;try rfl));dsimp only[Act.put];try simp only[cH])
  refine az rfl ?_;intro KS hKS;go_simp;refine hKS.out _ _ (λ_=>a8.trans (ag _ _ _)) ?_;clear hKS KS;refine az rfl ?_;intro KS hKS;go_simp;refine hKS.out _ _ (λ_=>a8.trans (ag _ _ _)) ?_;clear hKS KS;refine az rfl ?_;intro KS hKS;go_simp;refine hKS.out _ _ nofun ?_;clear hKS KS;refine aR rfl ?_;have l4:B_ w1 (w1.alloc (.cells #[.bool m0,.slice a1 n1 c1,.slice a2 n2 c2] 117)):=ag _ _ _;have d6:B_ W (w1.alloc (.cells #[.bool m0,.slice a1 n1 c1,.slice a2 n2 c2] 117)):=a8.trans l4;have e0:(w1.alloc (.cells #[.bool m0,.slice a1 n1 c1,.slice a2 n2 c2] 117)).heap[w1.heap.size]?=some (.cells #[.bool m0,.slice a1 n1 c1,.slice a2 n2 c2] 117):=aO _ _
  have h9:W.heap.size<=w1.heap.size:=a8.size
  have e8:Hid ((eN im.zz im.zj bd x s l=none/\ok=false)\/(∃s' l',eN im.zz im.zj bd x s l=some (s',l')/\ok=true/\m0=true/\n1=List.length s'/\n2=List.length l'/\BtB (w1.alloc (.cells #[.bool m0,.slice a1 n1 c1,.slice a2 n2 c2] 117)) 0 (.slice a1 s'.length c1) s'/\BtB (w1.alloc (.cells #[.bool m0,.slice a1 n1 c1,.slice a2 n2 c2] 117)) 0 (.slice a2 l'.length c2) l')):=by
   obtain h| ⟨s',l',e1,e2,e3,e4,e5,e6,e7⟩:=j3
   .exact hid (Or.inl h)
   .exact hid (Or.inr ⟨s',l',e1,e2,e3,e4,e5,e6.but l4 (λ_ _ h=>h),e7.but l4 (λ_ _ h=>h)⟩)
  revert d6 e0 h9 e8;clear h7 a8 j3 l4;generalize (w1.alloc (.cells #[.bool m0,.slice a1 n1 c1,.slice a2 n2 c2] 117))=w2;generalize w1.heap.size=bm;intro d6 e0 h9 e8;clear w1
 case' sqA16=>
  intro KS hKS;go_simp;have h8:B_ W (W.alloc (.cells #[.bool false,S_,S_] 117)).drew:=(ag _ _ _).trans (aD _ _);have l5:(W.alloc (.cells #[.bool false,S_,S_] 117)).drew.heap[W.heap.size]?=some (.cells #[.bool false,S_,S_] 117):=aO _ _;revert h8 l5;generalize (W.alloc (.cells #[.bool false,S_,S_] 117)).drew=Wd;have h9:W.heap.size<=W.heap.size:=b8 _;revert h9;generalize j1:W.heap.size=bm;intro h9 h8 l5;have h9:W.heap.size<=bm:=by omega
  have o5:=hid j1;clear j1;refine hKS.out _ _ (λ_=>h8) ?_;clear hKS KS;refine xQ rfl ?_;intro KS hKS;go_simp;refine(l3.out Wd h8).mono ?_;rintro en w1 ⟨h7,m0,a1,n1,c1,a2,n2,c2,ok,rfl,j3⟩;have a8:B_ W w1:=h8.trans h7;have c9:w1.heap[bm]?=some (.cells #[.bool false,S_,S_] 117):=h7.kp l5;refine hKS.out _ _ (λ_=>a8) ?_;clear hKS KS
  iterate 3 (refine xR (v:=?_) rfl a8 ?_ ?_;rotate_left;(focus (intro wS h;clear h;go_simp;try rfl));dsimp only[Act.put];try simp only[cH])
  refine xS ?_;obtain⟨r0,r1,r2⟩:=ia c9;obtain⟨z0,z1,z2⟩:=kI c9;have rlt:=ae c9;have f0:=uD w1 bm (.bool m0) (.slice a1 n1 c1) (.slice a2 n2 c2);have e0:=ro c9 (.bool m0) (.slice a1 n1 c1) (.slice a2 n2 c2);unfold Ct at f0 e0;have d6:B_ W (((w1.setCell ⟨bm,0,none⟩ (.bool m0)).setCell ⟨bm,1,none⟩ (.slice a1 n1 c1)).setCell ⟨bm,2,none⟩ (.slice a2 n2 c2)):=a8.next f0 (λk hk e=>by omega)
  have n7: ∀k cur,w1.heap[k]?=some (.cells cur 5)-> ¬k=bm:=λk cur hk e=>by
   rw[e,c9]at hk;injection hk with hk;injection hk with _ h2;exact absurd h2 (by decide)
  have e8:Hid ((eN im.zz im.zj bd x s l=none/\ok=false)\/(∃s' l',eN im.zz im.zj bd x s l=some (s',l')/\ok=true/\m0=true/\n1=List.length s'/\n2=List.length l'/\BtB (((w1.setCell ⟨bm,0,none⟩ (.bool m0)).setCell ⟨bm,1,none⟩ (.slice a1 n1 c1)).setCell ⟨bm,2,none⟩ (.slice a2 n2 c2)) 0 (.slice a1 s'.length c1) s'/\BtB (((w1.setCell ⟨bm,0,none⟩ (.bool m0)).setCell ⟨bm,1,none⟩ (.slice a1 n1 c1)).setCell ⟨bm,2,none⟩ (.slice a2 n2 c2)) 0 (.slice a2 l'.length c2) l')):=by
   obtain h| ⟨s',l',e1,e2,e3,e4,e5,e6,e7⟩:=j3
   .exact hid (Or.inl h)
   .exact hid (Or.inr ⟨s',l',e1,e2,e3,e4,e5,bj e6 f0 (λk cur hh _=>n7 k cur hh),bj e7 f0 (λk cur hh _=>n7 k cur hh)⟩)
  refine az rfl ?_;intro KS hKS;go_simp;refine hKS.out _ _ (λ_=>d6) ?_;clear hKS KS;refine az rfl ?_;intro KS hKS;go_simp;refine hKS.out _ _ nofun ?_;clear hKS KS;refine aR rfl ?_;revert d6 e0 e8;clear h8 l5 c9 r0 r1 r2 z0 z1 z2 rlt h7 a8 f0 j3 n7;generalize (((w1.setCell ⟨bm,0,none⟩ (.bool m0)).setCell ⟨bm,1,none⟩ (.slice a1 n1 c1)).setCell ⟨bm,2,none⟩ (.slice a2 n2 c2))=w2;intro e0 d6 e8;clear w1 Wd o5
 .clear c0 c6 c7 c8 d1 d2 d3 d4 d5 k0 k1 k2 k3 k4 t0 t1 t2;have a0:=o0.out.next d6;have b0:But (λk=>k=bb\/k=gs\/k=gw) w w2:=(f4.trans d6).mono (λ_ _ h=>h.elim);have j4:=(d6.block w.heap.size g5 (λh=>h)).trans o1.out;have m5:=ae j4;obtain⟨k0,k1,k2,k3,k4⟩:=bN j4;obtain⟨m0c,m1c,m2c⟩:=ia e0;have g4:=ae e0;obtain⟨c0,c6,c7,c8⟩:=a0.cells;have f8:=a0.fz 8;clear l3;obtain⟨he,rfl⟩ | ⟨s',l',he,rfl,rfl,rfl,rfl,g0,f6⟩:=e8.out
  .have f2:cK im bd tab wt a x s l=(tab,wt,true):=by unfold cK;rw[he]
   have b1:=hid f2;clear f2 he e8;go_wp2_with fail;exact gK results107 rfl ⟨rfl,b0.trans ((au _ _ _ _).mono (λk _ h=>Or.inl h)),tab,wt,true,rfl,a0.fail,by rw[b1.out],λh=>by cases h⟩
  .have f2:cK im bd tab wt a x s l=da im.zz s' l' (tab,wt,false) (jb x a):=by unfold cK;rw[he]
   have b1:=hid f2;have h0:=mL hW n8 l6 he;have o6:=hid he;clear f2 he e8;have a6:X.op=x.op:=by rw[<-HX.out];rfl
   have b9:X.num=x.b:=by rw[<-HX.out];rfl
   have k9:=h0.1;have h6:s'.length<=101:=by have:=h0.2;omega
   have hs'N:s'.length<=j6 tab:=by have:=h0.2;omega
   have b4:wfT im.zz.length bd.locals.length tab.length tab:=by rw[htn];exact hwf
   have g7:=hbd.loc.1;have e9:=hid (λ(jj:Nat) (tb:List St) (wtt:List Bool) (bd2:Bool) (wx:World) (h1:Bld w0 wx bb b gs gw c r m vl (.slice (some ⟨gi,0,none⟩) bd.code.length capi) tb wtt bd2) (h2:wfT im.zz.length bd.locals.length tb.length tb) (h3:tb.length<=100) (h4:BtB wx 0 (.slice a1 s'.length c1) s') (h5:BtB wx 0 (.slice a2 l'.length c2) l')=>my w0 bb b gs gw c r m vl _ tb wtt bd2 im bd.locals.length jj a1 a2 c1 c2 s' l' wx hW g7 h3 h1 hTX.cls h2 k9 h6 h4 h5);unfold xsV at e9;have g3: ∀jj,(a9 im.zz (tab,wt,false) jj s' l').1.length=tab.length:=λjj=>lA _ _ _ _ _
   have m2:=λjj=>rp hW (n:=tab.length) (wt:=wt) (j:=jj) b4 k9 hs'N
   by_cases h116:X.op.toNat=116
   .have e1:((X.op.toNat:Int)==116)=true:=by rw[beq_iff_eq];omega
    have ht:jb x a=[]:=by unfold jb;rw[if_pos (by rw[<-a6];exact h116)]
    have a7:=hid (show cK im bd tab wt a x s l=(tab,wt,false) by rw[b1.out,ht];rfl);clear b1 ht a6 b9 h116;go_wp2_with fail;go_end0;exact⟨rfl,b0,tab,wt,false,rfl,a0,by rw[a7.out],λ_=>by rw[a7.out];exact⟨rfl,rfl⟩⟩
   have e1:=tf X.op.toNat 116 (by omega)
   by_cases h106:X.op.toNat=106
   .have e2:((X.op.toNat:Int)==106)=true:=by rw[beq_iff_eq];omega
    have ht:jb x a=[X.num]:=by unfold jb;rw[if_neg (by rw[<-a6];exact h116),if_pos (by rw[<-a6];exact h106),b9]
    have a7:=hid (show cK im bd tab wt a x s l=a9 im.zz (tab,wt,false) X.num s' l' by rw[b1.out,ht];rfl);clear b1 ht a6 b9 h116 h106;go_wp2_with fail;refine(e9.out X.num tab wt false w2 a0 b4 (by omega) g0 f6).mono ?_;rintro en w3 ⟨rfl,b5,a5⟩;go_wp2_with fail;go_end0;exact⟨rfl,b0.trans b5,_,_,_,g3 _,a5,by rw[a7.out];simp,λ_=>by rw[a7.out];exact⟨rfl,rfl⟩⟩
   have e2:=tf X.op.toNat 106 (by omega);have p0:IntKind.i64.wrap ((a:Int)+1)=((a+1:Nat):Int):=by rw[er _ (by omega) (by omega)];simp
   by_cases h102:X.op.toNat=102
   .have e3:((X.op.toNat:Int)==102)=true:=by rw[beq_iff_eq];omega
    have ht:jb x a=[X.num,a+1]:=by unfold jb;rw[if_neg (by rw[<-a6];exact h116),if_neg (by rw[<-a6];exact h106),if_pos (by rw[<-a6];exact h102),b9]
    have a7:=hid (show cK im bd tab wt a x s l=a9 im.zz (a9 im.zz (tab,wt,false) X.num s' l') (a+1) s' l' by rw[b1.out,ht];rfl);have b6:=m2 X.num;have b3:=g3 X.num;clear b1 ht a6 b9 h116 h106 h102;go_wp2_with fail;refine(e9.out X.num tab wt false w2 a0 b4 (by omega) g0 f6).mono ?_;rintro en w3 ⟨rfl,b5,a5⟩;have n5:BtB w3 0 (.slice a1 s'.length c1) s':=bj g0 b5 (λk cur hh _=>a0.u8 hh);have n0:BtB w3 0 (.slice a2 l'.length c2) l':=bj f6 b5 (λk cur hh _=>a0.u8 hh);have m4: ¬(bm=bb\/bm=gs\/bm=gw):=by omega
    have f3:=(b5.block bm g4 m4).trans e0;obtain⟨W1,j0⟩: ∃W1,a9 im.zz (tab,wt,false) X.num s' l'=W1:=⟨_,rfl⟩;rw[j0]at a5 b6 b3 a7;obtain⟨l0,n9,f1⟩:=W1;dsimp only at a5 b6 b3;simp only[Bool.false_or]at a5;clear j0 m0c m1c m2c k0 k1 k2 k3 c0 c6 c7 c8 f8;obtain⟨m0c,m1c,m2c⟩:=ia f3;have j2:=ae f3;go_wp2_with fail;have f7:=e9.out (a+1) l0 n9 f1 w3 a5 (by rw[b3];exact b6.1) (by omega) n5 n0;refine Calls.mono f7 ?_;rintro en w4 ⟨rfl,m1,g2⟩;clear f7;go_wp2_with fail;go_end0;refine⟨rfl,(b0.trans b5).trans m1,_,_,_,(lA im.zz (l0,false,false) ((a+1:Nat):Int) s' l').trans b3,g2,?_,?_⟩
    .rw[a7.out]
     cases f1 with
     |true=>simp only[Bool.true_or];exact(mi rfl).symm
     |false=>simp
    .intro hf
     cases f1 with
     |true=>simp at hf
     |false=>rw[a7.out];exact⟨rfl,rfl⟩
   have e3:=tf X.op.toNat 102 (by omega);have ht:jb x a=[a+1]:=by unfold jb;rw[if_neg (by rw[<-a6];exact h116),if_neg (by rw[<-a6];exact h106),if_neg (by rw[<-a6];exact h102)]
   have a7:=hid (show cK im bd tab wt a x s l=a9 im.zz (tab,wt,false) (a+1) s' l' by rw[b1.out,ht];rfl);clear b1 ht a6 b9 h116 h106 h102;go_wp2_with fail;have f7:=e9.out (a+1) tab wt false w2 a0 b4 (by omega) g0 f6;refine Calls.mono f7 ?_;rintro en w3 ⟨rfl,b5,a5⟩;go_wp2_with fail;go_end0;exact⟨rfl,b0.trans b5,_,_,_,g3 _,a5,by rw[a7.out];simp,λ_=>by rw[a7.out];exact⟨rfl,rfl⟩⟩
 .clear c0 c6 c7 c8 d1 d2 d3 d4 d5 k0 k1 k2 k3 k4 t0 t1 t2;have a0:=o0.out.next d6;have b0:But (λk=>k=bb\/k=gs\/k=gw) w w2:=(f4.trans d6).mono (λ_ _ h=>h.elim);have j4:=(d6.block w.heap.size g5 (λh=>h)).trans o1.out;have m5:=ae j4;obtain⟨k0,k1,k2,k3,k4⟩:=bN j4;obtain⟨m0c,m1c,m2c⟩:=ia e0;have g4:=ae e0;obtain⟨c0,c6,c7,c8⟩:=a0.cells;have f8:=a0.fz 8;clear l3;obtain⟨he,rfl⟩ | ⟨s',l',he,rfl,rfl,rfl,rfl,g0,f6⟩:=e8.out
  .have f2:cK im bd tab wt a x s l=(tab,wt,true):=by unfold cK;rw[he]
   have b1:=hid f2;clear f2 he e8;go_wp2_with fail;exact gK results107 rfl ⟨rfl,b0.trans ((au _ _ _ _).mono (λk _ h=>Or.inl h)),tab,wt,true,rfl,a0.fail,by rw[b1.out],λh=>by cases h⟩
  .have f2:cK im bd tab wt a x s l=da im.zz s' l' (tab,wt,false) (jb x a):=by unfold cK;rw[he]
   have b1:=hid f2;have h0:=mL hW n8 l6 he;have o6:=hid he;clear f2 he e8;have a6:X.op=x.op:=by rw[<-HX.out];rfl
   have b9:X.num=x.b:=by rw[<-HX.out];rfl
   have k9:=h0.1;have h6:s'.length<=101:=by have:=h0.2;omega
   have hs'N:s'.length<=j6 tab:=by have:=h0.2;omega
   have b4:wfT im.zz.length bd.locals.length tab.length tab:=by rw[htn];exact hwf
   have g7:=hbd.loc.1;have e9:=hid (λ(jj:Nat) (tb:List St) (wtt:List Bool) (bd2:Bool) (wx:World) (h1:Bld w0 wx bb b gs gw c r m vl (.slice (some ⟨gi,0,none⟩) bd.code.length capi) tb wtt bd2) (h2:wfT im.zz.length bd.locals.length tb.length tb) (h3:tb.length<=100) (h4:BtB wx 0 (.slice a1 s'.length c1) s') (h5:BtB wx 0 (.slice a2 l'.length c2) l')=>my w0 bb b gs gw c r m vl _ tb wtt bd2 im bd.locals.length jj a1 a2 c1 c2 s' l' wx hW g7 h3 h1 hTX.cls h2 k9 h6 h4 h5);unfold xsV at e9;have g3: ∀jj,(a9 im.zz (tab,wt,false) jj s' l').1.length=tab.length:=λjj=>lA _ _ _ _ _
   have m2:=λjj=>rp hW (n:=tab.length) (wt:=wt) (j:=jj) b4 k9 hs'N
   by_cases h116:X.op.toNat=116
   .have e1:((X.op.toNat:Int)==116)=true:=by rw[beq_iff_eq];omega
    have ht:jb x a=[]:=by unfold jb;rw[if_pos (by rw[<-a6];exact h116)]
    have a7:=hid (show cK im bd tab wt a x s l=(tab,wt,false) by rw[b1.out,ht];rfl);clear b1 ht a6 b9 h116;go_wp2_with fail;go_end0;exact⟨rfl,b0,tab,wt,false,rfl,a0,by rw[a7.out],λ_=>by rw[a7.out];exact⟨rfl,rfl⟩⟩
   have e1:=tf X.op.toNat 116 (by omega)
   by_cases h106:X.op.toNat=106
   .have e2:((X.op.toNat:Int)==106)=true:=by rw[beq_iff_eq];omega
    have ht:jb x a=[X.num]:=by unfold jb;rw[if_neg (by rw[<-a6];exact h116),if_pos (by rw[<-a6];exact h106),b9]
    have a7:=hid (show cK im bd tab wt a x s l=a9 im.zz (tab,wt,false) X.num s' l' by rw[b1.out,ht];rfl);clear b1 ht a6 b9 h116 h106;go_wp2_with fail;refine(e9.out X.num tab wt false w2 a0 b4 (by omega) g0 f6).mono ?_;rintro en w3 ⟨rfl,b5,a5⟩;go_wp2_with fail;go_end0;exact⟨rfl,b0.trans b5,_,_,_,g3 _,a5,by rw[a7.out];simp,λ_=>by rw[a7.out];exact⟨rfl,rfl⟩⟩
   have e2:=tf X.op.toNat 106 (by omega);have p0:IntKind.i64.wrap ((a:Int)+1)=((a+1:Nat):Int):=by rw[er _ (by omega) (by omega)];simp
   by_cases h102:X.op.toNat=102
   .have e3:((X.op.toNat:Int)==102)=true:=by rw[beq_iff_eq];omega
    have ht:jb x a=[X.num,a+1]:=by unfold jb;rw[if_neg (by rw[<-a6];exact h116),if_neg (by rw[<-a6];exact h106),if_pos (by rw[<-a6];exact h102),b9]
    have a7:=hid (show cK im bd tab wt a x s l=a9 im.zz (a9 im.zz (tab,wt,false) X.num s' l') (a+1) s' l' by rw[b1.out,ht];rfl);have b6:=m2 X.num;have b3:=g3 X.num;clear b1 ht a6 b9 h116 h106 h102;go_wp2_with fail;refine(e9.out X.num tab wt false w2 a0 b4 (by omega) g0 f6).mono ?_;rintro en w3 ⟨rfl,b5,a5⟩;have n5:BtB w3 0 (.slice a1 s'.length c1) s':=bj g0 b5 (λk cur hh _=>a0.u8 hh);have n0:BtB w3 0 (.slice a2 l'.length c2) l':=bj f6 b5 (λk cur hh _=>a0.u8 hh);have m4: ¬(bm=bb\/bm=gs\/bm=gw):=by omega
    have f3:=(b5.block bm g4 m4).trans e0;obtain⟨W1,j0⟩: ∃W1,a9 im.zz (tab,wt,false) X.num s' l'=W1:=⟨_,rfl⟩;rw[j0]at a5 b6 b3 a7;obtain⟨l0,n9,f1⟩:=W1;dsimp only at a5 b6 b3;simp only[Bool.false_or]at a5;clear j0 m0c m1c m2c k0 k1 k2 k3 c0 c6 c7 c8 f8;obtain⟨m0c,m1c,m2c⟩:=ia f3;have j2:=ae f3;go_wp2_with fail;have f7:=e9.out (a+1) l0 n9 f1 w3 a5 (by rw[b3];exact b6.1) (by omega) n5 n0;refine Calls.mono f7 ?_;rintro en w4 ⟨rfl,m1,g2⟩;clear f7;go_wp2_with fail;go_end0;refine⟨rfl,(b0.trans b5).trans m1,_,_,_,(lA im.zz (l0,false,false) ((a+1:Nat):Int) s' l').trans b3,g2,?_,?_⟩
    .rw[a7.out]
     cases f1 with
     |true=>simp only[Bool.true_or];exact(mi rfl).symm
     |false=>simp
    .intro hf
     cases f1 with
     |true=>simp at hf
     |false=>rw[a7.out];exact⟨rfl,rfl⟩
   have e3:=tf X.op.toNat 102 (by omega);have ht:jb x a=[a+1]:=by unfold jb;rw[if_neg (by rw[<-a6];exact h116),if_neg (by rw[<-a6];exact h106),if_neg (by rw[<-a6];exact h102)]
   have a7:=hid (show cK im bd tab wt a x s l=a9 im.zz (tab,wt,false) (a+1) s' l' by rw[b1.out,ht];rfl);clear b1 ht a6 b9 h116 h106 h102;go_wp2_with fail;have f7:=e9.out (a+1) tab wt false w2 a0 b4 (by omega) g0 f6;refine Calls.mono f7 ?_;rintro en w3 ⟨rfl,b5,a5⟩;go_wp2_with fail;go_end0;exact⟨rfl,b0.trans b5,_,_,_,g3 _,a5,by rw[a7.out];simp,λ_=>by rw[a7.out];exact⟨rfl,rfl⟩⟩
theorem oB {l:List Bool}: ∀(f k:Nat),k+f=l.length->(ki l f k= -1/\ ∀j,k<=j->j<l.length->l.getD j false=false)\/ ∃j:Nat,ki l f k=j/\j<l.length/\l.getD j false=true:=by
 intro f
 induction f with
 |zero=>intro k hk;exact Or.inl ⟨rfl,λj h1 h2=>by omega⟩
 |succ f ih=>
  intro k hk;simp only[ki]
  by_cases h:l.getD k false=true
  .exact Or.inr ⟨k,by rw[if_pos h],by omega,h⟩
  .rw[if_neg h];obtain⟨h1,h2⟩ |h1:=ih (k+1) (by omega)
   .refine Or.inl ⟨h1,λj h3 h4=> ?_⟩
    by_cases hj:j=k
    .subst hj;simpa using h
    .exact h2 j (by omega) h4
   .exact Or.inr h1
def KnW (tab:List St) (wt:List Bool):Prop:= ∀k,wt.getD k false=true-> ∃s l,tab[k]?=some (some (s,l))
theorem oC {cs:List Cls} {T:Tn} {j k:Nat} {sb lb s l:L_} (h:T.1[k]?=some (some (s,l))): ∃s' l',(cF cs T j sb lb).1[k]?=some (some (s',l')):=by
 unfold cF
 split
 .exact⟨s,l,h⟩
 split
 .exact⟨s,l,h⟩
 split
 .exact⟨s,l,h⟩
 rename_i m hm
 split
 .exact⟨s,l,h⟩
 simp only
 by_cases hjk:(j:Int).toNat=k
 .have hk:=(bC h).1;rw[hjk,List.getElem?_set_self hk];exact⟨m.1,m.2,rfl⟩
 .rw[List.getElem?_set_ne hjk];exact⟨s,l,h⟩
theorem zb {cs:List Cls} {W:Wn} {j:Nat} {sb lb:L_} (h:KnW W.1 W.2.1):KnW (a9 cs W j sb lb).1 (a9 cs W j sb lb).2.1:=by
 intro k hk;unfold a9 at hk⊢;simp only at hk⊢
 by_cases hc:(cF cs (W.1,false,W.2.2) j sb lb).2.1=true
 .rw[if_pos hc]at hk
  by_cases hjk:j=k
  .subst hjk;unfold cF at hc⊢
   split at hc
   .cases hc
   split at hc
   .cases hc
   split at hc
   .cases hc
   rename_i m hm
   split at hc
   .cases hc
   rename_i h1 h2 _ _
   rw[if_neg h1,if_neg h2];simp only[hm]
   rename_i h4
   rw[if_neg h4];simp only;rw[Int.toNat_natCast,List.getElem?_set_self (by simp at h2;omega)];exact⟨m.1,m.2,rfl⟩
  .have a0:W.2.1.getD k false=true:=by simpa[List.getD,List.getElem?_set,hjk]using hk
   obtain⟨s,l,h1⟩:=h k a0;exact oC (T:=(W.1,false,W.2.2)) h1
 .rw[if_neg hc]at hk;obtain⟨s,l,h1⟩:=h k hk;exact oC (T:=(W.1,false,W.2.2)) h1
theorem uK {cs:List Cls} {sb lb:L_}: ∀{l:List Nat} {W:Wn},KnW W.1 W.2.1->KnW (da cs sb lb W l).1 (da cs sb lb W l).2.1:=by
 intro l
 induction l with
 |nil=>intro W h;exact h
 |cons j l ih=>intro W h;exact ih (W:=a9 cs W j sb lb) (zb h)
theorem wC {im:Img} {bd:Bod} {tab:List St} {wt:List Bool} {a:Nat} {x:Ins} {s l:L_} (h:KnW tab wt):KnW (cK im bd tab wt a x s l).1 (cK im bd tab wt a x s l).2.1:=by
 unfold cK
 split
 .exact h
 .exact uK (W:=(tab,wt,false)) h
theorem KnW.unset {tab:List St} {wt:List Bool} (h:KnW tab wt) (a:Nat):KnW tab (wt.set a false):=by
 intro k hk
 by_cases hak:a=k
 .subst hak
  have h0:(wt.set a false).getD a false=false:=by
   by_cases h:a<wt.length<;>simp[List.getD,h]
  rw[h0]at hk
  cases hk
 .exact h k (by simpa[List.getD,List.getElem?_set,hak]using hk)
theorem zc {im:Img} {bd:Bod} {tab:List St} {wt:List Bool} {a:Nat} {x:Ins} {s l:L_}:cK im bd tab (wt.set a false) a x s l=gT im bd (tab,wt,false) a x s l:=by
 unfold cK gT
 cases eN im.zz im.zj bd x s l<;>rfl
def nt (im:Img) (bd:Bod) (tab:List St) (wt:List Bool) (bad:Bool) (mm:Nat):Prop:=
 (bad=false/\pi im bd (λ_=>False) (tab,wt,false)/\xZ im bd (tab,wt,false)/\KnW tab wt/\muW (tab,wt,false)<=mm)\/(bad=true/\dR im bd=none)
theorem nt.start {im:Img} {bd:Bod} (hbd:WfB im.zz im.zj bd):nt im bd ((List.replicate bd.code.length (none:St)).set 0 (some ([],bd.locals))) ((List.replicate bd.code.length false).set 0 true) false (muW (dh bd,(List.replicate bd.code.length false).set 0 true,false)):=by
 have hn:=hbd.len.1
 have a1: ∀k s l,(dh bd)[k]?=some (some (s,l))->k=0:=by
  intro k s l h
  by_cases hk:k=0
  .exact hk
  .unfold dh at h;rw[List.getElem?_set_ne (λe=>hk e.symm),List.getElem?_replicate]at h
   split at h<;>simp at h
 refine Or.inl ⟨rfl,⟨g8 hbd,by simp,ea _,λ_ k hk _ hw=> ?_⟩,λH hG=>⟨rfl,kS hG⟩,λk hk=> ?_,b8 _⟩
 .intro x s l _ h;have:=a1 k s l h;subst this;simp[List.getD,hn]at hw
 .by_cases h0:k=0
  .subst h0;exact⟨[],bd.locals,by rw[List.getElem?_set_self (by simpa using hn)]⟩
  .exfalso
   have a0: ¬0=k:=λe=>h0 e.symm
   simp only[List.getD,List.getElem?_set_ne a0,List.getElem?_replicate]at hk
   split at hk<;>simp at hk
theorem nt.next {im:Img} {bd:Bod} (hW:WfI im) (hbd:WfB im.zz im.zj bd) {tab:List St} {wt:List Bool} {mm a:Nat} (h:nt im bd tab wt false mm) (ha:wt.getD a false=true):
  ∃x s l,bd.code[a]?=some x/\tab[a]?=some (some (s,l))/\wfT im.zz.length bd.locals.length bd.code.length tab/\ ∀tab' wt' bad',bad'=(cK im bd tab (wt.set a false) a x s l).2.2->(bad'=false->tab'=(cK im bd tab (wt.set a false) a x s l).1/\wt'=(cK im bd tab (wt.set a false) a x s l).2.1)-> ∃m',m'<mm/\nt im bd tab' wt' bad' m':=by
 obtain⟨_,hI,hL,hK,a6⟩ | ⟨h,_⟩:=h
 .obtain⟨s,l,hs⟩:=hK a ha;have a5:=(bC hs).1;have a7:tab.length=bd.code.length:=hI.wf.1;obtain⟨x,hx⟩: ∃x,bd.code[a]?=some x:=⟨_,aH (by omega)⟩;refine⟨x,s,l,hx,hs,hI.wf,?_⟩;intro tab' wt' bad' hb ht;have a1:=wC (im:=im) (bd:=bd) (a:=a) (x:=x) (s:=s) (l:=l) (hK.unset a);rw[zc]at hb ht a1;have a0:=tM hW.cls hL hx hs
  cases hbb:(gT im bd (tab,wt,false) a x s l).2.2 with
  |true=>
   rw[hbb]at hb
   have a4:0<muW (tab,wt,false):=by
    have:=kB ha;unfold muW;simp only;omega
   exact⟨0,by omega,Or.inr ⟨hb,a0.none hW hbd hbb⟩⟩
  |false=>
   rw[hbb]at hb;obtain⟨e1,e2⟩:=ht hb;obtain⟨a3,a2⟩:=tN hW hbd rfl hI ha hx hs hbb
   have eW:gT im bd (tab,wt,false) a x s l=(tab',wt',false):=by
    rw[e1,e2];exact Prod.ext rfl (Prod.ext rfl hbb)
   rw[eW]at a3 a0 a2 a1;exact⟨muW (tab',wt',false),by omega,Or.inl ⟨hb,a3,a0,a1,b8 _⟩⟩
 .cases h
theorem nt.done {im:Img} {bd:Bod} (hW:WfI im) (hbd:WfB im.zz im.zj bd) {tab:List St} {wt:List Bool} {mm:Nat} (h:nt im bd tab wt false mm) (hn: ∀k,k<wt.length->wt.getD k false=false):dR im bd=some tab:=by
 obtain⟨_,hI,hL,hK,a0⟩ | ⟨h,_⟩:=h
 .exact pi.done hW hbd rfl hI hL (λk hk=>hn k (by have:=hI.wl;simp only at this;omega))
 .cases h
theorem uL:(prog.info? 117).map (λi=>(i.zero,i.size,i.bytes))=some (some (.agg #[.bool false,S_,S_]),3,56):=by kernel_rfl
theorem pZ:(prog.info? 4).map (λi=>(i.zero,i.size,i.bytes))=some (some (.bool false),1,1):=by kernel_rfl
def oN:St×Value×Value:=(none,S_,S_)
theorem zd (n:Nat):madeCells #[.bool false,S_,S_] (n*3)=(fD (List.replicate n oN)).toArray:=by
 apply Array.ext
 .rw[size_madeCells];simp[uH]
 .intro k h1 h2;rw[size_madeCells]at h1;have hk:k=(k / 3)*3+k % 3:=by omega
  have hl:(List.replicate n oN)[k / 3]?=some oN:=by
   rw[List.getElem?_replicate,if_pos (by omega)]
  have:=dq (k:=k % 3) hl (by omega);rw[<-hk]at this;have h3:(fD (List.replicate n oN)).toArray[k]?=some ((fD (List.replicate n oN)).toArray[k]):=by rw[Array.getElem?_eq_getElem h2]
  rw[List.getElem?_toArray,this]at h3
  have h4:(madeCells #[.bool false,S_,S_] (n*3))[k]'(by rw[size_madeCells];exact h1)=#[Value.bool false,S_,S_][k % 3]!:=by
   simp[madeCells]
  rw[h4];generalize k % 3=r at h3
  match r with
  |0=>simp[stC,oN]at h3;exact h3
  |1=>simp[stC,oN]at h3;exact h3
  |2=>simp[stC,oN]at h3;exact h3
  |r+3=>simp[stC,oN]at h3
theorem uM (n:Nat):madeCells #[.bool false] n=((List.replicate n false).map Value.bool).toArray:=by
 apply Array.ext
 .rw[size_madeCells];simp
 .intro k h1 h2;have e:k % 1=0:=by omega
  simp[madeCells,e]
def ip (n:Nat):Array Value:=((List.replicate n false).map Value.bool).toArray
def fx (n:Nat):Array Value:=(fD (List.replicate n oN)).toArray
theorem A9 (n:Nat) (hn:n<=1000) (w:World):(Instr.makeSlice 179 (.int .i64 (n:Int)) (.int .i64 (n:Int))).run prog w= .ok (.slice (some ⟨w.heap.size,0,none⟩) n n) (w.alloc (.cells (ip n) 4)):=by
 have a0:=pZ
 cases hi:prog.info? 4 with
 |none=>rw[hi]at a0;cases a0
 |some i=>
  rw[hi]at a0;simp only[Option.map_some,Option.some.injEq,Prod.mk.injEq]at a0;obtain⟨hz,hs,hb⟩:=a0;have:=run_make (P:=prog) w 179 4 i _ (by kernel_rfl) hi hz .i64 .i64 n n (by omega) (by omega) (by rw[hb];omega) (by omega);rw[this,hs];simp only[Int.toNat_natCast,Value.cells,Nat.mul_one];rw[uM]
  rfl
theorem ze (n:Nat) (hn:n<=1000) (w:World):(Instr.makeSlice 63 (.int .i64 (n:Int)) (.int .i64 (n:Int))).run prog w= .ok (.slice (some ⟨w.heap.size,0,none⟩) n n) (w.alloc (.cells (fx n) 117)):=by
 have a0:=uL
 cases hi:prog.info? 117 with
 |none=>rw[hi]at a0;cases a0
 |some i=>
  rw[hi]at a0;simp only[Option.map_some,Option.some.injEq,Prod.mk.injEq]at a0;obtain⟨hz,hs,hb⟩:=a0;have:=run_make (P:=prog) w 63 117 i _ (by kernel_rfl) hi hz .i64 .i64 n n (by omega) (by omega) (by rw[hb];omega) (by omega);rw[this,hs];simp only[Int.toNat_natCast,Value.cells];rw[zd]
  rfl
def Ba (w:World) (g:Nat) (x0 x1 x2 x3 x4 x5 x6 x7 x8:Value):World:=((((((((w.setCell ⟨g,0,none⟩ x0).setCell ⟨g,1,none⟩ x1).setCell ⟨g,2,none⟩ x2).setCell ⟨g,3,none⟩ x3).setCell ⟨g,4,none⟩ x4).setCell ⟨g,5,none⟩ x5).setCell ⟨g,6,none⟩ x6).setCell ⟨g,7,none⟩ x7).setCell ⟨g,8,none⟩ x8
theorem zf {w:World} {g t:Nat} {a0 a1 a2 a3 a4 a5 a6 a7 a8:Value} (h:w.heap[g]?=some (.cells #[a0,a1,a2,a3,a4,a5,a6,a7,a8] t)) (x0 x1 x2 x3 x4 x5 x6 x7 x8:Value):(Ba w g x0 x1 x2 x3 x4 x5 x6 x7 x8).heap[g]?=some (.cells #[x0,x1,x2,x3,x4,x5,x6,x7,x8] t):=by
 unfold Ba;have h0: ∀w:World,w.heap[g]?=some (.cells #[a0,a1,a2,a3,a4,a5,a6,a7,a8] t)->(w.setCell ⟨g,0,none⟩ x0).heap[g]?=some (.cells #[x0,a1,a2,a3,a4,a5,a6,a7,a8] t):=λw h=>bG w g 0 _ _ x0 h
 have h1: ∀w:World,w.heap[g]?=some (.cells #[x0,a1,a2,a3,a4,a5,a6,a7,a8] t)->(w.setCell ⟨g,1,none⟩ x1).heap[g]?=some (.cells #[x0,x1,a2,a3,a4,a5,a6,a7,a8] t):=λw h=>bG w g 1 _ _ x1 h
 have h2: ∀w:World,w.heap[g]?=some (.cells #[x0,x1,a2,a3,a4,a5,a6,a7,a8] t)->(w.setCell ⟨g,2,none⟩ x2).heap[g]?=some (.cells #[x0,x1,x2,a3,a4,a5,a6,a7,a8] t):=λw h=>bG w g 2 _ _ x2 h
 have h3: ∀w:World,w.heap[g]?=some (.cells #[x0,x1,x2,a3,a4,a5,a6,a7,a8] t)->(w.setCell ⟨g,3,none⟩ x3).heap[g]?=some (.cells #[x0,x1,x2,x3,a4,a5,a6,a7,a8] t):=λw h=>bG w g 3 _ _ x3 h
 have h4: ∀w:World,w.heap[g]?=some (.cells #[x0,x1,x2,x3,a4,a5,a6,a7,a8] t)->(w.setCell ⟨g,4,none⟩ x4).heap[g]?=some (.cells #[x0,x1,x2,x3,x4,a5,a6,a7,a8] t):=λw h=>bG w g 4 _ _ x4 h
 have h5: ∀w:World,w.heap[g]?=some (.cells #[x0,x1,x2,x3,x4,a5,a6,a7,a8] t)->(w.setCell ⟨g,5,none⟩ x5).heap[g]?=some (.cells #[x0,x1,x2,x3,x4,x5,a6,a7,a8] t):=λw h=>bG w g 5 _ _ x5 h
 have h6: ∀w:World,w.heap[g]?=some (.cells #[x0,x1,x2,x3,x4,x5,a6,a7,a8] t)->(w.setCell ⟨g,6,none⟩ x6).heap[g]?=some (.cells #[x0,x1,x2,x3,x4,x5,x6,a7,a8] t):=λw h=>bG w g 6 _ _ x6 h
 have h7: ∀w:World,w.heap[g]?=some (.cells #[x0,x1,x2,x3,x4,x5,x6,a7,a8] t)->(w.setCell ⟨g,7,none⟩ x7).heap[g]?=some (.cells #[x0,x1,x2,x3,x4,x5,x6,x7,a8] t):=λw h=>bG w g 7 _ _ x7 h
 have h8: ∀w:World,w.heap[g]?=some (.cells #[x0,x1,x2,x3,x4,x5,x6,x7,a8] t)->(w.setCell ⟨g,8,none⟩ x8).heap[g]?=some (.cells #[x0,x1,x2,x3,x4,x5,x6,x7,x8] t):=λw h=>bG w g 8 _ _ x8 h
 exact h8 _ (h7 _ (h6 _ (h5 _ (h4 _ (h3 _ (h2 _ (h1 _ (h0 _ h))))))))
theorem But.put {g:Nat} {w w':World} (h:But (· =g) w w') (k:Nat) (x:Value):But (· =g) w (w'.setCell ⟨g,k,none⟩ x):=h.trans (au w' g k x)
theorem Bb (w:World) (g:Nat) (x0 x1 x2 x3 x4 x5 x6 x7 x8:Value):But (· =g) w (Ba w g x0 x1 x2 x3 x4 x5 x6 x7 x8):=by
 unfold Ba;exact((((((((au w g 0 x0).put 1 x1).put 2 x2).put 3 x3).put 4 x4).put 5 x5).put 6 x6).put 7 x7).put 8 x8
theorem E9 {w:World} {g t:Nat} {x0 x1 x2 x3 x4 x5 x6 x7 x8:Value} (h:w.heap[g]?=some (.cells #[x0,x1,x2,x3,x4,x5,x6,x7,x8] t)):
  w.cell? ⟨g,0,none⟩=some x0/\w.cell? ⟨g,1,none⟩=some x1/\w.cell? ⟨g,2,none⟩=some x2/\w.cell? ⟨g,3,none⟩=some x3/\w.cell? ⟨g,4,none⟩=some x4/\w.cell? ⟨g,5,none⟩=some x5/\w.cell? ⟨g,6,none⟩=some x6/\w.cell? ⟨g,7,none⟩=some x7/\w.cell? ⟨g,8,none⟩=some x8:=by
 refine⟨?_,?_,?_,?_,?_,?_,?_,?_,?_⟩
 .rw[aX w g 0 _ _ (0,0) h];rfl
 .rw[aX w g 1 _ _ (0,0) h];rfl
 .rw[aX w g 2 _ _ (0,0) h];rfl
 .rw[aX w g 3 _ _ (0,0) h];rfl
 .rw[aX w g 4 _ _ (0,0) h];rfl
 .rw[aX w g 5 _ _ (0,0) h];rfl
 .rw[aX w g 6 _ _ (0,0) h];rfl
 .rw[aX w g 7 _ _ (0,0) h];rfl
 .rw[aX w g 8 _ _ (0,0) h];rfl
theorem Ek {w:World} {g t:Nat} {cs:Array Value} (h:w.heap[g]?=some (.cells cs t)): ∀k,w.frozen? ⟨g,k,none⟩=false:=λk=>b7 w g k _ _ h
theorem wD (b:Nat) (im:Img) (bd:Bod) (c:UInt8) (m:Nat) (al ai:Option Addr) (capl capi:Nat) (w:World) (hW:WfI im) (hbd:WfB im.zz im.zj bd) (hTX:eS w b im) (hlo:BtB w 0 (.slice al bd.locals.length capl) bd.locals) (hit:ItB w 0 (.slice ai bd.code.length capi) (bd.code.map bP)):
  Calls prog 65 #[.pointer (some ⟨b,0,none⟩),hdV c m (bu im.zj bd).ans (.slice al bd.locals.length capl) (.slice ai bd.code.length capi)] w λen w'=>B_ w w'/\
   ((dR im bd=none/\en= .returned (.tuple #[.agg #[S_],.bool false]))\/(∃tb gs,dR im bd=some tb/\en= .returned (.tuple #[.agg #[.slice (some ⟨gs,0,none⟩) (List.length tb) (List.length tb)],.bool true])/\StB w' gs tb/\w.heap.size<=gs)):=by
 unfold hdV;obtain⟨r,hr⟩: ∃r,(bu im.zj bd).ans=r:=⟨_,rfl⟩;have HR:=hid hr;rw[hr];clear hr;have n6:=hbd.len;have i4:=ze bd.code.length (by omega);have i3:=A9 bd.code.length (by omega);have h3:B_ w ((w.alloc (.cells #[.int .u8 c.toNat,.int .i64 m,.int .u8 r.toNat,.slice al bd.locals.length capl,.slice ai bd.code.length capi] 115)).alloc (.cells #[S_] 65)):=(ag _ _ _).trans (ag _ _ _)
 have e3:((w.alloc (.cells #[.int .u8 c.toNat,.int .i64 m,.int .u8 r.toNat,.slice al bd.locals.length capl,.slice ai bd.code.length capi] 115)).alloc (.cells #[S_] 65)).heap[w.heap.size]?=some (.cells #[.int .u8 c.toNat,.int .i64 m,.int .u8 r.toNat,.slice al bd.locals.length capl,.slice ai bd.code.length capi] 115):=by
  rw[Below.heap_alloc _ _ _ (by first| (simp;done) | (simp;omega))];exact aO w _
 have e8:((w.alloc (.cells #[.int .u8 c.toNat,.int .i64 m,.int .u8 r.toNat,.slice al bd.locals.length capl,.slice ai bd.code.length capi] 115)).alloc (.cells #[S_] 65)).heap[w.heap.size+1]?=some (.cells #[S_] 65):=aB (by simp) _
 go_in
 go_wp2_with fail;revert h3 e3 e8;generalize ((w.alloc (.cells #[.int .u8 c.toNat,.int .i64 m,.int .u8 r.toNat,.slice al bd.locals.length capl,.slice ai bd.code.length capi] 115)).alloc (.cells #[S_] 65))=Wb;intro h3 e3 e8;obtain⟨k0,k1,k2,k3,k4⟩:=bN e3;have b3:=ae e3;have i1:=ae e8;have j1:=hid e3;have j2:=hid e8;clear e3 e8;have l4:B_ Wb Wb.drew:=aD _ _;refine dv (B_ Wb) 8 ?_;have fSA:=hid (λwS (h:(B_ Wb) wS)=>(And.intro (h.kc k0 b3) (And.intro (h.kc k1 b3) (And.intro (h.kc k2 b3) (And.intro (h.kc k3 b3) (h.kc k4 b3))))));refine dg [0,1,2,4] ?_
 iterate 4 (refine dw (v:=?_) rfl l4 ?_ ?_;rotate_left;(focus (intro wS h;obtain⟨q0,q1,q2,q3,q4⟩:=fSA.out wS h;clear h;go_simp;try rfl));dsimp only[Act.put];try simp only[cH])
 try clear fSA
 revert l4;generalize Wb.drew=w1;intro hC;refine xM (k1:=3) (o1:= ?oA3) (k2:=5) (o2:= ?oA5) (k3:=7) (o3:= ?oA7) ?hoA3 ?hoA5 ?hoA7 ?hlA3_5_7 ?hrA3_5_7 ?stA3 ?stA5 ?stA7
 case hoA3=>rfl
 case hoA5=>rfl
 case hoA7=>rfl
 case hlA3_5_7=>decide
 case hrA3_5_7=>kernel_rfl
 case' stA3=>
  intro KS hKS;go_simp;have hN:(w1.alloc (.cells (fx bd.code.length) 117)).heap[w1.heap.size]?=some (.cells (fx bd.code.length) 117):=aO _ _;have hA:B_ w1 (w1.alloc (.cells (fx bd.code.length) 117)):=ag _ _ _;have b0:Wb.heap.size<=w1.heap.size:=hC.size;have a0:=hC.trans hA;clear hC hA;refine hKS.out _ _ (λ_=>a0) ?_;clear hKS KS;revert hN a0 b0;generalize (w1.alloc (.cells (fx bd.code.length) 117))=w2;generalize w1.heap.size=gs;intro a3 b0 hC;refine jY (k1:=5) (o1:= ?oB5) (k2:=7) (o2:= ?oB7) ?hoB5 ?hoB7 ?hlB5_7 ?hrB5_7 ?stB5 ?stB7
  case hoB5=>rfl
  case hoB7=>rfl
  case hlB5_7=>decide
  case hrB5_7=>kernel_rfl
  case' stB5=>
   intro KS hKS;go_simp;have hN:(w2.alloc (.cells (ip bd.code.length) 4)).heap[w2.heap.size]?=some (.cells (ip bd.code.length) 4):=aO _ _;have hA:B_ w2 (w2.alloc (.cells (ip bd.code.length) 4)):=ag _ _ _;have b1:Wb.heap.size<=w2.heap.size:=hC.size;have a0:=hC.trans hA;have a4:=hA.kp a3;clear hC hA a3;refine hKS.out _ _ (λ_=>a0) ?_;clear hKS KS;revert hN a0 b1 a4;generalize (w2.alloc (.cells (ip bd.code.length) 4))=w3;generalize w2.heap.size=gw;intro a5 b1 hC a3;refine iL (k:=6) (v:= ?vBbxq6) rfl hC ?yBbxq6 ?rBbxq6
   case yBbxq6=>intro wS h;clear h;go_simp;try rfl
   dsimp only[Act.put]
   try simp only[cH]
   refine aG (k:=7) rfl ?_;intro KS hKS;go_simp;have hN:(w3.alloc (.cells #[.pointer none,.int .u8 0,.int .i64 0,.int .u8 0,S_,S_,S_,S_,.bool false] 181)).heap[w3.heap.size]?=some (.cells #[.pointer none,.int .u8 0,.int .i64 0,.int .u8 0,S_,S_,S_,S_,.bool false] 181):=aO _ _;have hA:B_ w3 (w3.alloc (.cells #[.pointer none,.int .u8 0,.int .i64 0,.int .u8 0,S_,S_,S_,S_,.bool false] 181)):=ag _ _ _;have b2:Wb.heap.size<=w3.heap.size:=hC.size
   have a0:=hC.trans hA;have a4:=hA.kp a3;have a6:=hA.kp a5;clear hC hA a3 a5;refine hKS.out _ _ (λ_=>a0) ?_;clear hKS KS;revert hN a0 b2 a4 a6;generalize (w3.alloc (.cells #[.pointer none,.int .u8 0,.int .i64 0,.int .u8 0,S_,S_,S_,S_,.bool false] 181))=w4;generalize w3.heap.size=bb;intro a1 b2 hC a3 a5
  case' stB7=>
   intro KS hKS;go_simp;have hN:(w2.alloc (.cells #[.pointer none,.int .u8 0,.int .i64 0,.int .u8 0,S_,S_,S_,S_,.bool false] 181)).heap[w2.heap.size]?=some (.cells #[.pointer none,.int .u8 0,.int .i64 0,.int .u8 0,S_,S_,S_,S_,.bool false] 181):=aO _ _;have hA:B_ w2 (w2.alloc (.cells #[.pointer none,.int .u8 0,.int .i64 0,.int .u8 0,S_,S_,S_,S_,.bool false] 181)):=ag _ _ _;have b2:Wb.heap.size<=w2.heap.size:=hC.size;have a0:=hC.trans hA
   have a4:=hA.kp a3;clear hC hA a3;refine hKS.out _ _ (λ_=>a0) ?_;clear hKS KS;revert hN a0 b2 a4;generalize (w2.alloc (.cells #[.pointer none,.int .u8 0,.int .i64 0,.int .u8 0,S_,S_,S_,S_,.bool false] 181))=w3;generalize w2.heap.size=bb;intro a1 b2 hC a3;refine aG (k:=5) rfl ?_;intro KS hKS;go_simp;have hN:(w3.alloc (.cells (ip bd.code.length) 4)).heap[w3.heap.size]?=some (.cells (ip bd.code.length) 4):=aO _ _;have hA:B_ w3 (w3.alloc (.cells (ip bd.code.length) 4)):=ag _ _ _;have b1:Wb.heap.size<=w3.heap.size:=hC.size;have a0:=hC.trans hA
   have a4:=hA.kp a3;have a7:=hA.kp a1;clear hC hA a3 a1;refine hKS.out _ _ (λ_=>a0) ?_;clear hKS KS;revert hN a0 b1 a4 a7;generalize (w3.alloc (.cells (ip bd.code.length) 4))=w4;generalize w3.heap.size=gw;intro a5 b1 hC a3 a1;refine iL (k:=6) (v:= ?vBcxz6) rfl hC ?yBcxz6 ?rBcxz6
   case yBcxz6=>intro wS h;clear h;go_simp;try rfl
   dsimp only[Act.put]
   try simp only[cH]
 case' stA5=>
  intro KS hKS;go_simp;have hN:(w1.alloc (.cells (ip bd.code.length) 4)).heap[w1.heap.size]?=some (.cells (ip bd.code.length) 4):=aO _ _;have hA:B_ w1 (w1.alloc (.cells (ip bd.code.length) 4)):=ag _ _ _;have b1:Wb.heap.size<=w1.heap.size:=hC.size;have a0:=hC.trans hA;clear hC hA;refine hKS.out _ _ (λ_=>a0) ?_;clear hKS KS;revert hN a0 b1;generalize (w1.alloc (.cells (ip bd.code.length) 4))=w2;generalize w1.heap.size=gw;intro a5 b1 hC;refine jY (k1:=3) (o1:= ?oC3) (k2:=7) (o2:= ?oC7) ?hoC3 ?hoC7 ?hlC3_7 ?hrC3_7 ?stC3 ?stC7
  case hoC3=>rfl
  case hoC7=>rfl
  case hlC3_7=>decide
  case hrC3_7=>kernel_rfl
  case' stC3=>
   intro KS hKS;go_simp;have hN:(w2.alloc (.cells (fx bd.code.length) 117)).heap[w2.heap.size]?=some (.cells (fx bd.code.length) 117):=aO _ _;have hA:B_ w2 (w2.alloc (.cells (fx bd.code.length) 117)):=ag _ _ _;have b0:Wb.heap.size<=w2.heap.size:=hC.size;have a0:=hC.trans hA;have a6:=hA.kp a5;clear hC hA a5;refine hKS.out _ _ (λ_=>a0) ?_;clear hKS KS;revert hN a0 b0 a6;generalize (w2.alloc (.cells (fx bd.code.length) 117))=w3;generalize w2.heap.size=gs;intro a3 b0 hC a5;refine iL (k:=6) (v:= ?vCaxq6) rfl hC ?yCaxq6 ?rCaxq6
   case yCaxq6=>intro wS h;clear h;go_simp;try rfl
   dsimp only[Act.put]
   try simp only[cH]
   refine aG (k:=7) rfl ?_;intro KS hKS;go_simp;have hN:(w3.alloc (.cells #[.pointer none,.int .u8 0,.int .i64 0,.int .u8 0,S_,S_,S_,S_,.bool false] 181)).heap[w3.heap.size]?=some (.cells #[.pointer none,.int .u8 0,.int .i64 0,.int .u8 0,S_,S_,S_,S_,.bool false] 181):=aO _ _;have hA:B_ w3 (w3.alloc (.cells #[.pointer none,.int .u8 0,.int .i64 0,.int .u8 0,S_,S_,S_,S_,.bool false] 181)):=ag _ _ _;have b2:Wb.heap.size<=w3.heap.size:=hC.size
   have a0:=hC.trans hA;have a6:=hA.kp a5;have a4:=hA.kp a3;clear hC hA a5 a3;refine hKS.out _ _ (λ_=>a0) ?_;clear hKS KS;revert hN a0 b2 a6 a4;generalize (w3.alloc (.cells #[.pointer none,.int .u8 0,.int .i64 0,.int .u8 0,S_,S_,S_,S_,.bool false] 181))=w4;generalize w3.heap.size=bb;intro a1 b2 hC a5 a3
  case' stC7=>
   intro KS hKS;go_simp;have hN:(w2.alloc (.cells #[.pointer none,.int .u8 0,.int .i64 0,.int .u8 0,S_,S_,S_,S_,.bool false] 181)).heap[w2.heap.size]?=some (.cells #[.pointer none,.int .u8 0,.int .i64 0,.int .u8 0,S_,S_,S_,S_,.bool false] 181):=aO _ _;have hA:B_ w2 (w2.alloc (.cells #[.pointer none,.int .u8 0,.int .i64 0,.int .u8 0,S_,S_,S_,S_,.bool false] 181)):=ag _ _ _;have b2:Wb.heap.size<=w2.heap.size:=hC.size;have a0:=hC.trans hA
   have a6:=hA.kp a5;clear hC hA a5;refine hKS.out _ _ (λ_=>a0) ?_;clear hKS KS;revert hN a0 b2 a6;generalize (w2.alloc (.cells #[.pointer none,.int .u8 0,.int .i64 0,.int .u8 0,S_,S_,S_,S_,.bool false] 181))=w3;generalize w2.heap.size=bb;intro a1 b2 hC a5;refine aG (k:=3) rfl ?_;intro KS hKS;go_simp;have hN:(w3.alloc (.cells (fx bd.code.length) 117)).heap[w3.heap.size]?=some (.cells (fx bd.code.length) 117):=aO _ _;have hA:B_ w3 (w3.alloc (.cells (fx bd.code.length) 117)):=ag _ _ _;have b0:Wb.heap.size<=w3.heap.size:=hC.size
   have a0:=hC.trans hA;have a6:=hA.kp a5;have a7:=hA.kp a1;clear hC hA a5 a1;refine hKS.out _ _ (λ_=>a0) ?_;clear hKS KS;revert hN a0 b0 a6 a7;generalize (w3.alloc (.cells (fx bd.code.length) 117))=w4;generalize w3.heap.size=gs;intro a3 b0 hC a5 a1;refine iL (k:=6) (v:= ?vCcxz6) rfl hC ?yCcxz6 ?rCcxz6
   case yCcxz6=>intro wS h;clear h;go_simp;try rfl
   dsimp only[Act.put]
   try simp only[cH]
 case' stA7=>
  intro KS hKS;go_simp;have hN:(w1.alloc (.cells #[.pointer none,.int .u8 0,.int .i64 0,.int .u8 0,S_,S_,S_,S_,.bool false] 181)).heap[w1.heap.size]?=some (.cells #[.pointer none,.int .u8 0,.int .i64 0,.int .u8 0,S_,S_,S_,S_,.bool false] 181):=aO _ _;have hA:B_ w1 (w1.alloc (.cells #[.pointer none,.int .u8 0,.int .i64 0,.int .u8 0,S_,S_,S_,S_,.bool false] 181)):=ag _ _ _;have b2:Wb.heap.size<=w1.heap.size:=hC.size;have a0:=hC.trans hA
  clear hC hA;refine hKS.out _ _ (λ_=>a0) ?_;clear hKS KS;revert hN a0 b2;generalize (w1.alloc (.cells #[.pointer none,.int .u8 0,.int .i64 0,.int .u8 0,S_,S_,S_,S_,.bool false] 181))=w2;generalize w1.heap.size=bb;intro a1 b2 hC;refine jY (k1:=3) (o1:= ?oD3) (k2:=5) (o2:= ?oD5) ?hoD3 ?hoD5 ?hlD3_5 ?hrD3_5 ?stD3 ?stD5
  case hoD3=>rfl
  case hoD5=>rfl
  case hlD3_5=>decide
  case hrD3_5=>kernel_rfl
  case' stD3=>
   intro KS hKS;go_simp;have hN:(w2.alloc (.cells (fx bd.code.length) 117)).heap[w2.heap.size]?=some (.cells (fx bd.code.length) 117):=aO _ _;have hA:B_ w2 (w2.alloc (.cells (fx bd.code.length) 117)):=ag _ _ _;have b0:Wb.heap.size<=w2.heap.size:=hC.size;have a0:=hC.trans hA;have a7:=hA.kp a1;clear hC hA a1;refine hKS.out _ _ (λ_=>a0) ?_;clear hKS KS;revert hN a0 b0 a7;generalize (w2.alloc (.cells (fx bd.code.length) 117))=w3;generalize w2.heap.size=gs;intro a3 b0 hC a1;refine aG (k:=5) rfl ?_;intro KS hKS;go_simp;have hN:(w3.alloc (.cells (ip bd.code.length) 4)).heap[w3.heap.size]?=some (.cells (ip bd.code.length) 4):=aO _ _
   have hA:B_ w3 (w3.alloc (.cells (ip bd.code.length) 4)):=ag _ _ _;have b1:Wb.heap.size<=w3.heap.size:=hC.size;have a0:=hC.trans hA;have a7:=hA.kp a1;have a4:=hA.kp a3;clear hC hA a1 a3;refine hKS.out _ _ (λ_=>a0) ?_;clear hKS KS;revert hN a0 b1 a7 a4;generalize (w3.alloc (.cells (ip bd.code.length) 4))=w4;generalize w3.heap.size=gw;intro a5 b1 hC a1 a3;refine iL (k:=6) (v:= ?vDaxz6) rfl hC ?yDaxz6 ?rDaxz6
   case yDaxz6=>intro wS h;clear h;go_simp;try rfl
   dsimp only[Act.put]
   try simp only[cH]
  case' stD5=>
   intro KS hKS;go_simp;have hN:(w2.alloc (.cells (ip bd.code.length) 4)).heap[w2.heap.size]?=some (.cells (ip bd.code.length) 4):=aO _ _;have hA:B_ w2 (w2.alloc (.cells (ip bd.code.length) 4)):=ag _ _ _;have b1:Wb.heap.size<=w2.heap.size:=hC.size;have a0:=hC.trans hA;have a7:=hA.kp a1;clear hC hA a1;refine hKS.out _ _ (λ_=>a0) ?_;clear hKS KS;revert hN a0 b1 a7;generalize (w2.alloc (.cells (ip bd.code.length) 4))=w3;generalize w2.heap.size=gw;intro a5 b1 hC a1;refine aG (k:=3) rfl ?_;intro KS hKS;go_simp;have hN:(w3.alloc (.cells (fx bd.code.length) 117)).heap[w3.heap.size]?=some (.cells (fx bd.code.length) 117):=aO _ _
   have hA:B_ w3 (w3.alloc (.cells (fx bd.code.length) 117)):=ag _ _ _;have b0:Wb.heap.size<=w3.heap.size:=hC.size;have a0:=hC.trans hA;have a7:=hA.kp a1;have a6:=hA.kp a5;clear hC hA a1 a5;refine hKS.out _ _ (λ_=>a0) ?_;clear hKS KS;revert hN a0 b0 a7 a6;generalize (w3.alloc (.cells (fx bd.code.length) 117))=w4;generalize w3.heap.size=gs;intro a3 b0 hC a1 a5;refine iL (k:=6) (v:= ?vDbxz6) rfl hC ?yDbxz6 ?rDbxz6
   case yDbxz6=>intro wS h;clear h;go_simp;try rfl
   dsimp only[Act.put]
   try simp only[cH]
 all_goals
  obtain⟨q0,q1,q2,q3,q4,q5,q6,q7,q8⟩:=E9 a1;have fz:=Ek a1;have n5:=ae a1;have m5:bb≠gs:=λe=>by rw[e,a3]at a1;injection a1 with h;injection h with _ h2;exact absurd h2 (by decide)
  have n0:bb≠gw:=λe=>by rw[e,a5]at a1;injection a1 with h;injection h with _ h2;exact absurd h2 (by decide)
  have hP:=zf a1 (.pointer (some ⟨b,0,none⟩)) (.int .u8 c.toNat) (.int .i64 m) (.int .u8 r.toNat) (.slice al bd.locals.length capl) (.slice ai bd.code.length capi) (.slice (some ⟨gs,0,none⟩) bd.code.length bd.code.length) (.slice (some ⟨gw,0,none⟩) bd.code.length bd.code.length) (.bool false);have hQ:=Bb w4 bb (.pointer (some ⟨b,0,none⟩)) (.int .u8 c.toNat) (.int .i64 m) (.int .u8 r.toNat) (.slice al bd.locals.length capl) (.slice ai bd.code.length capi) (.slice (some ⟨gs,0,none⟩) bd.code.length bd.code.length) (.slice (some ⟨gw,0,none⟩) bd.code.length bd.code.length) (.bool false);have a4:=(hQ.block gs (ae a3) (λe=>m5 e.symm)).trans a3
  have a6:=(hQ.block gw (ae a5) (λe=>n0 e.symm)).trans a5;have a0:=hC.next hQ (λk hk e=>by omega);unfold Ba at hP hQ a4 a6 a0;clear a3 a5 a1 hC hQ m5 n0;have f0:=fz 0;have f1:=fz 1;have f2:=fz 2;have f3:=fz 3;have f4:=fz 4;have f5:=fz 5;have f6:=fz 6;have f7:=fz 7;have f8:=fz 8;clear fz;refine aG (k:=8) rfl ?_;intro KS hKS;go_simp;refine hKS.out _ _ nofun ?_;clear hKS KS;refine dl rfl ?_;clear q0 q1 q2 q3 q4 q5 q6 q7 q8 f0 f1 f2 f3 f4 f5 f6 f7 f8 n5;revert hP a4 a6 a0;generalize ((((((((w4.setCell ⟨bb,0,none⟩ (.pointer (some ⟨b,0,none⟩))).setCell ⟨bb,1,none⟩ (.int .u8 c.toNat)).setCell ⟨bb,2,none⟩ (.int .i64 m)).setCell ⟨bb,3,none⟩ (.int .u8 r.toNat)).setCell ⟨bb,4,none⟩ (.slice al bd.locals.length capl)).setCell ⟨bb,5,none⟩ (.slice ai bd.code.length capi)).setCell ⟨bb,6,none⟩ (.slice (some ⟨gs,0,none⟩) bd.code.length bd.code.length)).setCell ⟨bb,7,none⟩ (.slice (some ⟨gw,0,none⟩) bd.code.length bd.code.length)).setCell ⟨bb,8,none⟩ (.bool false)=wz
  intro a1 a3 a5 hC;have p2:=h3.size
  have e5:Bld w wz bb b gs gw c r m (.slice al bd.locals.length capl) (.slice ai bd.code.length capi) (List.replicate bd.code.length none) (List.replicate bd.code.length false) false:=by
   refine⟨h3.trans hC,by omega,by omega,by omega,by rw[List.length_replicate];exact a1,⟨List.replicate bd.code.length oN,a3,by simp[oN],λx hx s lo e=>by rw[List.eq_of_mem_replicate hx]at e;cases e⟩,a5,by simp⟩
  have e0:=(hC.block w.heap.size b3 (λh=>h)).trans j1.out;have e9:=(hC.block (w.heap.size+1) i1 (λh=>h)).trans j2.out;clear k0 k1 k2 k3 k4 a3 a5 a1 hC i4 i3;obtain⟨k0,k1,k2,k3,k4⟩:=bN e0;have e7:=ae e0;have hE:=BtB.empty wz;have j5:B_ wz (wz.alloc (.cells #[] 5)):=ag _ _ _;have b9:=e5.next j5;have g4:=hlo.but b9.but (λ_ _ h=>h);have i2:=hbd.loc.1;have g6:wfT im.zz.length bd.locals.length (List.replicate bd.code.length (none:St)).length (List.replicate bd.code.length none):=⟨rfl,λk s l hk=>by rw[List.getElem?_replicate]at hk;split at hk<;>simp at hk⟩;have h1:okZ im.zz.length bd.locals.length [] bd.locals:=⟨by simp,λc hc=>j8 (hbd.loc.2 c hc),rfl⟩
  have h5:=my w bb b gs gw c r m _ _ _ _ false im bd.locals.length 0 (some ⟨wz.heap.size,0,none⟩) al 0 capl [] bd.locals _ hW i2 (by simp;omega) b9 hTX.cls g6 h1 (by simp) (dn hE (Nat.zero_le _)) g4;have h0:(List.replicate bd.code.length (none:St))[0]?=some none:=by rw[List.getElem?_replicate,if_pos (by omega)]
  rw[A7 h0]at h5;unfold xsV at h5;have j4:=hid h5;have h6:=hid e0;have e1:=hid e9;clear h5 hE j5 b9 g4 g6 h1 h0 e5 e0 e9 j1 j2;go_wp2_with fail;refine j4.out.mono ?_;rintro en w5 ⟨rfl,j7,a8⟩;clear j4;simp only[Bool.or_false]at a8;have g0:=(((ag (λ_=>False) wz (.cells #[] 5)).mono (G:=λk=>k=bb\/k=gs\/k=gw) (λ_ _ h=>h.elim)).trans j7).block (w.heap.size+1) (ae e1.out) (by omega);have g1:=g0.trans e1.out;have a2:=hid g1;clear g0 g1 e1 h6 k0 k1 k2 k3 k4 e7 j7;have b5:=hid (nt.start hbd);obtain⟨tab,h8⟩: ∃tab,(List.replicate bd.code.length (none:St)).set 0 (some ([],bd.locals))=tab:=⟨_,rfl⟩;obtain⟨wt,l5⟩: ∃wt,(List.replicate bd.code.length false).set 0 true=wt:=⟨_,rfl⟩
  obtain⟨i6,l3⟩: ∃i6,muW (dh bd,(List.replicate bd.code.length false).set 0 true,false)=i6:=⟨_,rfl⟩;have g5:tab.length<=100:=by rw[<-h8];simp;omega
  rw[l3]at b5;rw[h8,l5]at a8 b5;clear h8 l5 l3;have m0:=a8.cells;have e6:=jL bb gw wt w5 (by rw[a8.wl];exact m0.2.2.1) a8.wts (by rw[a8.wl];exact g5);have e4:=hid e6;clear e6 m0;go_wp2_with fail;refine e4.out.mono ?_;rintro en wx ⟨rfl,g7⟩;rw[g7];clear g7 wx e4;go_wp2_with fail
  go_loopg [8] i6 (λmm av wr=> ∃(tab:List St) (wt:List Bool) (bad:Bool),av= .int .i64 (ki wt wt.length 0)/\Bld w wr bb b gs gw c r m (.slice al bd.locals.length capl) (.slice ai bd.code.length capi) tab wt bad/\Hid (wr.heap[w.heap.size+1]?=some (.cells #[S_] 65))/\Hid (nt im bd tab wt bad mm))
  case atStart=>exact⟨tab,wt,false,rfl,a8,a2,b5.out⟩
  case round=>
   clear a8 b5 g5 a2;obtain⟨tab,wt,bad,rfl,c9,a2,b5⟩:=hrel;obtain⟨c0,c6,c7,c8⟩:=c9.cells;have p0:=c9.lt
   cases bad with
   |true=>
    have hN:dR im bd=none:=by
     obtain⟨h,_⟩ | ⟨_,h⟩:=b5.out
     .cases h
     .exact h
    have HN:=hid hN;have r0:wr.cell? ⟨w.heap.size+1,0,none⟩=some S_:=by rw[aX wr (w.heap.size+1) 0 _ _ (0,0) a2.out];rfl
    have f0:wr.frozen? ⟨w.heap.size+1,0,none⟩=false:=b7 wr (w.heap.size+1) 0 _ _ a2.out;clear hN b5;obtain⟨hf,d6⟩ | ⟨a,hf,n4,h4⟩:=oB (l:=wt) wt.length 0 (by omega)
    .rw[hf];clear hf d6;go_wp2_with fail;have h9:=bG wr (w.heap.size+1) 0 _ _ S_ a2.out;have b4:=au wr (w.heap.size+1) 0 S_;revert h9 b4;generalize (wr.setCell ⟨w.heap.size+1,0,none⟩ S_)=w9;intro h9 b4;have z0:w9.cell? ⟨w.heap.size+1,0,none⟩=some S_:=by rw[aX w9 (w.heap.size+1) 0 _ _ (0,0) h9];rfl
     exact cW (v:= .tuple #[.agg #[S_],.bool false]) (by simp[results,results65,go_sem,z0]) rfl ⟨c9.but.next b4 (λk hk h=>by omega),Or.inl ⟨HN.out,rfl⟩⟩
    .rw[hf];have n3:(0:Int)<=(a:Int):=by omega
     clear hf h4;go_wp2_with fail;have h9:=bG wr (w.heap.size+1) 0 _ _ S_ a2.out;have b4:=au wr (w.heap.size+1) 0 S_;revert h9 b4;generalize (wr.setCell ⟨w.heap.size+1,0,none⟩ S_)=w9;intro h9 b4;have z0:w9.cell? ⟨w.heap.size+1,0,none⟩=some S_:=by rw[aX w9 (w.heap.size+1) 0 _ _ (0,0) h9];rfl
     exact cW (v:= .tuple #[.agg #[S_],.bool false]) (by simp[results,results65,go_sem,z0]) rfl ⟨c9.but.next b4 (λk hk h=>by omega),Or.inl ⟨HN.out,rfl⟩⟩
   |false=>
    obtain⟨hf,d6⟩ | ⟨a,hf,n4,h4⟩:=oB (l:=wt) wt.length 0 (by omega)
    .rw[hf];have hN:=b5.out.done hW hbd (λk hk=>d6 k (Nat.zero_le _) hk);have HN:=hid hN;have r0:wr.cell? ⟨w.heap.size+1,0,none⟩=some S_:=by rw[aX wr (w.heap.size+1) 0 _ _ (0,0) a2.out];rfl
     have f0:wr.frozen? ⟨w.heap.size+1,0,none⟩=false:=b7 wr (w.heap.size+1) 0 _ _ a2.out;clear hN b5 hf d6;go_wp2_with fail;have h9:=bG wr (w.heap.size+1) 0 _ _ (.slice (some ⟨gs,0,none⟩) tab.length tab.length) a2.out;have b4:=au wr (w.heap.size+1) 0 (.slice (some ⟨gs,0,none⟩) tab.length tab.length);revert h9 b4;generalize (wr.setCell ⟨w.heap.size+1,0,none⟩ (.slice (some ⟨gs,0,none⟩) tab.length tab.length))=w9;intro h9 b4;have z0:w9.cell? ⟨w.heap.size+1,0,none⟩=some (.slice (some ⟨gs,0,none⟩) tab.length tab.length):=by rw[aX w9 (w.heap.size+1) 0 _ _ (0,0) h9];rfl
     have i5:=c9.sts.off b4 (by omega) (λk cur hk e=>by
      rw[e,a2.out]at hk;injection hk with hk;injection hk with _ h2;exact absurd h2 (by decide))
     exact cW (v:= .tuple #[.agg #[.slice (some ⟨gs,0,none⟩) tab.length tab.length],.bool true]) (by simp[results,results65,go_sem,z0]) rfl ⟨c9.but.next b4 (λk hk h=>by omega),Or.inr ⟨tab,gs,HN.out,rfl,i5,by omega⟩⟩
    .rw[hf];obtain⟨x,s,l,hx,n7,m4,m2⟩:=b5.out.next hW hbd h4;have n8:tab.length=bd.code.length:=m4.1;have o0:=c9.wl;obtain⟨o4,o5⟩:=c9.wcell (k:=a) (by omega);have o6:(a:Int)<(tab.length:Int):=by omega
     have n3:(0:Int)<=(a:Int):=by omega
     have j3:=hid m2;have k9:=c9.wait a false;have i7:=hid k9;clear m2 b5 hf h4;have g2:=((au wr gw a (.bool false)).block (w.heap.size+1) (ae a2.out) (by omega)).trans a2.out;have e2:=hid g2;have i0:=uJ w bb b gs gw m c (.slice al bd.locals.length capl) ai capi tab (wt.set a false) im bd a x s l _ hW hbd (by rw[HR.out];exact i7.out) rfl hit hTX m4 n8 hx n7;rw[HR.out]at i0;have j0:=hid i0;clear g2 a2 i0 k9 i7;go_wp2_with fail;refine j0.out.mono ?_;rintro en w7 ⟨rfl,n2,tab',wt',bad',n9,b6,l6,m3⟩;obtain⟨m',p1,l0⟩:=j3.out tab' wt' bad' l6 m3;have n1:=hid l0;have g3:=(n2.block (w.heap.size+1) (ae e2.out) (by omega)).trans e2.out
     have h7:=hid g3;have m1:=b6.cells;have e6:=jL bb gw wt' w7 (by rw[b6.wl];exact m1.2.2.1) b6.wts (by rw[b6.wl];omega);have e4:=hid e6;clear g3 l0 j3 j0 l6 m3 e6 m1 e2 c0 c6 c7 c8 o4 o5;go_wp2_with fail;refine e4.out.mono ?_;rintro en wx ⟨rfl,g7⟩;rw[g7];clear g7 wx e4;go_wp2_with fail
     go_roundg m'
     case measure=>omega
     case rel=>exact⟨tab',wt',bad',rfl,b6,h7,n1.out⟩
end
end Go.Proofs.YtpfkkmacakjmbaaGreatDoor
