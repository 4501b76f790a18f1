import Derived.Test.YtpfkkmacakjmbaaGreatDoorP23
set_option maxRecDepth 100000
set_option maxHeartbeats 6400000
set_option linter.all false
namespace Go.Proofs.YtpfkkmacakjmbaaGreatDoor
open Proofs.Tryz
section
open Go Go.RowKit Sp
attribute [local go_sem ↓] eF eG
def cM (im:Img) (bd:Bod) (tab:List St) (wt:List Bool) (a:Nat) (x:Ins) (s l:L_):Wn:=
 match cX im.zq im.zx bd x s l with
 |none=>(tab,wt,true)
 |some (s',l')=>cZ im.zq s' l' (tab,wt,false) (jw x a)
theorem sx {im:Img} (hW:WfI im) {nl n j:Nat} {tab:List St} {wt:List Bool} {sb lb:L_} (h:wfT im.zq.length nl n tab) (hz:okZ im.zq.length nl sb lb) (hl:sb.length<=kH tab):wfT im.zq.length nl n (bq im.zq (tab,wt,false) j sb lb).1/\kH tab<=kH (bq im.zq (tab,wt,false) j sb lb).1:=
 kk hW.nc hW.cls (T:=(tab,false,false)) (j:=(j:Int)) h hz hl
theorem vJ (w0:World) (bb b gs gw:Nat) (m:Nat) (c:UInt8) (vl:Value) (ai:Option Addr) (capi:Nat) (tab:List St) (wt:List Bool) (im:Img) (bd:Bod) (a:Nat) (x:Ins) (s l:L_) (w:World) (hW:WfI im) (hbd:WfB im.zq im.zx bd)
  (hB:Bld w0 w bb b gs gw c (aR im.zx bd).ans m vl (.slice ai bd.code.length capi) tab wt false) (hvl:vl.oneCell'=true) (hit:ItB w0 0 (.slice ai bd.code.length capi) (bd.code.map aJ)) (hTX:d9 w0 b im) (hwf:wfT im.zq.length bd.zy.length bd.code.length tab) (htn:tab.length=bd.code.length)
  (hx:bd.code[a]?=some x) (hst:tab[a]?=some (some (s,l))):
  Calls prog 107 #[.pointer (some ⟨bb,0,none⟩),.int .i64 a] w λen w'=>en= .returned (.tuple #[])/\But (λk=>k=bb\/k=gs\/k=gw) w w'/\
   ∃tab' wt' bad',tab'.length=tab.length/\Bld w0 w' bb b gs gw c (aR im.zx bd).ans m vl (.slice ai bd.code.length capi) tab' wt' bad'/\bad'=(cM im bd tab wt a x s l).2.2/\(bad'=false->tab'=(cM im bd tab wt a x s l).1/\wt'=(cM im bd tab wt a x s l).2.1):=by
 have ha:=(bn hx).1;have m1:(a:Int)<(bd.code.length:Int):=by omega
 have m2:(a:Int)<(tab.length:Int):=by omega
 have l5:=hbd.len;obtain⟨g3,j4⟩:=hwf.2 a s l hst;have l6:=pK tab;have i7:=hbd.code x (a9 hx);obtain⟨a3,c3,a4,c4,t0,t1,t2,j5,j3⟩:=hB.known hst;obtain⟨c0,c6,c7,c8⟩:=hB.cells;obtain⟨d1,d2,d3,d4,d5⟩:=hB.body;have b2:ItB w 0 (.slice ai bd.code.length capi) (bd.code.map aJ):=ah hit hB.but (λ_ _ h=>h);have f5:(bd.code.map aJ).length=bd.code.length:=by simp
 have d6:(bd.code.map aJ)[a]?=some (aJ x):=by rw[cg,hx];rfl
 obtain⟨gi,l3,l4,_,b9⟩:=aL (n:=bd.code.length) (by unfold ItB at b2;rw[f5]at b2;exact b2) (by omega);have i0:w.cell? ⟨gi,a*5,none⟩=some (.int .i64 (aJ x).place):=b9 _ _ (aW (k:=0) d6 (by omega));have i1:w.cell? ⟨gi,a*5+1,none⟩=some (.int .u8 (aJ x).op.toNat):=b9 _ _ (aW (k:=1) d6 (by omega));have i2:w.cell? ⟨gi,a*5+2,none⟩=some (.int .u8 (aJ x).cls.toNat):=b9 _ _ (aW (k:=2) d6 (by omega));have i3:w.cell? ⟨gi,a*5+3,none⟩=some (.int .i64 (aJ x).num):=b9 _ _ (aW (k:=3) d6 (by omega));have i4:w.cell? ⟨gi,a*5+4,none⟩=some (.slice (aJ x).pa (aJ x).pn (aJ x).pc):=b9 _ _ (aW (k:=4) d6 (by omega));subst l3
 clear b9 d6 f5;obtain⟨X,hX⟩: ∃X,aJ x=X:=⟨_,rfl⟩;obtain⟨r,hr⟩: ∃r,(aR im.zx bd).ans=r:=⟨_,rfl⟩;rw[hX]at i0 i1 i2 i3 i4;rw[hr]at hB d3;simp only[hr];have HX:=hid hX;have HR:=hid hr;have a5:=hid (Az hW hbd i7 g3);rw[hX,hr]at a5;clear hX hr
 go_in
 go_wp2_with fail;have M:B_ w (w.alloc (.cells #[.int .i64 X.place,.int .u8 X.op.toNat,.int .u8 X.cls.toNat,.int .i64 X.num,.slice X.pa X.pn X.pc] 219)):=ag _ _ _;have f4:=bj w (.cells #[.int .i64 X.place,.int .u8 X.op.toNat,.int .u8 X.cls.toNat,.int .i64 X.num,.slice X.pa X.pn X.pc] 219);have a6:=hB.next M;have i5:=j5.but M (λ_ _ h=>h);have h7:=j3.but M (λ_ _ h=>h);have h8:=hB.lt;have u0:=M.kc t0 h8.2.1;have u1:=M.kc t1 h8.2.1;have u2:=M.kc t2 h8.2.1;clear i0 i1 i2 i3 i4 t0 t1 t2 c0 c6 c7 c8 d1 d2 d3 d4 d5 j5 j3;revert M f4 a6 i5 h7 u0 u1 u2;generalize (w.alloc (.cells #[.int .i64 X.place,.int .u8 X.op.toNat,.int .u8 X.cls.toNat,.int .i64 X.num,.slice X.pa X.pn X.pc] 219))=W
 intro M f4 a6 i5 h7 t0 t1 t2;obtain⟨c0,c6,c7,c8⟩:=a6.cells;obtain⟨d1,d2,d3,d4,d5⟩:=a6.body;obtain⟨k0,k1,k2,k3,k4⟩:=bI f4;have b1:=ae f4;have A:=a6.lt;have g6:B_ W W.drew:=aD _ _;have e0:=hid (λ(wx:World) (h:B_ W wx)=>vE b (im.zq.map toX) im.zx c r m vl (.slice (some ⟨gi,0,none⟩) bd.code.length capi) X a3 a4 c3 c4 s l wx (by rw[bZ];have:=hW.nc;omega) (by have:=hW.ns;omega) (hTX.cls.but (a6.but.trans h)) (hTX.met.but (a6.but.trans h)) hvl rfl (i5.but h (λ_ _ h=>h)) (h7.but h (λ_ _ h=>h)) (by omega) (by have:=g3.2.2;have:=hbd.loc.1;omega))
 have g0:Hid (∀(wx:World),B_ W wx->Calls prog 174 #[.pointer (some ⟨b,0,none⟩),.agg #[.int .u8 c.toNat,.int .i64 m,.int .u8 r.toNat,vl,.slice (some ⟨gi,0,none⟩) bd.code.length capi],.agg #[.int .i64 X.place,.int .u8 X.op.toNat,.int .u8 X.cls.toNat,.int .i64 X.num,.slice X.pa X.pn X.pc],.agg #[.bool true,.slice a3 s.length c3,.slice a4 l.length c4]] wx λen w'=>B_ wx w'/\ ∃m0 a1 T c1 D Y c2 ok,en= .returned (.tuple #[.agg #[.bool m0,.slice a1 T c1,.slice D Y c2],.bool ok])/\
   ((cX im.zq im.zx bd x s l=none/\ok=false)\/(∃s' l',cX im.zq im.zx bd x s l=some (s',l')/\ok=true/\m0=true/\T=List.length s'/\Y=List.length l'/\BtB w' 0 (.slice a1 s'.length c1) s'/\BtB w' 0 (.slice D l'.length c2) l'))):=by
  refine hid (λwx h=>(e0.out wx h).mono ?_);rintro en w' ⟨hb,h1|h1⟩
  .obtain⟨h2,rfl⟩:=h1;exact⟨hb,false,none,0,0,none,0,0,false,rfl,Or.inl ⟨by rw[<-a5.out];exact h2,rfl⟩⟩
  .obtain⟨s',l',a1,c1,D,c2,h2,rfl,h3,h4⟩:=h1;exact⟨hb,true,a1,_,c1,D,_,c2,true,rfl,Or.inr ⟨s',l',by rw[<-a5.out];exact h2,rfl,rfl,rfl,rfl,dh h3 (Nat.zero_le _),dh h4 (Nat.zero_le _)⟩⟩
 clear e0 a5;have j2:=hid f4;have j1:=hid a6;refine aF (B_ W) 22 ?_
 iterate 16 (refine aN (v:=?_) rfl g6 ?_ ?_;rotate_left;(focus (intro wS h;have q0:=(h.kc c0 A.1);have q1:=(h.kc d1 A.1);have q2:=(h.kc d2 A.1);have q3:=(h.kc d3 A.1);have q4:=(h.kc d4 A.1);have q5:=(h.kc d5 A.1);have q6:=(h.kc c6 A.1);have q7:=(h.kc k0 b1);have q8:=(h.kc k1 b1);have q9:=(h.kc k2 b1);have m3:=(h.kc k3 b1);have m4:=(h.kc k4 b1);have m5:=(h.kc t0 A.2.1);have n0:=(h.kc t1 A.2.1);have n3:=(h.kc t2 A.2.1);clear h;go_simp;try rfl));dsimp only[Act.put];try simp only[bW])
 refine zc (q:=20) (o:= ?oA16) (oq:= ?oqA16) (rest:= ?rsA16) (restq:= ?rqA16) ?hoA16 ?hqA16 ?hrA16 ?stA16 ?sqA16
 case hoA16=>rfl
 case hqA16=>rfl
 case hrA16=>kernel_rfl
 case' stA16=>
  intro KS hKS;go_simp;refine(g0.out W.drew g6).mono ?_;rintro en w1 ⟨b6,m0,a1,T,c1,D,Y,c2,ok,rfl,f2⟩;have t:B_ W w1:=g6.trans b6;refine hKS.out _ _ (λ_=>t) ?_;clear hKS KS
  iterate 3 (refine aN (v:=?_) rfl t ?_ ?_;rotate_left;(focus (intro wS h;clear h;go_simp;try rfl));dsimp only[Act.put];try simp only[bW])
  refine au rfl ?_;intro KS hKS;go_simp;refine hKS.out _ _ (λ_=>t.trans (ag _ _ _)) ?_;clear hKS KS;refine au rfl ?_;intro KS hKS;go_simp;refine hKS.out _ _ (λ_=>t.trans (ag _ _ _)) ?_;clear hKS KS;refine au rfl ?_;intro KS hKS;go_simp;refine hKS.out _ _ nofun ?_;clear hKS KS;refine aK rfl ?_;have g1:B_ w1 (w1.alloc (.cells #[.bool m0,.slice a1 T c1,.slice D Y c2] 117)):=ag _ _ _;have F:B_ W (w1.alloc (.cells #[.bool m0,.slice a1 T c1,.slice D Y c2] 117)):=t.trans g1;have G:(w1.alloc (.cells #[.bool m0,.slice a1 T c1,.slice D Y c2] 117)).heap[w1.heap.size]?=some (.cells #[.bool m0,.slice a1 T c1,.slice D Y c2] 117):=bj _ _
  have b8:W.heap.size<=w1.heap.size:=t.size
  have H:Hid ((cX im.zq im.zx bd x s l=none/\ok=false)\/(∃s' l',cX im.zq im.zx bd x s l=some (s',l')/\ok=true/\m0=true/\T=List.length s'/\Y=List.length l'/\BtB (w1.alloc (.cells #[.bool m0,.slice a1 T c1,.slice D Y c2] 117)) 0 (.slice a1 s'.length c1) s'/\BtB (w1.alloc (.cells #[.bool m0,.slice a1 T c1,.slice D Y c2] 117)) 0 (.slice D l'.length c2) l')):=by
   obtain h| ⟨s',l',e1,e2,e3,e4,e5,e6,e7⟩:=f2
   .exact hid (Or.inl h)
   .exact hid (Or.inr ⟨s',l',e1,e2,e3,e4,e5,e6.but g1 (λ_ _ h=>h),e7.but g1 (λ_ _ h=>h)⟩)
  revert F G b8 H;clear b6 t f2 g1;generalize (w1.alloc (.cells #[.bool m0,.slice a1 T c1,.slice D Y c2] 117))=w2;generalize w1.heap.size=bm;intro F G b8 H;clear w1
 case' sqA16=>
  intro KS hKS;go_simp;have b7:B_ W (W.alloc (.cells #[.bool false,S_,S_] 117)).drew:=(ag _ _ _).trans (aD _ _);have g2:(W.alloc (.cells #[.bool false,S_,S_] 117)).drew.heap[W.heap.size]?=some (.cells #[.bool false,S_,S_] 117):=bj _ _;revert b7 g2;generalize (W.alloc (.cells #[.bool false,S_,S_] 117)).drew=Wd;have b8:W.heap.size<=W.heap.size:=bG _;revert b8;generalize e9:W.heap.size=bm;intro b8 b7 g2;have b8:W.heap.size<=bm:=by omega
  have j7:=hid e9;clear e9;refine hKS.out _ _ (λ_=>b7) ?_;clear hKS KS;refine zd rfl ?_;intro KS hKS;go_simp;refine(g0.out Wd b7).mono ?_;rintro en w1 ⟨b6,m0,a1,T,c1,D,Y,c2,ok,rfl,f2⟩;have t:B_ W w1:=b7.trans b6;have O:w1.heap[bm]?=some (.cells #[.bool false,S_,S_] 117):=b6.kp g2;refine hKS.out _ _ (λ_=>t) ?_;clear hKS KS
  iterate 3 (refine ze (v:=?_) rfl t ?_ ?_;rotate_left;(focus (intro wS h;clear h;go_simp;try rfl));dsimp only[Act.put];try simp only[bW])
  refine zf ?_;obtain⟨r0,r1,r2⟩:=iD O;obtain⟨z0,z1,z2⟩:=lq O;have rlt:=ae O;have Z:=vD w1 bm (.bool m0) (.slice a1 T c1) (.slice D Y c2);have G:=sw O (.bool m0) (.slice a1 T c1) (.slice D Y c2);unfold DE at Z G;have F:B_ W (((w1.setCell ⟨bm,0,none⟩ (.bool m0)).setCell ⟨bm,1,none⟩ (.slice a1 T c1)).setCell ⟨bm,2,none⟩ (.slice D Y c2)):=t.next Z (λk hk e=>by omega)
  have i6: ∀k cur,w1.heap[k]?=some (.cells cur 5)-> ¬k=bm:=λk cur hk e=>by
   rw[e,O]at hk;injection hk with hk;injection hk with _ h2;exact absurd h2 (by decide)
  have H:Hid ((cX im.zq im.zx bd x s l=none/\ok=false)\/(∃s' l',cX im.zq im.zx bd x s l=some (s',l')/\ok=true/\m0=true/\T=List.length s'/\Y=List.length l'/\BtB (((w1.setCell ⟨bm,0,none⟩ (.bool m0)).setCell ⟨bm,1,none⟩ (.slice a1 T c1)).setCell ⟨bm,2,none⟩ (.slice D Y c2)) 0 (.slice a1 s'.length c1) s'/\BtB (((w1.setCell ⟨bm,0,none⟩ (.bool m0)).setCell ⟨bm,1,none⟩ (.slice a1 T c1)).setCell ⟨bm,2,none⟩ (.slice D Y c2)) 0 (.slice D l'.length c2) l')):=by
   obtain h| ⟨s',l',e1,e2,e3,e4,e5,e6,e7⟩:=f2
   .exact hid (Or.inl h)
   .exact hid (Or.inr ⟨s',l',e1,e2,e3,e4,e5,bz e6 Z (λk cur hh _=>i6 k cur hh),bz e7 Z (λk cur hh _=>i6 k cur hh)⟩)
  refine au rfl ?_;intro KS hKS;go_simp;refine hKS.out _ _ (λ_=>F) ?_;clear hKS KS;refine au rfl ?_;intro KS hKS;go_simp;refine hKS.out _ _ nofun ?_;clear hKS KS;refine aK rfl ?_;revert F G H;clear b7 g2 O r0 r1 r2 z0 z1 z2 rlt b6 t Z f2 i6;generalize (((w1.setCell ⟨bm,0,none⟩ (.bool m0)).setCell ⟨bm,1,none⟩ (.slice a1 T c1)).setCell ⟨bm,2,none⟩ (.slice D Y c2))=w2;intro G F H;clear w1 Wd j7
 .clear c0 c6 c7 c8 d1 d2 d3 d4 d5 k0 k1 k2 k3 k4 t0 t1 t2;have d:=j1.out.next F;have z:But (λk=>k=bb\/k=gs\/k=gw) w w2:=(M.trans F).mono (λ_ _ h=>h.elim);have f3:=(F.block w.heap.size b1 (λh=>h)).trans j2.out;have h0:=ae f3;obtain⟨k0,k1,k2,k3,k4⟩:=bI f3;obtain⟨m0c,m1c,m2c⟩:=iD G;have b0:=ae G;obtain⟨c0,c6,c7,c8⟩:=d.cells;have f8:=d.fz 8;clear g0;obtain⟨he,rfl⟩ | ⟨s',l',he,rfl,rfl,rfl,rfl,S,P⟩:=H.out
  .have L:cM im bd tab wt a x s l=(tab,wt,true):=by unfold cM;rw[he]
   have p:=hid L;clear L he H;go_wp2_with fail;exact wL results107 rfl ⟨rfl,z.trans ((aq _ _ _ _).mono (λk _ h=>Or.inl h)),tab,wt,true,rfl,d.fail,by rw[p.out],λh=>by cases h⟩
  .have L:cM im bd tab wt a x s l=cZ im.zq s' l' (tab,wt,false) (jw x a):=by unfold cM;rw[he]
   have p:=hid L;have b4:=nB hW i7 g3 he;have k9:=hid he;clear L he H;have f:X.op=x.op:=by rw[<-HX.out];rfl
   have E:X.num=x.b:=by rw[<-HX.out];rfl
   have f6:=b4.1;have b5:s'.length<=101:=by have:=b4.2;omega
   have hs'N:s'.length<=kH tab:=by have:=b4.2;omega
   have C:wfT im.zq.length bd.zy.length tab.length tab:=by rw[htn];exact hwf
   have b3:=hbd.loc.1;have I:=hid (λ(jj:Nat) (tb:List St) (wtt:List Bool) (bd2:Bool) (wx:World) (h1:Bld w0 wx bb b gs gw c r m vl (.slice (some ⟨gi,0,none⟩) bd.code.length capi) tb wtt bd2) (h2:wfT im.zq.length bd.zy.length tb.length tb) (h3:tb.length<=100) (h4:BtB wx 0 (.slice a1 s'.length c1) s') (h5:BtB wx 0 (.slice D l'.length c2) l')=>m9 w0 bb b gs gw c r m vl _ tb wtt bd2 im bd.zy.length jj a1 D c1 c2 s' l' wx hW b3 h3 h1 hTX.cls h2 f6 b5 h4 h5);unfold xsV at I;have a8: ∀jj,(bq im.zq (tab,wt,false) jj s' l').1.length=tab.length:=λjj=>mf _ _ _ _ _
   have g5:=λjj=>sx hW (n:=tab.length) (wt:=wt) (j:=jj) C f6 hs'N
   by_cases h116:X.op.toNat=116
   .have e1:((X.op.toNat:Int)==116)=true:=by rw[dS];omega
    have ht:jw x a=[]:=by unfold jw;rw[if_pos (by rw[<-f];exact h116)]
    have i:=hid (show cM im bd tab wt a x s l=(tab,wt,false) by rw[p.out,ht];rfl);clear p ht f E h116;go_wp2_with fail;go_end0;exact⟨rfl,z,tab,wt,false,rfl,d,by rw[i.out],λ_=>by rw[i.out];exact⟨rfl,rfl⟩⟩
   have e1:=tf X.op.toNat 116 (by omega)
   by_cases h106:X.op.toNat=106
   .have e2:((X.op.toNat:Int)==106)=true:=by rw[dS];omega
    have ht:jw x a=[X.num]:=by unfold jw;rw[if_neg (by rw[<-f];exact h116),if_pos (by rw[<-f];exact h106),E]
    have i:=hid (show cM im bd tab wt a x s l=bq im.zq (tab,wt,false) X.num s' l' by rw[p.out,ht];rfl);clear p ht f E h116 h106;go_wp2_with fail;refine(I.out X.num tab wt false w2 d C (by omega) S P).mono ?_;rintro en w3 ⟨rfl,y,g⟩;go_wp2_with fail;go_end0;exact⟨rfl,z.trans y,_,_,_,a8 _,g,by rw[i.out];simp,λ_=>by rw[i.out];exact⟨rfl,rfl⟩⟩
   have e2:=tf X.op.toNat 106 (by omega);have l0:IntKind.i64.wrap ((a:Int)+1)=((a+1:Nat):Int):=by rw[dV _ (by omega) (by omega)];simp
   by_cases h102:X.op.toNat=102
   .have e3:((X.op.toNat:Int)==102)=true:=by rw[dS];omega
    have ht:jw x a=[X.num,a+1]:=by unfold jw;rw[if_neg (by rw[<-f];exact h116),if_neg (by rw[<-f];exact h106),if_pos (by rw[<-f];exact h102),E]
    have i:=hid (show cM im bd tab wt a x s l=bq im.zq (bq im.zq (tab,wt,false) X.num s' l') (a+1) s' l' by rw[p.out,ht];rfl);have J:=g5 X.num;have B:=a8 X.num;clear p ht f E h116 h106 h102;go_wp2_with fail;refine(I.out X.num tab wt false w2 d C (by omega) S P).mono ?_;rintro en w3 ⟨rfl,y,g⟩;have h9:BtB w3 0 (.slice a1 s'.length c1) s':=bz S y (λk cur hh _=>d.u8 hh);have h6:BtB w3 0 (.slice D l'.length c2) l':=bz P y (λk cur hh _=>d.u8 hh);have g7: ¬(bm=bb\/bm=gs\/bm=gw):=by omega
    have a0:=(y.block bm b0 g7).trans G;obtain⟨W1,e8⟩: ∃W1,bq im.zq (tab,wt,false) X.num s' l'=W1:=⟨_,rfl⟩;rw[e8]at g J B i;obtain⟨f7,j0,f1⟩:=W1;dsimp only at g J B;simp only[Bool.false_or]at g;clear e8 m0c m1c m2c k0 k1 k2 k3 c0 c6 c7 c8 f8;obtain⟨m0c,m1c,m2c⟩:=iD a0;have f0:=ae a0;go_wp2_with fail;have Q:=I.out (a+1) f7 j0 f1 w3 g (by rw[B];exact J.1) (by omega) h9 h6;refine Calls.mono Q ?_;rintro en w4 ⟨rfl,g4,a7⟩;clear Q;go_wp2_with fail;go_end0;refine⟨rfl,(z.trans y).trans g4,_,_,_,(mf im.zq (f7,false,false) ((a+1:Nat):Int) s' l').trans B,a7,?_,?_⟩
    .rw[i.out]
     cases f1 with
     |true=>simp only[Bool.true_or];exact(mU rfl).symm
     |false=>simp
    .intro hf
     cases f1 with
     |true=>simp at hf
     |false=>rw[i.out];exact⟨rfl,rfl⟩
   have e3:=tf X.op.toNat 102 (by omega);have ht:jw x a=[a+1]:=by unfold jw;rw[if_neg (by rw[<-f];exact h116),if_neg (by rw[<-f];exact h106),if_neg (by rw[<-f];exact h102)]
   have i:=hid (show cM im bd tab wt a x s l=bq im.zq (tab,wt,false) (a+1) s' l' by rw[p.out,ht];rfl);clear p ht f E h116 h106 h102;go_wp2_with fail;have Q:=I.out (a+1) tab wt false w2 d C (by omega) S P;refine Calls.mono Q ?_;rintro en w3 ⟨rfl,y,g⟩;go_wp2_with fail;go_end0;exact⟨rfl,z.trans y,_,_,_,a8 _,g,by rw[i.out];simp,λ_=>by rw[i.out];exact⟨rfl,rfl⟩⟩
 .clear c0 c6 c7 c8 d1 d2 d3 d4 d5 k0 k1 k2 k3 k4 t0 t1 t2;have d:=j1.out.next F;have z:But (λk=>k=bb\/k=gs\/k=gw) w w2:=(M.trans F).mono (λ_ _ h=>h.elim);have f3:=(F.block w.heap.size b1 (λh=>h)).trans j2.out;have h0:=ae f3;obtain⟨k0,k1,k2,k3,k4⟩:=bI f3;obtain⟨m0c,m1c,m2c⟩:=iD G;have b0:=ae G;obtain⟨c0,c6,c7,c8⟩:=d.cells;have f8:=d.fz 8;clear g0;obtain⟨he,rfl⟩ | ⟨s',l',he,rfl,rfl,rfl,rfl,S,P⟩:=H.out
  .have L:cM im bd tab wt a x s l=(tab,wt,true):=by unfold cM;rw[he]
   have p:=hid L;clear L he H;go_wp2_with fail;exact wL results107 rfl ⟨rfl,z.trans ((aq _ _ _ _).mono (λk _ h=>Or.inl h)),tab,wt,true,rfl,d.fail,by rw[p.out],λh=>by cases h⟩
  .have L:cM im bd tab wt a x s l=cZ im.zq s' l' (tab,wt,false) (jw x a):=by unfold cM;rw[he]
   have p:=hid L;have b4:=nB hW i7 g3 he;have k9:=hid he;clear L he H;have f:X.op=x.op:=by rw[<-HX.out];rfl
   have E:X.num=x.b:=by rw[<-HX.out];rfl
   have f6:=b4.1;have b5:s'.length<=101:=by have:=b4.2;omega
   have hs'N:s'.length<=kH tab:=by have:=b4.2;omega
   have C:wfT im.zq.length bd.zy.length tab.length tab:=by rw[htn];exact hwf
   have b3:=hbd.loc.1;have I:=hid (λ(jj:Nat) (tb:List St) (wtt:List Bool) (bd2:Bool) (wx:World) (h1:Bld w0 wx bb b gs gw c r m vl (.slice (some ⟨gi,0,none⟩) bd.code.length capi) tb wtt bd2) (h2:wfT im.zq.length bd.zy.length tb.length tb) (h3:tb.length<=100) (h4:BtB wx 0 (.slice a1 s'.length c1) s') (h5:BtB wx 0 (.slice D l'.length c2) l')=>m9 w0 bb b gs gw c r m vl _ tb wtt bd2 im bd.zy.length jj a1 D c1 c2 s' l' wx hW b3 h3 h1 hTX.cls h2 f6 b5 h4 h5);unfold xsV at I;have a8: ∀jj,(bq im.zq (tab,wt,false) jj s' l').1.length=tab.length:=λjj=>mf _ _ _ _ _
   have g5:=λjj=>sx hW (n:=tab.length) (wt:=wt) (j:=jj) C f6 hs'N
   by_cases h116:X.op.toNat=116
   .have e1:((X.op.toNat:Int)==116)=true:=by rw[dS];omega
    have ht:jw x a=[]:=by unfold jw;rw[if_pos (by rw[<-f];exact h116)]
    have i:=hid (show cM im bd tab wt a x s l=(tab,wt,false) by rw[p.out,ht];rfl);clear p ht f E h116;go_wp2_with fail;go_end0;exact⟨rfl,z,tab,wt,false,rfl,d,by rw[i.out],λ_=>by rw[i.out];exact⟨rfl,rfl⟩⟩
   have e1:=tf X.op.toNat 116 (by omega)
   by_cases h106:X.op.toNat=106
   .have e2:((X.op.toNat:Int)==106)=true:=by rw[dS];omega
    have ht:jw x a=[X.num]:=by unfold jw;rw[if_neg (by rw[<-f];exact h116),if_pos (by rw[<-f];exact h106),E]
    have i:=hid (show cM im bd tab wt a x s l=bq im.zq (tab,wt,false) X.num s' l' by rw[p.out,ht];rfl);clear p ht f E h116 h106;go_wp2_with fail;refine(I.out X.num tab wt false w2 d C (by omega) S P).mono ?_;rintro en w3 ⟨rfl,y,g⟩;go_wp2_with fail;go_end0;exact⟨rfl,z.trans y,_,_,_,a8 _,g,by rw[i.out];simp,λ_=>by rw[i.out];exact⟨rfl,rfl⟩⟩
   have e2:=tf X.op.toNat 106 (by omega);have l0:IntKind.i64.wrap ((a:Int)+1)=((a+1:Nat):Int):=by rw[dV _ (by omega) (by omega)];simp
   by_cases h102:X.op.toNat=102
   .have e3:((X.op.toNat:Int)==102)=true:=by rw[dS];omega
    have ht:jw x a=[X.num,a+1]:=by unfold jw;rw[if_neg (by rw[<-f];exact h116),if_neg (by rw[<-f];exact h106),if_pos (by rw[<-f];exact h102),E]
    have i:=hid (show cM im bd tab wt a x s l=bq im.zq (bq im.zq (tab,wt,false) X.num s' l') (a+1) s' l' by rw[p.out,ht];rfl);have J:=g5 X.num;have B:=a8 X.num;clear p ht f E h116 h106 h102;go_wp2_with fail;refine(I.out X.num tab wt false w2 d C (by omega) S P).mono ?_;rintro en w3 ⟨rfl,y,g⟩;have h9:BtB w3 0 (.slice a1 s'.length c1) s':=bz S y (λk cur hh _=>d.u8 hh);have h6:BtB w3 0 (.slice D l'.length c2) l':=bz P y (λk cur hh _=>d.u8 hh);have g7: ¬(bm=bb\/bm=gs\/bm=gw):=by omega
    have a0:=(y.block bm b0 g7).trans G;obtain⟨W1,e8⟩: ∃W1,bq im.zq (tab,wt,false) X.num s' l'=W1:=⟨_,rfl⟩;rw[e8]at g J B i;obtain⟨f7,j0,f1⟩:=W1;dsimp only at g J B;simp only[Bool.false_or]at g;clear e8 m0c m1c m2c k0 k1 k2 k3 c0 c6 c7 c8 f8;obtain⟨m0c,m1c,m2c⟩:=iD a0;have f0:=ae a0;go_wp2_with fail;have Q:=I.out (a+1) f7 j0 f1 w3 g (by rw[B];exact J.1) (by omega) h9 h6;refine Calls.mono Q ?_;rintro en w4 ⟨rfl,g4,a7⟩;clear Q;go_wp2_with fail;go_end0;refine⟨rfl,(z.trans y).trans g4,_,_,_,(mf im.zq (f7,false,false) ((a+1:Nat):Int) s' l').trans B,a7,?_,?_⟩
    .rw[i.out]
     cases f1 with
     |true=>simp only[Bool.true_or];exact(mU rfl).symm
     |false=>simp
    .intro hf
     cases f1 with
     |true=>simp at hf
     |false=>rw[i.out];exact⟨rfl,rfl⟩
   have e3:=tf X.op.toNat 102 (by omega);have ht:jw x a=[a+1]:=by unfold jw;rw[if_neg (by rw[<-f];exact h116),if_neg (by rw[<-f];exact h106),if_neg (by rw[<-f];exact h102)]
   have i:=hid (show cM im bd tab wt a x s l=bq im.zq (tab,wt,false) (a+1) s' l' by rw[p.out,ht];rfl);clear p ht f E h116 h106 h102;go_wp2_with fail;have Q:=I.out (a+1) tab wt false w2 d C (by omega) S P;refine Calls.mono Q ?_;rintro en w3 ⟨rfl,y,g⟩;go_wp2_with fail;go_end0;exact⟨rfl,z.trans y,_,_,_,a8 _,g,by rw[i.out];simp,λ_=>by rw[i.out];exact⟨rfl,rfl⟩⟩
theorem pw {l:List Bool}: ∀(f k:Nat),k+f=l.length->(kO l f k= -1/\ ∀j,k<=j->j<l.length->l.getD j false=false)\/ ∃j:Nat,kO l f k=j/\j<l.length/\l.getD j false=true:=by
 intro f
 induction f with
 |zero=>intro k a;exact Or.inl ⟨rfl,λj h1 h2=>by omega⟩
 |succ f ih=>
  intro k a;simp only[kO]
  by_cases h:l.getD k false=true
  .exact Or.inr ⟨k,by rw[if_pos h],by omega,h⟩
  .rw[if_neg h];obtain⟨h1,h2⟩ |h1:=ih (k+1) (by omega)
   .refine Or.inl ⟨h1,λj h3 h4=> ?_⟩
    by_cases hj:j=k
    .subst hj;simpa using h
    .exact h2 j (by omega) h4
   .exact Or.inr h1
def KnW (tab:List St) (wt:List Bool):Prop:= ∀k,wt.getD k false=true-> ∃s l,tab[k]?=some (some (s,l))
theorem py {cs:List Cls} {T:Tn} {j k:Nat} {sb lb s l:L_} (h:T.1[k]?=some (some (s,l))): ∃s' l',(cH cs T j sb lb).1[k]?=some (some (s',l')):=by
 unfold cH
 split
 .exact⟨s,l,h⟩
 split
 .exact⟨s,l,h⟩
 split
 .exact⟨s,l,h⟩
 rename_i m hm
 split
 .exact⟨s,l,h⟩
 simp only
 by_cases hjk:(j:Int).toNat=k
 .have a:=(bn h).1;rw[hjk,List.getElem?_set_self a];exact⟨m.1,m.2,rfl⟩
 .rw[List.getElem?_set_ne hjk];exact⟨s,l,h⟩
theorem AA {cs:List Cls} {W:Wn} {j:Nat} {sb lb:L_} (h:KnW W.1 W.2.1):KnW (bq cs W j sb lb).1 (bq cs W j sb lb).2.1:=by
 intro k a;unfold bq at a⊢;simp only at a⊢
 by_cases hc:(cH cs (W.1,false,W.2.2) j sb lb).2.1=true
 .rw[if_pos hc]at a
  by_cases hjk:j=k
  .subst hjk;unfold cH at hc⊢
   split at hc
   .cases hc
   split at hc
   .cases hc
   split at hc
   .cases hc
   rename_i m hm
   split at hc
   .cases hc
   rename_i b h2 _ _
   rw[if_neg b,if_neg h2];simp only[hm]
   rename_i h4
   rw[if_neg h4];simp only;rw[ny,List.getElem?_set_self (by simp at h2;omega)];exact⟨m.1,m.2,rfl⟩
  .have c:W.2.1.getD k false=true:=by simpa[List.getD,List.getElem?_set,hjk]using a
   obtain⟨s,l,b⟩:=h k c;exact py (T:=(W.1,false,W.2.2)) b
 .rw[if_neg hc]at a;obtain⟨s,l,b⟩:=h k a;exact py (T:=(W.1,false,W.2.2)) b
theorem vK {cs:List Cls} {sb lb:L_}: ∀{l:List Nat} {W:Wn},KnW W.1 W.2.1->KnW (cZ cs sb lb W l).1 (cZ cs sb lb W l).2.1:=by
 intro l
 induction l with
 |nil=>intro W h;exact h
 |cons j l ih=>intro W h;exact ih (W:=bq cs W j sb lb) (AA h)
theorem xM {im:Img} {bd:Bod} {tab:List St} {wt:List Bool} {a:Nat} {x:Ins} {s l:L_} (h:KnW tab wt):KnW (cM im bd tab wt a x s l).1 (cM im bd tab wt a x s l).2.1:=by
 unfold cM
 split
 .exact h
 .exact vK (W:=(tab,wt,false)) h
theorem KnW.unset {tab:List St} {wt:List Bool} (h:KnW tab wt) (a:Nat):KnW tab (wt.set a false):=by
 intro k b
 by_cases hak:a=k
 .subst hak
  have c:(wt.set a false).getD a false=false:=by
   by_cases h:a<wt.length<;>simp[List.getD,h]
  rw[c]at b
  cases b
 .exact h k (by simpa[List.getD,List.getElem?_set,hak]using b)
theorem AB {im:Img} {bd:Bod} {tab:List St} {wt:List Bool} {a:Nat} {x:Ins} {s l:L_}:cM im bd tab (wt.set a false) a x s l=iq im bd (tab,wt,false) a x s l:=by
 unfold cM iq
 cases cX im.zq im.zx bd x s l<;>rfl
def oC (im:Img) (bd:Bod) (tab:List St) (wt:List Bool) (bad:Bool) (mm:Nat):Prop:=
 (bad=false/\qc im bd (λ_=>False) (tab,wt,false)/\zo im bd (tab,wt,false)/\KnW tab wt/\muW (tab,wt,false)<=mm)\/(bad=true/\dP im bd=none)
theorem oC.start {im:Img} {bd:Bod} (hbd:WfB im.zq im.zx bd):oC im bd ((List.replicate bd.code.length (none:St)).set 0 (some ([],bd.zy))) ((List.replicate bd.code.length false).set 0 true) false (muW (di bd,(List.replicate bd.code.length false).set 0 true,false)):=by
 have hn:=hbd.len.1
 have b: ∀k s l,(di bd)[k]?=some (some (s,l))->k=0:=by
  intro k s l h
  by_cases hk:k=0
  .exact hk
  .unfold di at h;rw[List.getElem?_set_ne (λe=>hk e.symm),List.getElem?_replicate]at h
   split at h<;>simp at h
 refine Or.inl ⟨rfl,⟨iz hbd,by simp,eh _,λ_ k hk _ hw=> ?_⟩,λH hG=>⟨rfl,lI hG⟩,λk hk=> ?_,bG _⟩
 .intro x s l _ h;have:=b k s l h;subst this;simp[List.getD,hn]at hw
 .by_cases h0:k=0
  .subst h0;exact⟨[],bd.zy,by rw[List.getElem?_set_self (by simpa using hn)]⟩
  .exfalso
   have a: ¬0=k:=λe=>h0 e.symm
   simp only[List.getD,List.getElem?_set_ne a,List.getElem?_replicate]at hk
   split at hk<;>simp at hk
theorem oC.next {im:Img} {bd:Bod} (hW:WfI im) (hbd:WfB im.zq im.zx bd) {tab:List St} {wt:List Bool} {mm a:Nat} (h:oC im bd tab wt false mm) (ha:wt.getD a false=true):
  ∃x s l,bd.code[a]?=some x/\tab[a]?=some (some (s,l))/\wfT im.zq.length bd.zy.length bd.code.length tab/\ ∀tab' wt' bad',bad'=(cM im bd tab (wt.set a false) a x s l).2.2->(bad'=false->tab'=(cM im bd tab (wt.set a false) a x s l).1/\wt'=(cM im bd tab (wt.set a false) a x s l).2.1)-> ∃m',m'<mm/\oC im bd tab' wt' bad' m':=by
 obtain⟨_,g,n,i,q⟩ | ⟨h,_⟩:=h
 .obtain⟨s,l,f⟩:=i a ha;have p:=(bn f).1;have r:tab.length=bd.code.length:=g.wf.1;obtain⟨x,hx⟩: ∃x,bd.code[a]?=some x:=⟨_,aM (by omega)⟩;refine⟨x,s,l,hx,f,g.wf,?_⟩;intro tab' wt' bad' hb ht;have c:=xM (im:=im) (bd:=bd) (a:=a) (x:=x) (s:=s) (l:=l) (i.unset a);rw[AB]at hb ht c;have b:=uK hW.cls n hx f
  cases hbb:(iq im bd (tab,wt,false) a x s l).2.2 with
  |true=>
   rw[hbb]at hb
   have j:0<muW (tab,wt,false):=by
    have:=ld ha;unfold muW;simp only;omega
   exact⟨0,by omega,Or.inr ⟨hb,b.none hW hbd hbb⟩⟩
  |false=>
   rw[hbb]at hb;obtain⟨k,m⟩:=ht hb;obtain⟨d,e⟩:=uL hW hbd rfl g ha hx f hbb
   have eW:iq im bd (tab,wt,false) a x s l=(tab',wt',false):=by
    rw[k,m];exact Prod.ext rfl (Prod.ext rfl hbb)
   rw[eW]at d b e c;exact⟨muW (tab',wt',false),by omega,Or.inl ⟨hb,d,b,c,bG _⟩⟩
 .cases h
theorem oC.done {im:Img} {bd:Bod} (hW:WfI im) (hbd:WfB im.zq im.zx bd) {tab:List St} {wt:List Bool} {mm:Nat} (h:oC im bd tab wt false mm) (hn: ∀k,k<wt.length->wt.getD k false=false):dP im bd=some tab:=by
 obtain⟨_,a,b,d,c⟩ | ⟨h,_⟩:=h
 .exact qc.done hW hbd rfl a b (λk hk=>hn k (by have:=a.wl;simp only at this;omega))
 .cases h
theorem vL:(prog.info? 117).map (λi=>(i.zero,i.size,i.bytes))=some (some (.agg #[.bool false,S_,S_]),3,56):=by kernel_rfl
theorem xP:(prog.info? 4).map (λi=>(i.zero,i.size,i.bytes))=some (some (.bool false),1,1):=by kernel_rfl
def pG:St×Value×Value:=(none,S_,S_)
theorem AC (n:Nat):madeCells #[.bool false,S_,S_] (n*3)=(fG (List.replicate n pG)).toArray:=by
 apply Array.ext
 .rw[size_madeCells];simp[vH]
 .intro k b c;rw[size_madeCells]at b;have e:k=(k / 3)*3+k % 3:=by omega
  have hl:(List.replicate n pG)[k / 3]?=some pG:=by
   rw[List.getElem?_replicate,if_pos (by omega)]
  have:=cP (k:=k % 3) hl (by omega);rw[<-e]at this;have a:(fG (List.replicate n pG)).toArray[k]?=some ((fG (List.replicate n pG)).toArray[k]):=by rw[Array.getElem?_eq_getElem c]
  rw[List.getElem?_toArray,this]at a
  have d:(madeCells #[.bool false,S_,S_] (n*3))[k]'(by rw[size_madeCells];exact b)=#[Value.bool false,S_,S_][k % 3]!:=by
   simp[madeCells]
  rw[d];generalize k % 3=r at a
  match r with
  |0=>simp[stC,pG]at a;exact a
  |1=>simp[stC,pG]at a;exact a
  |2=>simp[stC,pG]at a;exact a
  |r+3=>simp[stC,pG]at a
theorem Cb (n:Nat):madeCells #[.bool false] n=((List.replicate n false).map Value.bool).toArray:=by
 apply Array.ext
 .rw[size_madeCells];simp
 .intro k a b;have e:k % 1=0:=by omega
  simp[madeCells,e]
def j9 (n:Nat):Array Value:=((List.replicate n false).map Value.bool).toArray
def fU (n:Nat):Array Value:=(fG (List.replicate n pG)).toArray
theorem Cc (n:Nat) (hn:n<=1000) (w:World):(Instr.makeSlice 179 (.int .i64 (n:Int)) (.int .i64 (n:Int))).run prog w= .ok (.slice (some ⟨w.heap.size,0,none⟩) n n) (w.alloc (.cells (j9 n) 4)):=by
 have a:=xP
 cases hi:prog.info? 4 with
 |none=>rw[hi]at a;cases a
 |some i=>
  rw[hi]at a;simp only[Option.map_some,Option.some.injEq,Prod.mk.injEq]at a;obtain⟨c,b,hb⟩:=a;have:=run_make (P:=prog) w 179 4 i _ (by kernel_rfl) hi c .i64 .i64 n n (by omega) (by omega) (by rw[hb];omega) (by omega);rw[this,b];simp only[ny,Value.cells,Nat.mul_one];rw[Cb]
  rfl
theorem AD (n:Nat) (hn:n<=1000) (w:World):(Instr.makeSlice 63 (.int .i64 (n:Int)) (.int .i64 (n:Int))).run prog w= .ok (.slice (some ⟨w.heap.size,0,none⟩) n n) (w.alloc (.cells (fU n) 117)):=by
 have a:=vL
 cases hi:prog.info? 117 with
 |none=>rw[hi]at a;cases a
 |some i=>
  rw[hi]at a;simp only[Option.map_some,Option.some.injEq,Prod.mk.injEq]at a;obtain⟨c,b,hb⟩:=a;have:=run_make (P:=prog) w 63 117 i _ (by kernel_rfl) hi c .i64 .i64 n n (by omega) (by omega) (by rw[hb];omega) (by omega);rw[this,b];simp only[ny,Value.cells];rw[AC]
  rfl
def Cd (w:World) (g:Nat) (x0 x1 x2 x3 x4 x5 x6 x7 x8:Value):World:=((((((((w.setCell ⟨g,0,none⟩ x0).setCell ⟨g,1,none⟩ x1).setCell ⟨g,2,none⟩ x2).setCell ⟨g,3,none⟩ x3).setCell ⟨g,4,none⟩ x4).setCell ⟨g,5,none⟩ x5).setCell ⟨g,6,none⟩ x6).setCell ⟨g,7,none⟩ x7).setCell ⟨g,8,none⟩ x8
theorem AE {w:World} {g t:Nat} {a0 a1 a2 a3 a4 a5 a6 a7 a8:Value} (h:w.heap[g]?=some (.cells #[a0,a1,a2,a3,a4,a5,a6,a7,a8] t)) (x0 x1 x2 x3 x4 x5 x6 x7 x8:Value):(Cd w g x0 x1 x2 x3 x4 x5 x6 x7 x8).heap[g]?=some (.cells #[x0,x1,x2,x3,x4,x5,x6,x7,x8] t):=by
 unfold Cd;have a: ∀w:World,w.heap[g]?=some (.cells #[a0,a1,a2,a3,a4,a5,a6,a7,a8] t)->(w.setCell ⟨g,0,none⟩ x0).heap[g]?=some (.cells #[x0,a1,a2,a3,a4,a5,a6,a7,a8] t):=λw h=>bS w g 0 _ _ x0 h
 have b: ∀w:World,w.heap[g]?=some (.cells #[x0,a1,a2,a3,a4,a5,a6,a7,a8] t)->(w.setCell ⟨g,1,none⟩ x1).heap[g]?=some (.cells #[x0,x1,a2,a3,a4,a5,a6,a7,a8] t):=λw h=>bS w g 1 _ _ x1 h
 have c: ∀w:World,w.heap[g]?=some (.cells #[x0,x1,a2,a3,a4,a5,a6,a7,a8] t)->(w.setCell ⟨g,2,none⟩ x2).heap[g]?=some (.cells #[x0,x1,x2,a3,a4,a5,a6,a7,a8] t):=λw h=>bS w g 2 _ _ x2 h
 have d: ∀w:World,w.heap[g]?=some (.cells #[x0,x1,x2,a3,a4,a5,a6,a7,a8] t)->(w.setCell ⟨g,3,none⟩ x3).heap[g]?=some (.cells #[x0,x1,x2,x3,a4,a5,a6,a7,a8] t):=λw h=>bS w g 3 _ _ x3 h
 have e: ∀w:World,w.heap[g]?=some (.cells #[x0,x1,x2,x3,a4,a5,a6,a7,a8] t)->(w.setCell ⟨g,4,none⟩ x4).heap[g]?=some (.cells #[x0,x1,x2,x3,x4,a5,a6,a7,a8] t):=λw h=>bS w g 4 _ _ x4 h
 have f: ∀w:World,w.heap[g]?=some (.cells #[x0,x1,x2,x3,x4,a5,a6,a7,a8] t)->(w.setCell ⟨g,5,none⟩ x5).heap[g]?=some (.cells #[x0,x1,x2,x3,x4,x5,a6,a7,a8] t):=λw h=>bS w g 5 _ _ x5 h
 have i: ∀w:World,w.heap[g]?=some (.cells #[x0,x1,x2,x3,x4,x5,a6,a7,a8] t)->(w.setCell ⟨g,6,none⟩ x6).heap[g]?=some (.cells #[x0,x1,x2,x3,x4,x5,x6,a7,a8] t):=λw h=>bS w g 6 _ _ x6 h
 have j: ∀w:World,w.heap[g]?=some (.cells #[x0,x1,x2,x3,x4,x5,x6,a7,a8] t)->(w.setCell ⟨g,7,none⟩ x7).heap[g]?=some (.cells #[x0,x1,x2,x3,x4,x5,x6,x7,a8] t):=λw h=>bS w g 7 _ _ x7 h
 have k: ∀w:World,w.heap[g]?=some (.cells #[x0,x1,x2,x3,x4,x5,x6,x7,a8] t)->(w.setCell ⟨g,8,none⟩ x8).heap[g]?=some (.cells #[x0,x1,x2,x3,x4,x5,x6,x7,x8] t):=λw h=>bS w g 8 _ _ x8 h
 exact k _ (j _ (i _ (f _ (e _ (d _ (c _ (b _ (a _ h))))))))
theorem But.put {g:Nat} {w w':World} (h:But (· =g) w w') (k:Nat) (x:Value):But (· =g) w (w'.setCell ⟨g,k,none⟩ x):=h.trans (aq w' g k x)
theorem Ce (w:World) (g:Nat) (x0 x1 x2 x3 x4 x5 x6 x7 x8:Value):But (· =g) w (Cd w g x0 x1 x2 x3 x4 x5 x6 x7 x8):=by
 unfold Cd;exact((((((((aq w g 0 x0).put 1 x1).put 2 x2).put 3 x3).put 4 x4).put 5 x5).put 6 x6).put 7 x7).put 8 x8
theorem Gb {w:World} {g t:Nat} {x0 x1 x2 x3 x4 x5 x6 x7 x8:Value} (h:w.heap[g]?=some (.cells #[x0,x1,x2,x3,x4,x5,x6,x7,x8] t)):
  w.cell? ⟨g,0,none⟩=some x0/\w.cell? ⟨g,1,none⟩=some x1/\w.cell? ⟨g,2,none⟩=some x2/\w.cell? ⟨g,3,none⟩=some x3/\w.cell? ⟨g,4,none⟩=some x4/\w.cell? ⟨g,5,none⟩=some x5/\w.cell? ⟨g,6,none⟩=some x6/\w.cell? ⟨g,7,none⟩=some x7/\w.cell? ⟨g,8,none⟩=some x8:=by
 refine⟨?_,?_,?_,?_,?_,?_,?_,?_,?_⟩
 .rw[bU w g 0 _ _ (0,0) h];rfl
 .rw[bU w g 1 _ _ (0,0) h];rfl
 .rw[bU w g 2 _ _ (0,0) h];rfl
 .rw[bU w g 3 _ _ (0,0) h];rfl
 .rw[bU w g 4 _ _ (0,0) h];rfl
 .rw[bU w g 5 _ _ (0,0) h];rfl
 .rw[bU w g 6 _ _ (0,0) h];rfl
 .rw[bU w g 7 _ _ (0,0) h];rfl
 .rw[bU w g 8 _ _ (0,0) h];rfl
theorem FP {w:World} {g t:Nat} {cs:Array Value} (h:w.heap[g]?=some (.cells cs t)): ∀k,w.frozen? ⟨g,k,none⟩=false:=λk=>cw w g k _ _ h
theorem xQ (b:Nat) (im:Img) (bd:Bod) (c:UInt8) (m:Nat) (al ai:Option Addr) (capl capi:Nat) (w:World) (hW:WfI im) (hbd:WfB im.zq im.zx bd) (hTX:d9 w b im) (hlo:BtB w 0 (.slice al bd.zy.length capl) bd.zy) (hit:ItB w 0 (.slice ai bd.code.length capi) (bd.code.map aJ)):
  Calls prog 65 #[.pointer (some ⟨b,0,none⟩),hdV c m (aR im.zx bd).ans (.slice al bd.zy.length capl) (.slice ai bd.code.length capi)] w λen w'=>B_ w w'/\
   ((dP im bd=none/\en= .returned (.tuple #[.agg #[S_],.bool false]))\/(∃tb gs,dP im bd=some tb/\en= .returned (.tuple #[.agg #[.slice (some ⟨gs,0,none⟩) (List.length tb) (List.length tb)],.bool true])/\StB w' gs tb/\w.heap.size<=gs)):=by
 unfold hdV;obtain⟨r,hr⟩: ∃r,(aR im.zx bd).ans=r:=⟨_,rfl⟩;have HR:=hid hr;rw[hr];clear hr;have i7:=hbd.len;have e3:=AD bd.code.length (by omega);have e2:=Cc bd.code.length (by omega);have b4:B_ w ((w.alloc (.cells #[.int .u8 c.toNat,.int .i64 m,.int .u8 r.toNat,.slice al bd.zy.length capl,.slice ai bd.code.length capi] 115)).alloc (.cells #[S_] 65)):=(ag _ _ _).trans (ag _ _ _)
 have P:((w.alloc (.cells #[.int .u8 c.toNat,.int .i64 m,.int .u8 r.toNat,.slice al bd.zy.length capl,.slice ai bd.code.length capi] 115)).alloc (.cells #[S_] 65)).heap[w.heap.size]?=some (.cells #[.int .u8 c.toNat,.int .i64 m,.int .u8 r.toNat,.slice al bd.zy.length capl,.slice ai bd.code.length capi] 115):=by
  rw[Below.heap_alloc _ _ _ (by first| (simp;done) | (simp;omega))];exact bj w _
 have a2:((w.alloc (.cells #[.int .u8 c.toNat,.int .i64 m,.int .u8 r.toNat,.slice al bd.zy.length capl,.slice ai bd.code.length capi] 115)).alloc (.cells #[S_] 65)).heap[w.heap.size+1]?=some (.cells #[S_] 65):=aw (by simp) _
 go_in
 go_wp2_with fail;revert b4 P a2;generalize ((w.alloc (.cells #[.int .u8 c.toNat,.int .i64 m,.int .u8 r.toNat,.slice al bd.zy.length capl,.slice ai bd.code.length capi] 115)).alloc (.cells #[S_] 65))=Wb;intro b4 P a2;obtain⟨k0,k1,k2,k3,k4⟩:=bI P;have H:=ae P;have e0:=ae a2;have e8:=hid P;have e9:=hid a2;clear P a2;have g7:B_ Wb Wb.drew:=aD _ _;refine dr (B_ Wb) 8 ?_;have fSA:=hid (λwS (h:(B_ Wb) wS)=>(And.intro (h.kc k0 H) (And.intro (h.kc k1 H) (And.intro (h.kc k2 H) (And.intro (h.kc k3 H) (h.kc k4 H))))));refine cW [0,1,2,4] ?_
 iterate 4 (refine dt (v:=?_) rfl g7 ?_ ?_;rotate_left;(focus (intro wS h;obtain⟨q0,q1,q2,q3,q4⟩:=fSA.out wS h;clear h;go_simp;try rfl));dsimp only[Act.put];try simp only[bW])
 try clear fSA
 revert g7;generalize Wb.drew=w1;intro f;refine zg (k1:=3) (o1:= ?oA3) (k2:=5) (o2:= ?oA5) (k3:=7) (o3:= ?oA7) ?hoA3 ?hoA5 ?hoA7 ?hlA3_5_7 ?hrA3_5_7 ?stA3 ?stA5 ?stA7
 case hoA3=>rfl
 case hoA5=>rfl
 case hoA7=>rfl
 case hlA3_5_7=>decide
 case hrA3_5_7=>kernel_rfl
 case' stA3=>
  intro KS hKS;go_simp;have y:(w1.alloc (.cells (fU bd.code.length) 117)).heap[w1.heap.size]?=some (.cells (fU bd.code.length) 117):=bj _ _;have i:B_ w1 (w1.alloc (.cells (fU bd.code.length) 117)):=ag _ _ _;have A:Wb.heap.size<=w1.heap.size:=f.size;have d:=f.trans i;clear f i;refine hKS.out _ _ (λ_=>d) ?_;clear hKS KS;revert y d A;generalize (w1.alloc (.cells (fU bd.code.length) 117))=w2;generalize w1.heap.size=gs;intro j A f;refine kF (k1:=5) (o1:= ?oB5) (k2:=7) (o2:= ?oB7) ?hoB5 ?hoB7 ?hlB5_7 ?hrB5_7 ?stB5 ?stB7
  case hoB5=>rfl
  case hoB7=>rfl
  case hlB5_7=>decide
  case hrB5_7=>kernel_rfl
  case' stB5=>
   intro KS hKS;go_simp;have y:(w2.alloc (.cells (j9 bd.code.length) 4)).heap[w2.heap.size]?=some (.cells (j9 bd.code.length) 4):=bj _ _;have i:B_ w2 (w2.alloc (.cells (j9 bd.code.length) 4)):=ag _ _ _;have B:Wb.heap.size<=w2.heap.size:=f.size;have d:=f.trans i;have q:=i.kp j;clear f i j;refine hKS.out _ _ (λ_=>d) ?_;clear hKS KS;revert y d B q;generalize (w2.alloc (.cells (j9 bd.code.length) 4))=w3;generalize w2.heap.size=gw;intro n B f j;refine je (k:=6) (v:= ?vBbxq6) rfl f ?yBbxq6 ?rBbxq6
   case yBbxq6=>intro wS h;clear h;go_simp;try rfl
   dsimp only[Act.put]
   try simp only[bW]
   refine aG (k:=7) rfl ?_;intro KS hKS;go_simp;have y:(w3.alloc (.cells #[.pointer none,.int .u8 0,.int .i64 0,.int .u8 0,S_,S_,S_,S_,.bool false] 181)).heap[w3.heap.size]?=some (.cells #[.pointer none,.int .u8 0,.int .i64 0,.int .u8 0,S_,S_,S_,S_,.bool false] 181):=bj _ _;have i:B_ w3 (w3.alloc (.cells #[.pointer none,.int .u8 0,.int .i64 0,.int .u8 0,S_,S_,S_,S_,.bool false] 181)):=ag _ _ _;have C:Wb.heap.size<=w3.heap.size:=f.size
   have d:=f.trans i;have q:=i.kp j;have t:=i.kp n;clear f i j n;refine hKS.out _ _ (λ_=>d) ?_;clear hKS KS;revert y d C q t;generalize (w3.alloc (.cells #[.pointer none,.int .u8 0,.int .i64 0,.int .u8 0,S_,S_,S_,S_,.bool false] 181))=w4;generalize w3.heap.size=bb;intro g C f j n
  case' stB7=>
   intro KS hKS;go_simp;have y:(w2.alloc (.cells #[.pointer none,.int .u8 0,.int .i64 0,.int .u8 0,S_,S_,S_,S_,.bool false] 181)).heap[w2.heap.size]?=some (.cells #[.pointer none,.int .u8 0,.int .i64 0,.int .u8 0,S_,S_,S_,S_,.bool false] 181):=bj _ _;have i:B_ w2 (w2.alloc (.cells #[.pointer none,.int .u8 0,.int .i64 0,.int .u8 0,S_,S_,S_,S_,.bool false] 181)):=ag _ _ _;have C:Wb.heap.size<=w2.heap.size:=f.size;have d:=f.trans i
   have q:=i.kp j;clear f i j;refine hKS.out _ _ (λ_=>d) ?_;clear hKS KS;revert y d C q;generalize (w2.alloc (.cells #[.pointer none,.int .u8 0,.int .i64 0,.int .u8 0,S_,S_,S_,S_,.bool false] 181))=w3;generalize w2.heap.size=bb;intro g C f j;refine aG (k:=5) rfl ?_;intro KS hKS;go_simp;have y:(w3.alloc (.cells (j9 bd.code.length) 4)).heap[w3.heap.size]?=some (.cells (j9 bd.code.length) 4):=bj _ _;have i:B_ w3 (w3.alloc (.cells (j9 bd.code.length) 4)):=ag _ _ _;have B:Wb.heap.size<=w3.heap.size:=f.size;have d:=f.trans i;have q:=i.kp j
   have z:=i.kp g;clear f i j g;refine hKS.out _ _ (λ_=>d) ?_;clear hKS KS;revert y d B q z;generalize (w3.alloc (.cells (j9 bd.code.length) 4))=w4;generalize w3.heap.size=gw;intro n B f j g;refine je (k:=6) (v:= ?vBcxz6) rfl f ?yBcxz6 ?rBcxz6
   case yBcxz6=>intro wS h;clear h;go_simp;try rfl
   dsimp only[Act.put]
   try simp only[bW]
 case' stA5=>
  intro KS hKS;go_simp;have y:(w1.alloc (.cells (j9 bd.code.length) 4)).heap[w1.heap.size]?=some (.cells (j9 bd.code.length) 4):=bj _ _;have i:B_ w1 (w1.alloc (.cells (j9 bd.code.length) 4)):=ag _ _ _;have B:Wb.heap.size<=w1.heap.size:=f.size;have d:=f.trans i;clear f i;refine hKS.out _ _ (λ_=>d) ?_;clear hKS KS;revert y d B;generalize (w1.alloc (.cells (j9 bd.code.length) 4))=w2;generalize w1.heap.size=gw;intro n B f;refine kF (k1:=3) (o1:= ?oC3) (k2:=7) (o2:= ?oC7) ?hoC3 ?hoC7 ?hlC3_7 ?hrC3_7 ?stC3 ?stC7
  case hoC3=>rfl
  case hoC7=>rfl
  case hlC3_7=>decide
  case hrC3_7=>kernel_rfl
  case' stC3=>
   intro KS hKS;go_simp;have y:(w2.alloc (.cells (fU bd.code.length) 117)).heap[w2.heap.size]?=some (.cells (fU bd.code.length) 117):=bj _ _;have i:B_ w2 (w2.alloc (.cells (fU bd.code.length) 117)):=ag _ _ _;have A:Wb.heap.size<=w2.heap.size:=f.size;have d:=f.trans i;have t:=i.kp n;clear f i n;refine hKS.out _ _ (λ_=>d) ?_;clear hKS KS;revert y d A t;generalize (w2.alloc (.cells (fU bd.code.length) 117))=w3;generalize w2.heap.size=gs;intro j A f n;refine je (k:=6) (v:= ?vCaxq6) rfl f ?yCaxq6 ?rCaxq6
   case yCaxq6=>intro wS h;clear h;go_simp;try rfl
   dsimp only[Act.put]
   try simp only[bW]
   refine aG (k:=7) rfl ?_;intro KS hKS;go_simp;have y:(w3.alloc (.cells #[.pointer none,.int .u8 0,.int .i64 0,.int .u8 0,S_,S_,S_,S_,.bool false] 181)).heap[w3.heap.size]?=some (.cells #[.pointer none,.int .u8 0,.int .i64 0,.int .u8 0,S_,S_,S_,S_,.bool false] 181):=bj _ _;have i:B_ w3 (w3.alloc (.cells #[.pointer none,.int .u8 0,.int .i64 0,.int .u8 0,S_,S_,S_,S_,.bool false] 181)):=ag _ _ _;have C:Wb.heap.size<=w3.heap.size:=f.size
   have d:=f.trans i;have t:=i.kp n;have q:=i.kp j;clear f i n j;refine hKS.out _ _ (λ_=>d) ?_;clear hKS KS;revert y d C t q;generalize (w3.alloc (.cells #[.pointer none,.int .u8 0,.int .i64 0,.int .u8 0,S_,S_,S_,S_,.bool false] 181))=w4;generalize w3.heap.size=bb;intro g C f n j
  case' stC7=>
   intro KS hKS;go_simp;have y:(w2.alloc (.cells #[.pointer none,.int .u8 0,.int .i64 0,.int .u8 0,S_,S_,S_,S_,.bool false] 181)).heap[w2.heap.size]?=some (.cells #[.pointer none,.int .u8 0,.int .i64 0,.int .u8 0,S_,S_,S_,S_,.bool false] 181):=bj _ _;have i:B_ w2 (w2.alloc (.cells #[.pointer none,.int .u8 0,.int .i64 0,.int .u8 0,S_,S_,S_,S_,.bool false] 181)):=ag _ _ _;have C:Wb.heap.size<=w2.heap.size:=f.size;have d:=f.trans i
   have t:=i.kp n;clear f i n;refine hKS.out _ _ (λ_=>d) ?_;clear hKS KS;revert y d C t;generalize (w2.alloc (.cells #[.pointer none,.int .u8 0,.int .i64 0,.int .u8 0,S_,S_,S_,S_,.bool false] 181))=w3;generalize w2.heap.size=bb;intro g C f n;refine aG (k:=3) rfl ?_;intro KS hKS;go_simp;have y:(w3.alloc (.cells (fU bd.code.length) 117)).heap[w3.heap.size]?=some (.cells (fU bd.code.length) 117):=bj _ _;have i:B_ w3 (w3.alloc (.cells (fU bd.code.length) 117)):=ag _ _ _;have A:Wb.heap.size<=w3.heap.size:=f.size;have d:=f.trans i
   have t:=i.kp n;have z:=i.kp g;clear f i n g;refine hKS.out _ _ (λ_=>d) ?_;clear hKS KS;revert y d A t z;generalize (w3.alloc (.cells (fU bd.code.length) 117))=w4;generalize w3.heap.size=gs;intro j A f n g;refine je (k:=6) (v:= ?vCcxz6) rfl f ?yCcxz6 ?rCcxz6
   case yCcxz6=>intro wS h;clear h;go_simp;try rfl
   dsimp only[Act.put]
   try simp only[bW]
 case' stA7=>
  intro KS hKS;go_simp;have y:(w1.alloc (.cells #[.pointer none,.int .u8 0,.int .i64 0,.int .u8 0,S_,S_,S_,S_,.bool false] 181)).heap[w1.heap.size]?=some (.cells #[.pointer none,.int .u8 0,.int .i64 0,.int .u8 0,S_,S_,S_,S_,.bool false] 181):=bj _ _;have i:B_ w1 (w1.alloc (.cells #[.pointer none,.int .u8 0,.int .i64 0,.int .u8 0,S_,S_,S_,S_,.bool false] 181)):=ag _ _ _;have C:Wb.heap.size<=w1.heap.size:=f.size;have d:=f.trans i
  clear f i;refine hKS.out _ _ (λ_=>d) ?_;clear hKS KS;revert y d C;generalize (w1.alloc (.cells #[.pointer none,.int .u8 0,.int .i64 0,.int .u8 0,S_,S_,S_,S_,.bool false] 181))=w2;generalize w1.heap.size=bb;intro g C f;refine kF (k1:=3) (o1:= ?oD3) (k2:=5) (o2:= ?oD5) ?hoD3 ?hoD5 ?hlD3_5 ?hrD3_5 ?stD3 ?stD5
  case hoD3=>rfl
  case hoD5=>rfl
  case hlD3_5=>decide
  case hrD3_5=>kernel_rfl
  case' stD3=>
   intro KS hKS;go_simp;have y:(w2.alloc (.cells (fU bd.code.length) 117)).heap[w2.heap.size]?=some (.cells (fU bd.code.length) 117):=bj _ _;have i:B_ w2 (w2.alloc (.cells (fU bd.code.length) 117)):=ag _ _ _;have A:Wb.heap.size<=w2.heap.size:=f.size;have d:=f.trans i;have z:=i.kp g;clear f i g;refine hKS.out _ _ (λ_=>d) ?_;clear hKS KS;revert y d A z;generalize (w2.alloc (.cells (fU bd.code.length) 117))=w3;generalize w2.heap.size=gs;intro j A f g;refine aG (k:=5) rfl ?_;intro KS hKS;go_simp;have y:(w3.alloc (.cells (j9 bd.code.length) 4)).heap[w3.heap.size]?=some (.cells (j9 bd.code.length) 4):=bj _ _
   have i:B_ w3 (w3.alloc (.cells (j9 bd.code.length) 4)):=ag _ _ _;have B:Wb.heap.size<=w3.heap.size:=f.size;have d:=f.trans i;have z:=i.kp g;have q:=i.kp j;clear f i g j;refine hKS.out _ _ (λ_=>d) ?_;clear hKS KS;revert y d B z q;generalize (w3.alloc (.cells (j9 bd.code.length) 4))=w4;generalize w3.heap.size=gw;intro n B f g j;refine je (k:=6) (v:= ?vDaxz6) rfl f ?yDaxz6 ?rDaxz6
   case yDaxz6=>intro wS h;clear h;go_simp;try rfl
   dsimp only[Act.put]
   try simp only[bW]
  case' stD5=>
   intro KS hKS;go_simp;have y:(w2.alloc (.cells (j9 bd.code.length) 4)).heap[w2.heap.size]?=some (.cells (j9 bd.code.length) 4):=bj _ _;have i:B_ w2 (w2.alloc (.cells (j9 bd.code.length) 4)):=ag _ _ _;have B:Wb.heap.size<=w2.heap.size:=f.size;have d:=f.trans i;have z:=i.kp g;clear f i g;refine hKS.out _ _ (λ_=>d) ?_;clear hKS KS;revert y d B z;generalize (w2.alloc (.cells (j9 bd.code.length) 4))=w3;generalize w2.heap.size=gw;intro n B f g;refine aG (k:=3) rfl ?_;intro KS hKS;go_simp;have y:(w3.alloc (.cells (fU bd.code.length) 117)).heap[w3.heap.size]?=some (.cells (fU bd.code.length) 117):=bj _ _
   have i:B_ w3 (w3.alloc (.cells (fU bd.code.length) 117)):=ag _ _ _;have A:Wb.heap.size<=w3.heap.size:=f.size;have d:=f.trans i;have z:=i.kp g;have t:=i.kp n;clear f i g n;refine hKS.out _ _ (λ_=>d) ?_;clear hKS KS;revert y d A z t;generalize (w3.alloc (.cells (fU bd.code.length) 117))=w4;generalize w3.heap.size=gs;intro j A f g n;refine je (k:=6) (v:= ?vDbxz6) rfl f ?yDbxz6 ?rDbxz6
   case yDbxz6=>intro wS h;clear h;go_simp;try rfl
   dsimp only[Act.put]
   try simp only[bW]
 all_goals
  obtain⟨q0,q1,q2,q3,q4,q5,q6,q7,q8⟩:=Gb g;have fz:=FP g;have i6:=ae g;have i0:bb≠gs:=λe=>by rw[e,j]at g;injection g with h;injection h with _ h2;exact absurd h2 (by decide)
  have i1:bb≠gw:=λe=>by rw[e,n]at g;injection g with h;injection h with _ h2;exact absurd h2 (by decide)
  have hP:=AE g (.pointer (some ⟨b,0,none⟩)) (.int .u8 c.toNat) (.int .i64 m) (.int .u8 r.toNat) (.slice al bd.zy.length capl) (.slice ai bd.code.length capi) (.slice (some ⟨gs,0,none⟩) bd.code.length bd.code.length) (.slice (some ⟨gw,0,none⟩) bd.code.length bd.code.length) (.bool false);have hQ:=Ce w4 bb (.pointer (some ⟨b,0,none⟩)) (.int .u8 c.toNat) (.int .i64 m) (.int .u8 r.toNat) (.slice al bd.zy.length capl) (.slice ai bd.code.length capi) (.slice (some ⟨gs,0,none⟩) bd.code.length bd.code.length) (.slice (some ⟨gw,0,none⟩) bd.code.length bd.code.length) (.bool false);have q:=(hQ.block gs (ae j) (λe=>i0 e.symm)).trans j
  have t:=(hQ.block gw (ae n) (λe=>i1 e.symm)).trans n;have d:=f.next hQ (λk hk e=>by omega);unfold Cd at hP hQ q t d;clear j n g f hQ i0 i1;have f0:=fz 0;have f1:=fz 1;have f2:=fz 2;have f3:=fz 3;have f4:=fz 4;have f5:=fz 5;have f6:=fz 6;have f7:=fz 7;have f8:=fz 8;clear fz;refine aG (k:=8) rfl ?_;intro KS hKS;go_simp;refine hKS.out _ _ nofun ?_;clear hKS KS;refine dg rfl ?_;clear q0 q1 q2 q3 q4 q5 q6 q7 q8 f0 f1 f2 f3 f4 f5 f6 f7 f8 i6;revert hP q t d;generalize ((((((((w4.setCell ⟨bb,0,none⟩ (.pointer (some ⟨b,0,none⟩))).setCell ⟨bb,1,none⟩ (.int .u8 c.toNat)).setCell ⟨bb,2,none⟩ (.int .i64 m)).setCell ⟨bb,3,none⟩ (.int .u8 r.toNat)).setCell ⟨bb,4,none⟩ (.slice al bd.zy.length capl)).setCell ⟨bb,5,none⟩ (.slice ai bd.code.length capi)).setCell ⟨bb,6,none⟩ (.slice (some ⟨gs,0,none⟩) bd.code.length bd.code.length)).setCell ⟨bb,7,none⟩ (.slice (some ⟨gw,0,none⟩) bd.code.length bd.code.length)).setCell ⟨bb,8,none⟩ (.bool false)=wz
  intro g j n f;have l3:=b4.size
  have a0:Bld w wz bb b gs gw c r m (.slice al bd.zy.length capl) (.slice ai bd.code.length capi) (List.replicate bd.code.length none) (List.replicate bd.code.length false) false:=by
   refine⟨b4.trans f,by omega,by omega,by omega,by rw[List.length_replicate];exact g,⟨List.replicate bd.code.length pG,j,by simp[pG],λx hx s lo e=>by rw[List.eq_of_mem_replicate hx]at e;cases e⟩,n,by simp⟩
  have O:=(f.block w.heap.size H (λh=>h)).trans e8.out;have a3:=(f.block (w.heap.size+1) e0 (λh=>h)).trans e9.out;clear k0 k1 k2 k3 k4 j n g f e3 e2;obtain⟨k0,k1,k2,k3,k4⟩:=bI O;have a1:=ae O;have hE:=BtB.empty wz;have g2:B_ wz (wz.alloc (.cells #[] 5)):=ag _ _ _;have L:=a0.next g2;have a8:=hlo.but L.but (λ_ _ h=>h);have e1:=hbd.loc.1;have b1:wfT im.zq.length bd.zy.length (List.replicate bd.code.length (none:St)).length (List.replicate bd.code.length none):=⟨rfl,λk s l hk=>by rw[List.getElem?_replicate]at hk;split at hk<;>simp at hk⟩;have b3:okZ im.zq.length bd.zy.length [] bd.zy:=⟨by simp,λc hc=>kI (hbd.loc.2 c hc),rfl⟩
  have b6:=m9 w bb b gs gw c r m _ _ _ _ false im bd.zy.length 0 (some ⟨wz.heap.size,0,none⟩) al 0 capl [] bd.zy _ hW e1 (by simp;omega) L hTX.cls b1 b3 (by simp) (dh hE (Nat.zero_le _)) a8;have h0:(List.replicate bd.code.length (none:St))[0]?=some none:=by rw[List.getElem?_replicate,if_pos (by omega)]
  rw[B9 h0]at b6;unfold xsV at b6;have g1:=hid b6;have b7:=hid O;have S:=hid a3;clear b6 hE g2 L a8 b1 b3 h0 a0 O a3 e8 e9;go_wp2_with fail;refine g1.out.mono ?_;rintro en w5 ⟨rfl,g3,D⟩;clear g1;simp only[Bool.or_false]at D;have a4:=(((ag (λ_=>False) wz (.cells #[] 5)).mono (G:=λk=>k=bb\/k=gs\/k=gw) (λ_ _ h=>h.elim)).trans g3).block (w.heap.size+1) (ae S.out) (by omega);have a5:=a4.trans S.out;have p:=hid a5;clear a4 a5 S b7 k0 k1 k2 k3 k4 a1 g3;have F:=hid (oC.start hbd);obtain⟨tab,b9⟩: ∃tab,(List.replicate bd.code.length (none:St)).set 0 (some ([],bd.zy))=tab:=⟨_,rfl⟩;obtain⟨wt,h1⟩: ∃wt,(List.replicate bd.code.length false).set 0 true=wt:=⟨_,rfl⟩
  obtain⟨e5,g6⟩: ∃e5,muW (di bd,(List.replicate bd.code.length false).set 0 true,false)=e5:=⟨_,rfl⟩;have b0:tab.length<=100:=by rw[<-b9];simp;omega
  rw[g6]at F;rw[b9,h1]at D F;clear b9 h1 g6;have h4:=D.cells;have Z:=kq bb gw wt w5 (by rw[D.wl];exact h4.2.2.1) D.wts (by rw[D.wl];exact b0);have Q:=hid Z;clear Z h4;go_wp2_with fail;refine Q.out.mono ?_;rintro en wx ⟨rfl,b2⟩;rw[b2];clear b2 wx Q;go_wp2_with fail
  go_loopg [8] e5 (λmm av wr=> ∃(tab:List St) (wt:List Bool) (bad:Bool),av= .int .i64 (kO wt wt.length 0)/\Bld w wr bb b gs gw c r m (.slice al bd.zy.length capl) (.slice ai bd.code.length capi) tab wt bad/\Hid (wr.heap[w.heap.size+1]?=some (.cells #[S_] 65))/\Hid (oC im bd tab wt bad mm))
  case atStart=>exact⟨tab,wt,false,rfl,D,p,F.out⟩
  case round=>
   clear D F b0 p;obtain⟨tab,wt,bad,rfl,I,p,F⟩:=hrel;obtain⟨c0,c6,c7,c8⟩:=I.cells;have k9:=I.lt
   cases bad with
   |true=>
    have y:dP im bd=none:=by
     obtain⟨h,_⟩ | ⟨_,h⟩:=F.out
     .cases h
     .exact h
    have HN:=hid y;have r0:wr.cell? ⟨w.heap.size+1,0,none⟩=some S_:=by rw[bU wr (w.heap.size+1) 0 _ _ (0,0) p.out];rfl
    have f0:wr.frozen? ⟨w.heap.size+1,0,none⟩=false:=cw wr (w.heap.size+1) 0 _ _ p.out;clear y F;obtain⟨Y,M⟩ | ⟨a,Y,i5,b5⟩:=pw (l:=wt) wt.length 0 (by omega)
    .rw[Y];clear Y M;go_wp2_with fail;have X:=bS wr (w.heap.size+1) 0 _ _ S_ p.out;have E:=aq wr (w.heap.size+1) 0 S_;revert X E;generalize (wr.setCell ⟨w.heap.size+1,0,none⟩ S_)=w9;intro X E;have z0:w9.cell? ⟨w.heap.size+1,0,none⟩=some S_:=by rw[bU w9 (w.heap.size+1) 0 _ _ (0,0) X];rfl
     exact cU (v:= .tuple #[.agg #[S_],.bool false]) (by simp[results,results65,go_sem,z0]) rfl ⟨I.but.next E (λk hk h=>by omega),Or.inl ⟨HN.out,rfl⟩⟩
    .rw[Y];have i4:(0:Int)<=(a:Int):=by omega
     clear Y b5;go_wp2_with fail;have X:=bS wr (w.heap.size+1) 0 _ _ S_ p.out;have E:=aq wr (w.heap.size+1) 0 S_;revert X E;generalize (wr.setCell ⟨w.heap.size+1,0,none⟩ S_)=w9;intro X E;have z0:w9.cell? ⟨w.heap.size+1,0,none⟩=some S_:=by rw[bU w9 (w.heap.size+1) 0 _ _ (0,0) X];rfl
     exact cU (v:= .tuple #[.agg #[S_],.bool false]) (by simp[results,results65,go_sem,z0]) rfl ⟨I.but.next E (λk hk h=>by omega),Or.inl ⟨HN.out,rfl⟩⟩
   |false=>
    obtain⟨Y,M⟩ | ⟨a,Y,i5,b5⟩:=pw (l:=wt) wt.length 0 (by omega)
    .rw[Y];have y:=F.out.done hW hbd (λk hk=>M k (Nat.zero_le _) hk);have HN:=hid y;have r0:wr.cell? ⟨w.heap.size+1,0,none⟩=some S_:=by rw[bU wr (w.heap.size+1) 0 _ _ (0,0) p.out];rfl
     have f0:wr.frozen? ⟨w.heap.size+1,0,none⟩=false:=cw wr (w.heap.size+1) 0 _ _ p.out;clear y F Y M;go_wp2_with fail;have X:=bS wr (w.heap.size+1) 0 _ _ (.slice (some ⟨gs,0,none⟩) tab.length tab.length) p.out;have E:=aq wr (w.heap.size+1) 0 (.slice (some ⟨gs,0,none⟩) tab.length tab.length);revert X E;generalize (wr.setCell ⟨w.heap.size+1,0,none⟩ (.slice (some ⟨gs,0,none⟩) tab.length tab.length))=w9;intro X E;have z0:w9.cell? ⟨w.heap.size+1,0,none⟩=some (.slice (some ⟨gs,0,none⟩) tab.length tab.length):=by rw[bU w9 (w.heap.size+1) 0 _ _ (0,0) X];rfl
     have e4:=I.sts.off E (by omega) (λk cur hk e=>by
      rw[e,p.out]at hk;injection hk with hk;injection hk with _ h2;exact absurd h2 (by decide))
     exact cU (v:= .tuple #[.agg #[.slice (some ⟨gs,0,none⟩) tab.length tab.length],.bool true]) (by simp[results,results65,go_sem,z0]) rfl ⟨I.but.next E (λk hk h=>by omega),Or.inr ⟨tab,gs,HN.out,rfl,e4,by omega⟩⟩
    .rw[Y];obtain⟨x,s,l,hx,j0,h8,h6⟩:=F.out.next hW hbd b5;have j1:tab.length=bd.code.length:=h8.1;have j3:=I.wl;obtain⟨j4,j5⟩:=I.wcell (k:=a) (by omega);have j7:(a:Int)<(tab.length:Int):=by omega
     have i4:(0:Int)<=(a:Int):=by omega
     have g0:=hid h6;have g4:=I.wait a false;have e6:=hid g4;clear h6 F Y b5;have a6:=((aq wr gw a (.bool false)).block (w.heap.size+1) (ae p.out) (by omega)).trans p.out;have T:=hid a6;have d6:=vJ w bb b gs gw m c (.slice al bd.zy.length capl) ai capi tab (wt.set a false) im bd a x s l _ hW hbd (by rw[HR.out];exact e6.out) rfl hit hTX h8 j1 hx j0;rw[HR.out]at d6;have e7:=hid d6;clear a6 p d6 g4 e6;go_wp2_with fail;refine e7.out.mono ?_;rintro en w7 ⟨rfl,i3,tab',wt',bad',j2,J,h3,h7⟩;obtain⟨m',l0,g5⟩:=g0.out tab' wt' bad' h3 h7;have i2:=hid g5;have a7:=(i3.block (w.heap.size+1) (ae T.out) (by omega)).trans T.out
     have b8:=hid a7;have h5:=J.cells;have Z:=kq bb gw wt' w7 (by rw[J.wl];exact h5.2.2.1) J.wts (by rw[J.wl];omega);have Q:=hid Z;clear a7 g5 g0 e7 h3 h7 Z h5 T c0 c6 c7 c8 j4 j5;go_wp2_with fail;refine Q.out.mono ?_;rintro en wx ⟨rfl,b2⟩;rw[b2];clear b2 wx Q;go_wp2_with fail
     go_roundg m'
     case measure=>omega
     case rel=>exact⟨tab',wt',bad',rfl,J,b8,i2.out⟩
end
end Go.Proofs.YtpfkkmacakjmbaaGreatDoor
