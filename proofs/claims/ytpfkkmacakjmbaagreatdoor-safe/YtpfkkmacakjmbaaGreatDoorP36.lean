import Derived.Test.YtpfkkmacakjmbaaGreatDoorP35
import Derived.Test.YtpfkkmacakjmbaaGreatDoorP32
set_option maxRecDepth 100000
set_option maxHeartbeats 6400000
set_option linter.all false
namespace Go.Proofs.YtpfkkmacakjmbaaGreatDoor
open Proofs.Tryz
section
open Go Go.RowKit Sp
attribute [local go_sem ↓] dG dH
section
variable {K:Dk} {w0 w w':World} {hv:Value} {fo:List Value} {s:Ev} {ds:List Fd} {d c:Fd} {g cap:Nat}
theorem CK {m:Int} (h:DmQ K w0 w 0 12 hv (.slice (some ⟨g,0,none⟩) 1 cap) fo s [d]) (hcap:1<=cap) (h4:d.zx.length<=4000) (hl:1<=d.zx.length) (hm:bE d.zx= .i m):
  Calls prog 112 #[.pointer (some ⟨K.mb,0,none⟩),.pointer (some ⟨g,0,none⟩)] w λen w'=>en= .returned (.tuple #[])/\ ∃hv fv fo,DmQ K w0 w' m 0 hv fv fo s []:=by
 have HP:=hid (gv (ds:=[]) h hl h4);obtain⟨a3,_,a4,_,_,c2,_,_⟩:=DmQ.cs (ds:=[]) h;obtain⟨a,c,a0⟩:=aw (DmQ.st (ds:=[]) h);rw[a0]at c2;have hn:=tf d.zx.length 0 (by omega);rw[hm]at HP;clear h a0 hl hm;simp only[dK,nA,nB,List.length_nil,Nat.zero_mul,Nat.zero_add,List.nil_append]at HP c2
 go_in
 go_wp2_with fail;refine HP.out.mono ?_;rintro en w1 ⟨rfl,a1,sv,hM⟩;obtain⟨_,_,_,c3,_,_,_,_,c8,c9⟩:=hM.mc.cs;have z3:=hM.mc.fz 3;have z8:=hM.mc.fz 8;have z9:=hM.mc.fz 9;have a5:=hM.lt;have HM:=hid (DmQ.drop (ds:=[]) hM);clear HP a1 hM;have a2:(1:Int)<=(cap:Int):=by omega
 go_wp2_with fail;go_end0;have h1:=HM.out;simp only[List.length_nil]at h1;have h2:=h1.own (val':=0) (e':=0) (s':=s) (au _ K.mb 9 (.int .i64 0)) rfl (h1.mc.set9 0);have h3:=h2.own (val':=m) (e':=0) (s':=s) (au _ K.mb 8 (.int .i64 m)) rfl (h2.mc.set8 m);exact⟨rfl,_,_,_,h3.new (ag _ _ _)⟩
theorem DX (h:DmQ K w0 w 0 12 hv (.slice (some ⟨g,0,none⟩) (ds.length+1+1) cap) fo s ((ds++ [c])++ [d])) (hcap:ds.length+1+1<=cap) (h4:d.zx.length<=4000) (hl:1<=d.zx.length) (hc4:c.zx.length<=4000) (hd:ds.length<=100) (hpc:0<=c.pc/\c.pc<=100):
  Calls prog 112 #[.pointer (some ⟨K.mb,0,none⟩),.pointer (some ⟨g,(ds.length+1)*4,none⟩)] w λen w'=>en= .returned (.tuple #[])/\ ∃fv sv lv,DmQ K w0 w' 0 12 hv fv fo s (ds++ [⟨c.q,c.pc+1,c.zx++ [bE d.zx],c.loc,sv,lv⟩]):=by
 have a0:(ds++ [c]).length=ds.length+1:=by simp
 have h':=h;rw[<-a0]at h';have hp:=gv h' hl h4;obtain⟨a6,_,a8,_,_,c2,_,_⟩:=h'.cs;obtain⟨a,c',a2⟩:=aw h'.st;rw[a0]at hp c2;rw[a2]at c2;have HP:=hid hp;have hn:=tf d.zx.length 0 (by omega);generalize bE d.zx=v at*;clear h h' hp a2 hl;simp only[dK]at HP
 go_in
 go_wp2_with fail;refine HP.out.mono ?_;rintro en w1 ⟨rfl,a4,sv,hM⟩;obtain⟨_,_,_,c3,_,_,_,_,_,_⟩:=hM.mc.cs;have z3:=hM.mc.fz 3;have b0:=hM.lt;rw[<-a0]at hM;have a1:=hM.drop;rw[a0]at a1;have HM:=hid a1;have a5:(ds.length:Int)+1<=(cap:Int):=by omega
 clear HP a4 hM a1;go_wp2_with fail;refine(dT (HM.out.new (ag (λ_=>False) _ (.cells #[.int .u8 v.K,.int .i64 v.N] 135))) v hc4).mono ?_;rintro en w2 ⟨rfl,sv',hM⟩;obtain⟨a7,_,_,_,c1,_,_,fz⟩:=hM.cs;have f1:=fz (ds.length*4+1);have a3:=hid (hM.pc (c.pc+1));have b1:=er (c.pc+1) (by omega) (by omega);clear HM fz hM c2 c3 z3;simp only at c1;go_wp2_with fail;go_end0;exact⟨rfl,_,_,_,a3.out⟩
end
theorem dtF {x k:Nat} (h:x≠k):((x:Int)==(k:Int))=false:=by rw[eA];omega
def vj (K:Dk) (w0:World) (g cap:Nat) (ds:List Fd) (R:World->Prop) (w':World):Prop:=
 ∃q s pc zx loc e hv fo sv lv,-1<=pc/\pc<=200/\DmQ K w0 w' 0 e hv (.slice (some ⟨g,0,none⟩) (ds.length+1) cap) fo s (ds++ [⟨q,pc,zx,loc,sv,lv⟩])/\
  ∀w'',DmQ K w0 w'' 0 e hv (.slice (some ⟨g,0,none⟩) (ds.length+1) cap) fo s (ds++ [⟨q,pc+1,zx,loc,sv,lv⟩])->R w''
section
variable {K:Dk} {w0 w w':World} {hv:Value} {fo:List Value} {s:Ev} {ds:List Fd} {d:Fd} {g cap:Nat} {x:Ins} {im:Img} {b:Bod}
theorem zH (h:DmQ K w0 w 0 12 hv (.slice (some ⟨g,0,none⟩) (ds.length+1) cap) fo s (ds++ [d])) (h4:d.zx.length<=4000) (h12:ds.length<=100) (hI:dX w0 K.bi im) (hw:WfI im) (hbd:im.zq[d.q]?=some b) (hpc:0<=d.pc) (hx:b.code[d.pc.toNat]?=some x) (htag:lu (bz im x) d.zx) (R:World->Prop)
  (hK:(x.op.toNat=99/\ ∀Y,B_ w Y->Calls prog 111 #[.pointer (some ⟨K.mb,0,none⟩),.pointer (some ⟨g,ds.length*4,none⟩),br x] Y λen w'=>en= .returned (.tuple #[])/\R w')\/
   (x.op.toNat=116/\ ∀Y,B_ w Y->Calls prog 112 #[.pointer (some ⟨K.mb,0,none⟩),.pointer (some ⟨g,ds.length*4,none⟩)] Y λen w'=>en= .returned (.tuple #[])/\R w')\/
   ((x.op.toNat=108\/x.op.toNat=115\/x.op.toNat=100\/x.op.toNat=106)/\ ∀Y,B_ w Y->Calls prog 113 #[.pointer (some ⟨K.mb,0,none⟩),.pointer (some ⟨g,ds.length*4,none⟩),br x] Y λen w'=>en= .returned (.tuple #[])/\vj K w0 g cap ds R w')\/
   ((x.op.toNat=110\/x.op.toNat=122\/x.op.toNat=103\/x.op.toNat=112\/x.op.toNat=120)/\ ∀Y,B_ w Y->Calls prog 114 #[.pointer (some ⟨K.mb,0,none⟩),.pointer (some ⟨g,ds.length*4,none⟩),br x] Y λen w'=>en= .returned (.tuple #[])/\vj K w0 g cap ds R w')\/
   ((x.op.toNat≠99/\x.op.toNat≠116/\x.op.toNat≠108/\x.op.toNat≠115/\x.op.toNat≠100/\x.op.toNat≠106/\x.op.toNat≠110/\x.op.toNat≠122/\x.op.toNat≠103/\x.op.toNat≠112/\x.op.toNat≠120)/\ ∀Y,B_ w Y->Calls prog 115 #[.pointer (some ⟨K.mb,0,none⟩),.pointer (some ⟨g,ds.length*4,none⟩),br x] Y λen w'=>en= .returned (.tuple #[])/\vj K w0 g cap ds R w')):
  Calls prog 67 #[.pointer (some ⟨K.mb,0,none⟩)] w λen w'=>en= .returned (.tuple #[])/\R w':=by
 have b6:=hw.bod b (bp hbd);have b9:=b6.code x (bp hx);have HW:=hid (λY (hY:B_ w Y)=>zE (h.new hY) hI b9);have e5:(bz im x).length<=2:=by unfold bz;(repeat' split)<;>simp
 have b1:=hid (λY (hY:B_ w Y)=>wO (h.new hY) h4 _ htag e5);generalize bz im x=ts at*;obtain⟨c0,_,_,c3,_⟩:=h.mc.cs;have e4:=h.lt;obtain⟨b3,_,_,q0,q1,_,_,_⟩:=h.cs;obtain⟨gb,cb,ak,capk,e2,d6,e3,e0,b2,_,_,_,f3,_⟩:=(hI.but h.old).body hbd;have a8:=(bC hx).1;obtain⟨gc,rfl,a5,_,a0⟩:=aF b2 (by omega);obtain⟨p,hp⟩: ∃p:Nat,d.pc=p:=⟨d.pc.toNat,by omega⟩;rw[hp]at q1 hx a8;rw[Int.toNat_natCast]at hx a8;have i0:w.cell? ⟨gc,p*4,none⟩=some (.int .u8 x.op.toNat):=a0 _ _ (ez (k:=0) hx (by omega));have i1:w.cell? ⟨gc,p*4+1,none⟩=some (.int .i64 x.a):=a0 _ _ (ez (k:=1) hx (by omega));have i2:w.cell? ⟨gc,p*4+2,none⟩=some (.int .i64 x.b):=a0 _ _ (ez (k:=2) hx (by omega))
 have i3:w.cell? ⟨gc,p*4+3,none⟩=some (.int .i64 x.pos):=a0 _ _ (ez (k:=3) hx (by omega));have e8: ¬(p:Int)<0:=by omega
 have e9: ¬(b.code.length:Int)<=(p:Int):=by omega
 have f0:(p:Int)<(b.code.length:Int):=by omega
 have HK:=hid hK;clear hK h hI hw hbd hpc hx htag b6 b9 b2 a0 hp a8;generalize b.code.length=nc at*;generalize im.zq.length=nb at*;unfold br at HK HW
 go_in
 go_wp2_with fail
 go_quiet (fail)
 generalize nq=n1;go_wp2_with fail
 go_quiet (fail)
 have a2:B_ w ((w.drewN n1).drewN nq):=(aK _ _ _).trans (aK _ _ _);revert a2;generalize (w.drewN n1).drewN nq=X;intro a2;replace i0:=a2.kc i0 a5;replace i1:=a2.kc i1 a5;replace i2:=a2.kc i2 a5;replace i3:=a2.kc i3 a5;replace q1:=a2.kc q1 b3;have hz:=a2.size;replace a5:gc<X.heap.size:=by omega
 replace b3:g<X.heap.size:=by omega
 clear hz c0 c3 q0 e2 f3 e4 e3 e0 d6;generalize b4:ds.length*4=o at*;have b0:=hid b4;clear b4;go_wp2_with fail;have a7:=a2.trans (ag (λ_=>False) X (.cells #[.int .u8 x.op.toNat,.int .i64 x.a,.int .i64 x.b,.int .i64 x.pos] 144));refine(HW.out _ a7).mono ?_;rintro en w1 ⟨rfl,a6⟩;have a3:=(a6.block X.heap.size (by simp) (λh=>h)).trans (aO X _);have a4:=a7.trans a6;clear HW a7 a6 a2 i0 i1 i2 i3 q1;have k0:=aX w1 _ 0 _ _ (0,0) a3;have k1:=aX w1 _ 1 _ _ (0,0) a3;have k2:=aX w1 _ 2 _ _ (0,0) a3;have k3:=aX w1 _ 3 _ _ (0,0) a3;simp at k0 k1 k2 k3;have e7:=ae a3;clear a3;go_wp2_with fail;refine(b1.out _ a4).mono ?_
 rintro en w2 ⟨rfl,b5⟩;rw[b5];clear b5 w2 b1;obtain⟨ho,hN⟩ | ⟨ho,hN⟩ | ⟨ho|ho|ho|ho,hN⟩ | ⟨ho|ho|ho|ho|ho,hN⟩ | ⟨⟨n1,n2,n3,n4,n5,n6,n7,n8,n9,c7,c9⟩,hN⟩:=HK.out
 .have HN:=hid (hN w1 a4);rw[ho]at k0 HN;clear HK hN ho;go_wp2_with fail;refine HN.out.mono ?_;rintro en w3 ⟨rfl,hR⟩;go_wp2_with fail;exact gK results67 rfl ⟨rfl,hR⟩
 .have HN:=hid (hN w1 a4);rw[ho]at k0;clear HK hN ho;go_wp2_with fail;refine HN.out.mono ?_;rintro en w3 ⟨rfl,hR⟩;go_wp2_with fail;exact gK results67 rfl ⟨rfl,hR⟩
 rotate_left 9
 .have HN:=hid (hN w1 a4);clear HK hN;replace n1:=dtF n1;replace n2:=dtF n2;replace n3:=dtF n3;replace n4:=dtF n4;replace n5:=dtF n5;replace n6:=dtF n6;replace n7:=dtF n7;replace n8:=dtF n8;replace n9:=dtF n9;replace c7:=dtF c7;replace c9:=dtF c9;go_wp2_with fail;refine HN.out.mono ?_;rintro en w3 ⟨rfl,q,s',pc,zx,loc,e,hv',fo',sv,lv,p1,p2,hM,hR⟩;obtain⟨e1,_,_,_,c1,_,_,fz⟩:=hM.cs;have a1:=hM.pc (pc+1);rw[b0.out]at c1 a1;have f1:=fz (o+1);have HR:=hid (hR _ a1);have e6:=er (pc+1) (by omega) (by omega);simp only at c1;clear HN hM hR a1 fz k0 k1 k2 k3;go_wp2_with fail;go_end0;exact⟨rfl,HR.out⟩
 all_goals
  have HN:=hid (hN w1 a4);rw[ho]at k0 HN;clear HK hN ho;go_wp2_with fail;refine HN.out.mono ?_;rintro en w3 ⟨rfl,q,s',pc,zx,loc,e,hv',fo',sv,lv,p1,p2,hM,hR⟩;obtain⟨e1,_,_,_,c1,_,_,fz⟩:=hM.cs;have a1:=hM.pc (pc+1);rw[b0.out]at c1 a1;have f1:=fz (o+1);have HR:=hid (hR _ a1);have e6:=er (pc+1) (by omega) (by omega);simp only at c1;clear HN hM hR a1 fz k0 k1 k2 k3;go_wp2_with fail;go_end0;exact⟨rfl,HR.out⟩
end
theorem EF:(prog.info? 265).map (λi=>(i.zero,i.size,i.bytes))=some (some (.agg #[.int .i64 0,S_]),2,32):=by kernel_rfl
section
variable {K:Dk} {w0 w w':World} {hv:Value} {fo:List Value} {s:Ev} {ds:List Fd} {d:Fd} {g cap:Nat} {x:Ins} {im:Img} {T:de} {base:Nat} {L:List (Nat×List St)}
theorem EG (h:DmQ K w0 w 0 12 hv (.slice (some ⟨g,0,none⟩) (ds.length+1) cap) fo s (ds++ [d])) (h4:d.zx.length<=4000) (hI:dX w0 K.bi im) (hxa:x.a<im.zz.length) (hf8:bH im.zz x.a<=100) {RS:Nat} (hTK: ∀Y,B_ w Y->Calls prog 179 #[.pointer (some ⟨K.mb,0,none⟩)] Y λen w'=>en= .returned (.int .i64 RS)/\B_ Y w') (hh:s.heap.length<=4000) (hce:K.cells<=100) (hrs:RS<=404000) (ho:x.op.toNat=110):
  Calls prog 114 #[.pointer (some ⟨K.mb,0,none⟩),.pointer (some ⟨g,ds.length*4,none⟩),br x] w λen w'=>en= .returned (.tuple #[])/\((RS+1+(cr im.zz x.a).length>K.cells/\jB K w0 g cap ds d.q s d.pc d.zx d.loc 9 w')\/(¬RS+1+(cr im.zz x.a).length>K.cells/\jB K w0 g cap ds d.q {s with heap:=s.heap++ [⟨x.a,cr im.zz x.a⟩]} d.pc (d.zx++ [.o s.heap.length]) d.loc 12 w')):=by
 have e5:=hid hTK
 have g4:(cr im.zz x.a).length<=100:=by
  have:(cr im.zz x.a).length=bH im.zz x.a:=by simp[cr,bJ,bH,aH hxa]
  omega
 clear hTK;unfold br;rw[ho];clear ho;obtain⟨W,hW⟩: ∃W,w.alloc (.cells #[.int .u8 110,.int .i64 x.a,.int .i64 x.b,.int .i64 x.pos] 144)=W:=⟨_,rfl⟩;have b2:B_ w W:=by rw[<-hW];exact ag _ _ _
 have b9:W.heap[w.heap.size]?=some (.cells #[.int .u8 110,.int .i64 x.a,.int .i64 x.b,.int .i64 x.pos] 144):=by rw[<-hW];exact aO _ _
 have b5:=h.new b2;have c0:=b5.mc.cs.1;have n1:=ce1 b9;have f0:=b5.lt;have e2:=ae b9;have e6:=hid hW;have HM:=hid h;have f8:=h.old.size;clear hW h
 go_in
 go_wp2_with fail;rw[e6.out];refine aI (B_ W) 7 ?_;have a7:B_ W W.drew:=aD _ _
 iterate 6 (refine aQ (v:=?_) rfl a7 ?_ ?_;rotate_left;(focus (intro wS h;have q0:=(h.kc c0 f0);have q1:=(h.kc n1 e2);clear h;go_simp;try rfl));dsimp only[Act.put];try simp only[cH])
 refine az rfl ?_;intro KS hKS;go_simp;refine(yH K.bi im x.a _ (hI.but (b5.new a7).old).cls hxa hf8).mono ?_;rintro en wf ⟨vf,rfl,e0,d6⟩;refine hKS.out _ _ (λ_=>a7.trans d6) ?_;clear hKS KS;refine az rfl ?_;intro KS hKS;go_simp;refine hKS.out _ _ nofun ?_;clear hKS KS;refine aR rfl ?_;have a3:=a7.trans d6;have b3:=b2.trans a3;have b0:=(a3.block _ e2 (λh=>h)).trans b9;obtain⟨af,capf,rfl⟩:=aw e0;have a4:wf.ownsRow w.heap.size 135 2 (.slice af (cr im.zz x.a).length capf) (cr im.zz x.a).length (aV (cr im.zz x.a)):=iI e0 b2.size;clear c0 n1 f0 e2 d6 e0 b5 b2 a3 b9 e6 a7;go_wp2_with fail;refine(e5.out _ b3).mono ?_
 rintro en w1 ⟨rfl,a6⟩;have a0:=HM.out.new (b3.trans a6);have e8:=aj a4 a6 (λ_ _ h=>h);have b6:=a6.kp b0
 have e3:Hid (∀g',(Value.slice af (cr im.zz x.a).length capf).ownBlock=some g'-> ∀a v l,cU s.heap fo (ds++ [d]) a=some (v,l)->v.ownBlock≠some g'):=λg' hg' a v l ha hv=>by
  have:=ay a4 g' hg';have:=aW (HM.out.rw.row a v l ha) g' hv;omega
 have g6:=b3.size;have g0:=a6.size;clear e5 a6 a4 b0 b3 HM;obtain⟨_,_,c2,_,_,_,c6,_,_,c9⟩:=a0.mc.cs;have z9:=a0.mc.fz 9;have z2:=a0.mc.fz 2;have e1:=a0.lt;have n1:=ce1 b6;have f6:=ae b6;have b1:=hid a0;have e4:=hid e8;have g5:=a0.old.size;have ab:=a0.nh;have an:hv.ownBlock≠some w.heap.size:=aL a0.hp b6 (by decide);have HP:=a0.hp;obtain⟨ah,caph,rfl⟩:=aw HP;clear a0 e8 b6;generalize e7:(cr im.zz x.a).length=nf at*;have c7:=hid e7;clear e7
 by_cases hc:RS+1+nf>K.cells
 .have f2:(K.cells:Int)<(RS:Int)+1+(nf:Int):=by omega
  go_wp2_with fail;refine gK results114 rfl ?_;rw[c7.out];exact⟨rfl,Or.inl ⟨hc,_,_,_,_,b1.out.own (val':=0) (e':=9) (s':=s) (au w1 K.mb 9 (.int .i64 9)) rfl (b1.out.mc.set9 9)⟩⟩
 .have f2: ¬(K.cells:Int)<(RS:Int)+1+(nf:Int):=by omega
  have HC:=hid hc;clear hc;obtain⟨i0,f3,g1,g2,g3⟩:=info_parts EF;go_wp2_with fail;refine aI (But (λk=>(Value.slice ah s.heap.length caph).ownBlock=some k) w1) 11 ?_;have e9:But (λk=>(Value.slice ah s.heap.length caph).ownBlock=some k) w1 w1.drew:=aD _ _
  iterate 9 (refine aQ (v:=?_) rfl e9 ?_ ?_;rotate_left;(focus (intro wS h;have q0:=((h.cell (p:=⟨K.mb,2,none⟩) e1 ab).trans c2);have q1:=((h.cell (p:=⟨w.heap.size,1,none⟩) f6 an).trans n1);clear h;go_simp;try rfl));dsimp only[Act.put];try simp only[cH])
  refine az rfl ?_;intro KS hKS;go_simp;refine hKS.out _ _ (λ_=>(ag _ _ _).trans (aD _ _)) ?_;clear hKS KS;refine az rfl ?_;intro KS hKS
  refine step_append_lies _ (by rfl) _ _ _ (by rfl) w0.heap.size 265 i0 _ 2 32 (by kernel_rfl) f3 g1 g2 g3 rfl (by omega) _ s.heap.length (fC s.heap fo) (by rfl) ((HP.alloc _).drew)
          ⟨w1.heap.size,0,none⟩ 1 1 [.int .i64 x.a,.slice af nf capf] (by rfl) (by rfl) (fX (cs:=#[.int .i64 x.a,.slice af nf capf]) (t:=265) (fr:=(0,0)) (aO w1 _)) (by simp[Value.oneCell'])
          (by omega) (by unfold maxLen;omega) (by omega) (by simp;omega) (w1.heap.size+1) (by simp) ?_
  intro gg a5 w2 a2 a1 f1 f4;have a8:But (λk=>(Value.slice ah s.heap.length caph).ownBlock=some k) w1 w2:=((ag _ _ _).trans (aD _ _)).trans (bc a1);refine hKS.out _ _ (λ_=>a8) ?_;clear hKS KS;have y0:=(a8.cell (p:=⟨K.mb,2,none⟩) e1 ab).trans c2;have y1:=(a8.frozen (p:=⟨K.mb,2,none⟩) e1 ab).trans z2;refine az rfl ?_;intro KS hKS;go_simp;refine hKS.out _ _ nofun ?_;clear hKS KS;refine az rfl ?_;intro KS hKS;go_simp;refine hKS.out _ _ nofun ?_;clear hKS KS;refine az rfl ?_;intro KS hKS;go_simp;refine hKS.out _ _ nofun ?_;clear hKS KS;refine aR rfl ?_;have b4:=b1.out.ob (ob:=⟨x.a,cr im.zz x.a⟩) (vf:= .slice af nf capf) (hv':= .slice (some ⟨gg,0,none⟩) (s.heap.length+1) a5) (by rw[c7.out];exact iI e4.out f8) e3.out a8 a2
  clear y0 y1 c2 z2 n1 a8 a2 a1 f1 e3 b1 e4 e9 c6 c9 z9 HP;generalize (w2.setCell ⟨K.mb,2,none⟩ (.slice (some ⟨gg,0,none⟩) (s.heap.length+1) a5))=w3 at*;have c1:=b4.mc.cs.2.2.1;have f5:=b4.lt;have f7:=er ((s.heap.length:Int)+1-1) (by omega) (by omega);rw[IntWalk.i64_left]at f7;have HQ:=hid (dT b4 (.o s.heap.length) h4);simp only[dK,ve,vg]at HQ;clear b4;go_wp2_with fail;refine HQ.out.mono ?_;rintro en w4 ⟨rfl,sv',hM⟩;clear HQ;go_wp2_with fail;go_end0;rw[c7.out];exact⟨rfl,Or.inr ⟨HC.out,_,_,_,_,hM⟩⟩
end
end
section
open Go Go.RowKit Sp
theorem sQ {zx:List V}:lu [] zx:=⟨by simp,λj t v h=>by simp at h⟩
theorem CL {zx:List V} {a:UInt8} (hl:1<=zx.length) (h:((a.toNat:Int)==105)=(((bE zx).K:Int)==105)):lu [a] zx:=by
 refine⟨hl,λj t v h1 h2=> ?_⟩
 cases j with
 |succ j=>simp at h1
 |zero=>
  simp at h1 h2;have:=(oW hl).2.1;rw[h2]at this
  cases this
  rw[<-h1];exact h
theorem CM {zx:List V} {a b:UInt8} (hl:2<=zx.length) (h:((a.toNat:Int)==105)=(((fk zx).K:Int)==105)) (h':((b.toNat:Int)==105)=(((bE zx).K:Int)==105)):lu [a,b] zx:=by
 refine⟨hl,λj t v h1 h2=> ?_⟩
 match j with
 |0=>
  simp at h1 h2;have e:fk zx=v:=by unfold fk;rw[co,h2];rfl
  rw[<-h1,h,e]
 |1=>
  simp at h1 h2;have:=(oW (zx:=zx) (by omega)).2.1;rw[show zx.length-2+1=zx.length-1 from by omega,this]at h2
  cases h2
  rw[<-h1];exact h'
 |j+2=>simp at h1
theorem vm {im:Img} {s:Ev} {v:V} (h:qn im s v):((v.K:Int)==105)=false:=by
 obtain rfl| ⟨k,ob,rfl,_⟩:=h<;>rfl
def oF (K:Dk) (w0:World) (sr:SR) (w':World):Prop:=match sr with
 | .go m=> ∃hv fv fo ds d,DmQ K w0 w' 0 12 hv fv fo m.ev (ds++ [d])/\m.fr=d.fm::(ds.map Fd.fm).reverse/\ ∀d'∈ds++ [d],0<=d'.pc
 | .bad n o=>DW K w0 n o w'
 | .fin v o=> ∃hv fv fo s,s.out=o/\DmQ K w0 w' v.N 0 hv fv fo s []
structure DAt (K:Dk) (w0 w:World) (im:Img) (T:de) (hv:Value) (g cap:Nat) (fo:List Value) (s:Ev) (ds:List Fd) (d:Fd) (b:Bod) (x:Ins) (st l:L_):Prop where
 dm:DmQ K w0 w 0 12 hv (.slice (some ⟨g,0,none⟩) (ds.length+1) cap) fo s (ds++ [d])
 cp:ds.length+1<=cap
 img:dX w0 K.bi im
 fit:Fit im T
 mt:MT im T d.fm (ds.map Fd.fm).reverse s
 top:sw im T s.heap d.fm b x st l
 pcs: ∀d'∈ds++ [d],0<=d'.pc
 hh:s.heap.length<=4000
def zI (K:Dk) (w0:World) (g cap:Nat) (ds:List Fd) (q:Nat) (sr:SR) (w':World):Prop:=
 ∃s pc zx loc e,-1<=pc/\pc<=200/\jB K w0 g cap ds q s pc zx loc e w'/\((e=12/\sr= .go ⟨⟨q,(pc+1).toNat,zx,loc⟩::(ds.map Fd.fm).reverse,s⟩)\/ ∃n:Nat,e=n/\sr= .bad n s.out)
section
variable {K:Dk} {w0 w w':World} {im:Img} {T:de} {hv:Value} {g cap:Nat} {fo:List Value} {s:Ev} {ds:List Fd} {d:Fd} {b:Bod} {x:Ins} {st l:L_}
theorem zI.next {q:Nat} {sr:SR} (hp: ∀d'∈ds,0<=d'.pc) (h:zI K w0 g cap ds q sr w'):vj K w0 g cap ds (oF K w0 sr) w':=by
 obtain⟨s,pc,zx,loc,e,p1,p2,⟨hv,fo,sv,lv,hM⟩,hc⟩:=h;refine⟨q,s,pc,zx,loc,e,hv,fo,sv,lv,p1,p2,hM,λw'' hM2=> ?_⟩;obtain⟨rfl,rfl⟩ | ⟨n,rfl,rfl⟩:=hc
 .refine⟨_,_,_,ds,_,hM2,rfl,λd' hd=> ?_⟩;obtain hd|hd:=List.mem_append.1 hd
  .exact hp d' hd
  .rw[List.mem_singleton]at hd;subst hd;simp only;omega
 .exact⟨_,_,_,_,_,rfl,hM2⟩
theorem DAt.wx (h:DAt K w0 w im T hv g cap fo s ds d b x st l):WfX im.zz im.zj.length b.locals.length x:=(h.fit.wf.bod b (bp h.top.bd)).code x (bp h.top.ins)
theorem DAt.sml (h:DAt K w0 w im T hv g cap fo s ds d b x st l):d.zx.length<=1000/\d.pc<=100/\ds.length+1<=12/\0<=d.pc:=by
 have h1:=((xF h.fit h.mt).1 d.fm (List.mem_cons_self ..)).2.1;have h2:=(xF h.fit h.mt).2 d.fm (List.mem_cons_self ..);have h3:=h.mt.dep;have h4:=h.pcs d (by simp);simp at h3;have h5:d.pc.toNat<=100:=h2;exact⟨h1,by omega,by omega,h4⟩
theorem DAt.on (h:DAt K w0 w im T hv g cap fo s ds d b x st l) (zx:List V):d.fm.on zx=⟨d.q,(d.pc+1).toNat,zx,d.loc⟩:=by
 have:=h.sml.2.2.2;simp only[Fm.on,Fd.fm,Fm.mk.injEq,true_and,and_true];omega
theorem DAt.eff (h:DAt K w0 w im T hv g cap fo s ds d b x st l): ∃st' l',eN im.zz im.zj b x st l=some (st',l'):=by
 obtain⟨t,ht,hG⟩:=h.fit.tab h.top.bd;obtain⟨st',l',he,_,_⟩:=hG.go d.fm.pc x st l h.top.ins ((eb ht).1 h.top.st);exact⟨st',l',he⟩
theorem DAt.step (h:DAt K w0 w im T hv g cap fo s ds d b x st l) (ht:lu (bz im x) d.zx) (sr:SR)
  (hK:(x.op.toNat=99/\ ∀Y,B_ w Y->Calls prog 111 #[.pointer (some ⟨K.mb,0,none⟩),.pointer (some ⟨g,ds.length*4,none⟩),br x] Y λen w'=>en= .returned (.tuple #[])/\oF K w0 sr w')\/
   (x.op.toNat=116/\ ∀Y,B_ w Y->Calls prog 112 #[.pointer (some ⟨K.mb,0,none⟩),.pointer (some ⟨g,ds.length*4,none⟩)] Y λen w'=>en= .returned (.tuple #[])/\oF K w0 sr w')\/
   ((x.op.toNat=108\/x.op.toNat=115\/x.op.toNat=100\/x.op.toNat=106)/\ ∀Y,B_ w Y->Calls prog 113 #[.pointer (some ⟨K.mb,0,none⟩),.pointer (some ⟨g,ds.length*4,none⟩),br x] Y λen w'=>en= .returned (.tuple #[])/\zI K w0 g cap ds d.q sr w')\/
   ((x.op.toNat=110\/x.op.toNat=122\/x.op.toNat=103\/x.op.toNat=112\/x.op.toNat=120)/\ ∀Y,B_ w Y->Calls prog 114 #[.pointer (some ⟨K.mb,0,none⟩),.pointer (some ⟨g,ds.length*4,none⟩),br x] Y λen w'=>en= .returned (.tuple #[])/\zI K w0 g cap ds d.q sr w')\/
   ((x.op.toNat≠99/\x.op.toNat≠116/\x.op.toNat≠108/\x.op.toNat≠115/\x.op.toNat≠100/\x.op.toNat≠106/\x.op.toNat≠110/\x.op.toNat≠122/\x.op.toNat≠103/\x.op.toNat≠112/\x.op.toNat≠120)/\ ∀Y,B_ w Y->Calls prog 115 #[.pointer (some ⟨K.mb,0,none⟩),.pointer (some ⟨g,ds.length*4,none⟩),br x] Y λen w'=>en= .returned (.tuple #[])/\zI K w0 g cap ds d.q sr w')):
  Calls prog 67 #[.pointer (some ⟨K.mb,0,none⟩)] w λen w'=>en= .returned (.tuple #[])/\oF K w0 sr w':=by
 have hs:=h.sml;have hn: ∀{en:Ending} {w':World},en= .returned (.tuple #[])/\zI K w0 g cap ds d.q sr w'->en= .returned (.tuple #[])/\vj K w0 g cap ds (oF K w0 sr) w':=λ⟨a,c⟩=>⟨a,c.next (λd' hd=>h.pcs d' (List.mem_append_left _ hd))⟩
 refine zH h.dm (by omega) (by omega) h.img h.fit.wf h.top.bd hs.2.2.2 h.top.ins ht _ ?_;obtain hK|hK| ⟨ho,hK⟩ | ⟨ho,hK⟩ | ⟨ho,hK⟩:=hK
 .exact Or.inl hK
 .exact Or.inr (Or.inl hK)
 .exact Or.inr (Or.inr (Or.inl ⟨ho,λY hY=>(hK Y hY).mono (λ_ _ h=>hn h)⟩))
 .exact Or.inr (Or.inr (Or.inr (Or.inl ⟨ho,λY hY=>(hK Y hY).mono (λ_ _ h=>hn h)⟩)))
 .exact Or.inr (Or.inr (Or.inr (Or.inr ⟨ho,λY hY=>(hK Y hY).mono (λ_ _ h=>hn h)⟩)))
abbrev DAt.Goal (_:DAt K w0 w im T hv g cap fo s ds d b x st l):Prop:=Calls prog 67 #[.pointer (some ⟨K.mb,0,none⟩)] w λen w'=>en= .returned (.tuple #[])/\oF K w0 (Sp.stepX im K.inp T K.cells x d.fm (ds.map Fd.fm).reverse s) w'
theorem EH (h:DAt K w0 w im T hv g cap fo s ds d b x st l) (ho:x.op.toNat=107):h.Goal:=by
 have hs:=h.sml;refine h.step (by rw[show bz im x=[]from by simp[bz,ho]];exact sQ) _ (Or.inr (Or.inr (Or.inr (Or.inr ⟨by omega,λY hY=>(Ew (h.dm.new hY) (by omega) ho).mono ?_⟩))));rintro en w' ⟨e,hP⟩;exact⟨e,_,_,_,_,_,by omega,by omega,hP,Or.inl ⟨rfl,by rw[<-h.on];simp[Sp.stepX,ho];rfl⟩⟩
theorem EI (h:DAt K w0 w im T hv g cap fo s ds d b x st l) (hr:s.read<=4000) (ho:x.op.toNat=114):h.Goal:=by
 have hs:=h.sml;refine h.step (by rw[show bz im x=[]from by simp[bz,ho]];exact sQ) _ (Or.inr (Or.inr (Or.inr (Or.inr ⟨by omega,λY hY=>(Ex (h.dm.new hY) (by omega) hr ho).mono ?_⟩))));rintro en w' ⟨e,hP⟩;exact⟨e,_,_,_,_,_,by omega,by omega,hP,Or.inl ⟨rfl,by rw[<-h.on];simp[Sp.stepX,ho];rfl⟩⟩
theorem EJ (h:DAt K w0 w im T hv g cap fo s ds d b x st l) (ho:x.op.toNat=122):h.Goal:=by
 have hs:=h.sml;refine h.step (by rw[show bz im x=[]from by simp[bz,ho]];exact sQ) _ (Or.inr (Or.inr (Or.inr (Or.inl ⟨by omega,λY hY=>(ED (h.dm.new hY) (by omega) ho).mono ?_⟩))));rintro en w' ⟨e,hP⟩;exact⟨e,_,_,_,_,_,by omega,by omega,hP,Or.inl ⟨rfl,by rw[<-h.on];simp[Sp.stepX,ho];rfl⟩⟩
theorem EK (h:DAt K w0 w im T hv g cap fo s ds d b x st l) (ht:fj w0) (hol:s.out.length<=90000) (ho:x.op.toNat=119):h.Goal:=by
 have hs:=h.sml;obtain⟨st',l',he⟩:=h.eff;obtain⟨hf,_,_⟩:=bU (by omega) (by omega) he;simp[bQ,arith,ho]at hf;obtain⟨f1,f2⟩:=fS hf;have hl:=h.top.zx.len;have a0:1<=d.zx.length:=by have:d.zx.length=_:=hl;omega
 obtain⟨n,hn,n1,n2⟩:=(h.top.zx.t1 f1).toInt h.fit.wf.cls h.fit.wf.nc h.mt.ht f2;have hn:bE d.zx= .i n:=hn;refine h.step (by rw[show bz im x=[105]from by simp[bz,ho]];exact CL a0 (by rw[hn];rfl)) _ (Or.inr (Or.inr (Or.inr (Or.inr ⟨by omega,λY hY=>(Ey (h.dm.new hY) (by omega) ht hol a0 hn n1 n2 ho).mono ?_⟩))));rintro en w' ⟨e,hP⟩;exact⟨e,_,_,_,_,_,by omega,by omega,hP,Or.inl ⟨rfl,by rw[<-h.on];simp[Sp.stepX,ho,show bE d.fm.zx= .i n from hn,V.N];rfl⟩⟩
theorem EL (h:DAt K w0 w im T hv g cap fo s ds d b x st l) (ho:x.op.toNat=102):h.Goal:=by
 have hs:=h.sml;obtain⟨st',l',he⟩:=h.eff;obtain⟨hf,_,_⟩:=bU (by omega) (by omega) he;simp[bQ,arith,ho]at hf;obtain⟨f1,f2⟩:=fS hf;have hl:=h.top.zx.len;have a0:1<=d.zx.length:=by have:d.zx.length=_:=hl;omega
 obtain⟨n,hn,n1,n2⟩:=(h.top.zx.t1 f1).toInt h.fit.wf.cls h.fit.wf.nc h.mt.ht f2;have hn:bE d.zx= .i n:=hn;have a1:=h.wx.num;refine h.step (by rw[show bz im x=[105]from by simp[bz,ho]];exact CL a0 (by rw[hn];rfl)) _ (Or.inr (Or.inr (Or.inr (Or.inr ⟨by omega,λY hY=>(Ez (h.dm.new hY) (by omega) a0 h.wx.num ho).mono ?_⟩))));rintro en w' ⟨e,hP⟩;refine⟨e,_,_,_,_,_,by split<;>omega,by split<;>omega,hP,Or.inl ⟨rfl,?_⟩⟩;have e1:(bE d.zx).N=(bE d.fm.zx).N:=rfl;have e2:d.fm.pc=d.pc.toNat:=rfl;simp only[Sp.stepX,ho]
 by_cases h0:(bE d.zx).N=0
 .simp[h0,<-e1];exact⟨rfl,rfl,rfl⟩
 .simp[h0,<-e1,e2,show(d.pc+1).toNat=d.pc.toNat+1 from by omega];exact⟨rfl,rfl,rfl⟩
theorem EM (h:DAt K w0 w im T hv g cap fo s ds d b x st l) (ho:x.op.toNat=100):h.Goal:=by
 have hs:=h.sml;obtain⟨st',l',he⟩:=h.eff;obtain⟨k,hk,_,_⟩:=ko (by omega) he;obtain⟨_,q1,_⟩:=gQ (by omega) hk;have hl:=h.top.zx.len;have a0:1<=d.zx.length:=by have:d.zx.length=_:=hl;omega
 refine h.step (by rw[show bz im x=[]from by simp[bz,ho]];exact sQ) _ (Or.inr (Or.inr (Or.inl ⟨by omega,λY hY=>(DO (h.dm.new hY) (by omega) a0 ho).mono ?_⟩)));rintro en w' ⟨e,hP⟩;exact⟨e,_,_,_,_,_,by omega,by omega,hP,Or.inl ⟨rfl,by rw[<-h.on];simp[Sp.stepX,ho];rfl⟩⟩
theorem EN (h:DAt K w0 w im T hv g cap fo s ds d b x st l) (ho:x.op.toNat=115):h.Goal:=by
 have hs:=h.sml;obtain⟨st',l',he⟩:=h.eff;obtain⟨k,hk,_,_⟩:=ko (by omega) he;obtain⟨_,q1,_⟩:=gQ (by omega) hk;have hl:=h.top.zx.len;have a0:1<=d.zx.length:=by have:d.zx.length=_:=hl;omega
 have a1:x.b<d.loc.length:=by
  have h1:d.loc.length=l.length:=h.top.loc.len;rw[h1,wh h.fit h.top];exact h.wx.loc (Or.inr ho)
 refine h.step (by rw[show bz im x=[]from by simp[bz,ho]];exact sQ) _ (Or.inr (Or.inr (Or.inl ⟨by omega,λY hY=>(DP (h.dm.new hY) (by omega) a0 a1 ho).mono ?_⟩)));rintro en w' ⟨e,hP⟩;exact⟨e,_,_,_,_,_,by omega,by omega,hP,Or.inl ⟨rfl,by simp[Sp.stepX,ho];exact⟨rfl,congrArg Fm.pc (h.on []),rfl,rfl⟩⟩⟩
theorem EO (h:DAt K w0 w im T hv g cap fo s ds d b x st l) (ho:x.op.toNat=108):h.Goal:=by
 have hs:=h.sml
 have a0:x.b<d.loc.length:=by
  have h1:d.loc.length=l.length:=h.top.loc.len;rw[h1,wh h.fit h.top];exact h.wx.loc (Or.inl ho)
 refine h.step (by rw[show bz im x=[]from by simp[bz,ho]];exact sQ) _ (Or.inr (Or.inr (Or.inl ⟨by omega,λY hY=>(DQ (h.dm.new hY) (by omega) a0 ho).mono ?_⟩)));rintro en w' ⟨e,hP⟩;exact⟨e,_,_,_,_,_,by omega,by omega,hP,Or.inl ⟨rfl,by rw[<-h.on];simp[Sp.stepX,ho];rfl⟩⟩
theorem EP (h:DAt K w0 w im T hv g cap fo s ds d b x st l) (ho:x.op.toNat=106):h.Goal:=by
 have hs:=h.sml;have a0:=h.wx.num;refine h.step (by rw[show bz im x=[]from by simp[bz,ho]];exact sQ) _ (Or.inr (Or.inr (Or.inl ⟨by omega,λY hY=>(DN (h.dm.new hY) h.wx.num ho).mono ?_⟩)));rintro en w' ⟨e,hP⟩;exact⟨e,_,_,_,_,_,by omega,by omega,hP,Or.inl ⟨rfl,by simp[Sp.stepX,ho];exact⟨rfl,rfl,rfl⟩⟩⟩
theorem lK {im:Img} {s:Ev} {v:V} (hh:HT im.zz s.heap) {t:UInt8} (h:VT im.zz s.heap t v) (ht:isR t=true):qn im s v:=by
 obtain e| ⟨k,ob,e,hk,_,_⟩:=h.ref ht
 .exact Or.inl e
 .exact Or.inr ⟨k,ob,e,hk,hh.cls k ob hk⟩
theorem EQ {zx:List V} {t:UInt8} {n:Nat} (hl:2<=zx.length) (hn:n<=4) (hu:qn im s (fk zx)) (hv:VTm im.zz s.heap t (bE zx)) (ht:cZ n t=true):lu (if t.toNat=105 then [111,105]else [111,111]) zx:=by
 have h1:=hv.not45 (jr ht);have h2:((((111:UInt8).toNat:Nat):Int)==105)=(((fk zx).K:Int)==105):=by rw[vm hu];rfl
 by_cases h:t.toNat=105
 .rw[if_pos h];obtain⟨m,hm,_⟩:=h1.int h;exact CM hl h2 (by rw[hm];rfl)
 .rw[if_neg h];have hr:isR t=true:=by simp[cZ,aN,isR,isC]at ht⊢;omega
  refine CM hl h2 ?_;obtain e| ⟨k,ob,e,_⟩:=h1.ref hr<;>rw[e]<;>rfl
theorem ER (h:DAt K w0 w im T hv g cap fo s ds d b x st l) (ho:x.op.toNat=43\/x.op.toNat=45\/x.op.toNat=42\/x.op.toNat=60\/x.op.toNat=61\/x.op.toNat=47):h.Goal:=by
 have hs:=h.sml;obtain⟨st',l',he⟩:=h.eff;obtain⟨hf,_,_⟩:=bU (by omega) (by omega) he
 have hp:bQ im.zz im.zj b x=[105,105]:=by
  obtain h'|h'|h'|h'|h'|h':=ho<;>simp[bQ,arith,h']
 rw[hp]at hf;obtain⟨f1,f2,f3⟩:=iH hf;have hl:d.zx.length=st.length:=h.top.zx.len;obtain⟨m,hm,m1,m2⟩:=(h.top.zx.t2 f1).toInt h.fit.wf.cls h.fit.wf.nc h.mt.ht f2;obtain⟨n,hn,n1,n2⟩:=(h.top.zx.t1 (by omega)).toInt h.fit.wf.cls h.fit.wf.nc h.mt.ht f3;have a0:fk d.zx= .i m:=hm;have a1:bE d.zx= .i n:=hn
 have hw:bz im x=[105,105]:=by
  obtain h'|h'|h'|h'|h'|h':=ho<;>simp[bz,h']
 have hX:Sp.stepX im K.inp T K.cells x d.fm (ds.map Fd.fm).reverse s=match eP x.op.toNat m n [] s with
  | .bad e o=> .bad e o
  | .ok v _ s=> .go ⟨d.fm.on (dC d.zx++ [v])::(ds.map Fd.fm).reverse,s⟩:=by
  unfold Sp.stepX;rw[if_neg (by omega),if_neg (by omega),if_neg (by omega),if_neg (by omega),if_neg (by omega),if_neg (by omega),if_neg (by omega),if_neg (by omega),if_neg (by omega),if_neg (by omega),if_neg (by omega),if_neg (by omega),if_neg (by omega),if_neg (by omega),if_neg (by omega),if_neg (by omega),hm,hn]
  rfl
 have ht:lu (bz im x) d.zx:=by rw[hw];exact CM (by omega) (by rw[a0];rfl) (by rw[a1];rfl)
 refine h.step ht _ (Or.inr (Or.inr (Or.inr (Or.inr ⟨by omega,λY hY=> ?_⟩))))
 by_cases h47:x.op.toNat=47
 .refine(EC (h.dm.new hY) (by omega) (by omega) a0 a1 m1 m2 n1 n2 h47).mono ?_;rintro en w' ⟨e,⟨h0,hP⟩ | ⟨h0,hP⟩⟩
  .exact⟨e,_,_,_,_,_,by omega,by omega,hP,Or.inr ⟨7,rfl,by rw[hX,h47,h0];simp[eP]⟩⟩
  .exact⟨e,_,_,_,_,_,by omega,by omega,hP,Or.inl ⟨rfl,by rw[hX,h47];simp[eP,h0,h.on]⟩⟩
 .refine(EB (h.dm.new hY) (by omega) (by omega) a0 a1 m1 m2 n1 n2 (by omega)).mono ?_;rintro en w' ⟨e,hP⟩;exact⟨e,_,_,_,_,_,by omega,by omega,hP,Or.inl ⟨rfl,by rw[hX];simp[eP,h47,h.on]⟩⟩
theorem ES (h:DAt K w0 w im T hv g cap fo s ds d b x st l) (ho:x.op.toNat=101):h.Goal:=by
 have hs:=h.sml;obtain⟨st',l',he⟩:=h.eff;obtain⟨k,hk,_,_⟩:=ie (by omega) (by omega) he;obtain⟨_,q1,q3,q2⟩:=pM (by rw[ho]at hk;exact hk);have hl:d.zx.length=st.length:=h.top.zx.len;have hu:qn im s (fk d.zx):=lK h.mt.ht ((h.top.zx.t2 q1).toRef q2) q2;have hv:qn im s (bE d.zx):=lK h.mt.ht ((h.top.zx.t1 (by omega)).toRef q3) q3;refine h.step (by rw[show bz im x=[111,111]from by simp[bz,ho]];exact CM (by omega) (by rw[vm hu];rfl) (by rw[vm hv];rfl)) _ (Or.inr (Or.inr (Or.inr (Or.inr ⟨by omega,λY hY=>(EA (h.dm.new hY) (by omega) (by omega) ho).mono ?_⟩))));rintro en w' ⟨e,hP⟩;exact⟨e,_,_,_,_,_,by omega,by omega,hP,Or.inl ⟨rfl,by rw[<-h.on];simp[Sp.stepX,ho];rfl⟩⟩
theorem ET (h:DAt K w0 w im T hv g cap fo s ds d b x st l) (ho:x.op.toNat=120):h.Goal:=by
 have hs:=h.sml;obtain⟨st',l',he⟩:=h.eff;obtain⟨k,hk,_,_⟩:=ie (by omega) (by omega) he;obtain⟨_,q1,q2⟩:=gQ (by omega) hk;have q2:=q2 ho;have hl:d.zx.length=st.length:=h.top.zx.len;have hv:qn im s (bE d.zx):=lK h.mt.ht ((h.top.zx.t1 q1).toRef q2) q2;refine h.step (by rw[show bz im x=[111]from by simp[bz,ho]];exact CL (by omega) (by rw[vm hv];rfl)) _ (Or.inr (Or.inr (Or.inr (Or.inl ⟨by omega,λY hY=>(EE (h.dm.new hY) (by omega) (by omega) h.img h.fit.wf.cls hv h.hh ho).mono ?_⟩))));rintro en w' ⟨e,hP⟩;refine⟨e,_,_,_,_,_,by omega,by omega,hP,?_⟩;have ef:bE d.fm.zx=bE d.zx:=rfl
 have eg:Sp.stepX im K.inp T K.cells x d.fm (ds.map Fd.fm).reverse s=if ofV im s (bE d.zx) x.a=true then .go ⟨d.fm.on d.zx::(ds.map Fd.fm).reverse,s⟩else .bad 8 s.out:=by
  obtain hz| ⟨k,ob,hz,_⟩:=hv
  .simp[Sp.stepX,ho,ef,hz,ofV];rfl
  .simp[Sp.stepX,ho,ef,hz,ofV];rfl
 rw[eg]
 by_cases hb:ofV im s (bE d.zx) x.a=true
 .rw[if_pos hb,if_pos hb];exact Or.inl ⟨rfl,by rw[h.on]⟩
 .rw[if_neg hb,if_neg hb];exact Or.inr ⟨8,rfl,rfl⟩
theorem EU (h:DAt K w0 w im T hv g cap fo s ds d b x st l) (ho:x.op.toNat=103):h.Goal:=by
 have hs:=h.sml;obtain⟨st',l',he⟩:=h.eff;obtain⟨hf,_,_⟩:=bU (by omega) (by omega) he;simp[bQ,arith,ho]at hf;obtain⟨f1,f2⟩:=fS hf;have hl:d.zx.length=st.length:=h.top.zx.len;have a2:=h.wx.cls (by omega);have a3:=h.fit.wf.nc;obtain⟨a0,a1⟩:=fI (a:=x.a) (by omega);have hv:=((h.top.zx.t1 f1).sub h.fit.wf.cls h.fit.wf.nc h.mt.ht f2).toRef (cC a0);have hR:qn im s (bE d.zx):=lK h.mt.ht hv (cC a0);refine h.step (by rw[show bz im x=[111]from by simp[bz,ho]];exact CL (by omega) (by rw[vm hR];rfl)) _ (Or.inr (Or.inr (Or.inr (Or.inl ⟨by omega,λY hY=> ?_⟩))));obtain e| ⟨k,ob,e,hk,_,hu⟩:=hv.ref (cC a0)
 .refine(DS (h.dm.new hY) (by omega) (by omega) e ho).mono ?_;rintro en w' ⟨e',hP⟩;exact⟨e',_,_,_,_,_,by omega,by omega,hP,Or.inr ⟨6,rfl,by simp[Sp.stepX,ho,e]⟩⟩
 .rw[a1]at hu;obtain⟨g1,g2⟩:=lI h.fit h.mt.ht a2 (h.wx.fld (by omega)) hk hu;refine(DT (h.dm.new hY) (by omega) (by omega) h.img h.fit.wf.cls e hk (h.mt.ht.cls k ob hk) hu g1 h.hh ho).mono ?_;rintro en w' ⟨e',hP⟩;exact⟨e',_,_,_,_,_,by omega,by omega,hP,Or.inl ⟨rfl,by rw[<-h.on];simp[Sp.stepX,ho,e,(Ev.at hk).2];rfl⟩⟩
theorem EV (h:DAt K w0 w im T hv g cap fo s ds d b x st l) (ho:x.op.toNat=112):h.Goal:=by
 have hs:=h.sml;obtain⟨st',l',he⟩:=h.eff;obtain⟨hf,_,_⟩:=bU (by omega) (by omega) he;simp[bQ,arith,ho]at hf;obtain⟨f1,f2,f3⟩:=iH hf;have hl:d.zx.length=st.length:=h.top.zx.len;have a2:=h.wx.cls (by omega);have a4:=h.wx.fld (by omega);have a5:=h.fit.wf.nc;obtain⟨a0,a3⟩:=fI (a:=x.a) (by omega);have hv:=((h.top.zx.t2 f1).sub h.fit.wf.cls h.fit.wf.nc h.mt.ht f2).toRef (cC a0);have hR:qn im s (fk d.zx):=lK h.mt.ht hv (cC a0);have a7:=(h.top.zx.t1 (by omega)).sub h.fit.wf.cls h.fit.wf.nc h.mt.ht f3;have a6:=nS h.fit.wf a2 a4
 have a1:lu (bz im x) d.zx:=by
  rw[show bz im x=if(cO im.zz x.a x.b).toNat=105 then [111,105]else [111,111]from by simp[bz,ho]];exact EQ (by omega) a5 hR a7 a6
 refine h.step a1 _ (Or.inr (Or.inr (Or.inr (Or.inl ⟨by omega,λY hY=> ?_⟩))));obtain e| ⟨k,ob,e,hk,_,hu⟩:=hv.ref (cC a0)
 .refine(DU (h.dm.new hY) (by omega) (by omega) e ho).mono ?_;rintro en w' ⟨e',hP⟩;exact⟨e',_,_,_,_,_,by omega,by omega,hP,Or.inr ⟨6,rfl,by simp[Sp.stepX,ho,e]⟩⟩
 .rw[a3]at hu;obtain⟨g1,g2⟩:=lI h.fit h.mt.ht a2 (h.wx.fld (by omega)) hk hu;refine(DV (h.dm.new hY) (by omega) (by omega) h.img h.fit.wf.cls e hk (h.mt.ht.cls k ob hk) hu g1 h.hh ho).mono ?_;rintro en w' ⟨e',hP⟩;exact⟨e',_,_,_,_,_,by omega,by omega,hP,Or.inl ⟨rfl,by rw[<-h.on];simp[Sp.stepX,ho,e];exact⟨rfl,rfl⟩⟩⟩
theorem EW (h:DAt K w0 w im T hv g cap fo s ds d b x st l) (hfin:ds=[]-> ∃n,bE d.zx= .i n) (ho:x.op.toNat=116):h.Goal:=by
 have hs:=h.sml;obtain⟨st',l',he⟩:=h.eff;obtain⟨hf,_,_⟩:=bU (by omega) (by omega) he;simp[bQ,arith,ho]at hf;have f1:1<=st.length:=by split at hf<;>exact(fS hf).1
 have hl:d.zx.length=st.length:=h.top.zx.len;refine h.step (by rw[show bz im x=[]from by simp[bz,ho]];exact sQ) _ (Or.inr (Or.inl ⟨ho,λY hY=> ?_⟩))
 have hds:ds=[]\/ ∃es c,ds=es++ [c]:=by
  obtain h| ⟨es,c,h⟩:=List.eq_nil_or_concat ds
  .exact Or.inl h
  .exact Or.inr ⟨es,c,by rw[h,List.concat_eq_append]⟩
 obtain rfl| ⟨es,c,rfl⟩:=hds
 .obtain⟨n,hn⟩:=hfin rfl;refine(CK (h.dm.new hY) h.cp (by omega) (by omega) hn).mono ?_;rintro en w' ⟨e,hv',fv',fo',hM⟩;refine⟨e,?_⟩;rw[show Sp.stepX im K.inp T K.cells x d.fm (([]:List Fd).map Fd.fm).reverse s= .fin (.i n) s.out from by simp[Sp.stepX,ho,show bE d.fm.zx= .i n from hn]];exact⟨_,_,_,_,rfl,hM⟩
 .have hm:=xF h.fit h.mt;have hc:c.fm∈d.fm::((es++ [c]).map Fd.fm).reverse:=by simp
  have a0:=(hm.1 _ hc).2.1;have a4:c.pc.toNat<=100:=hm.2 _ hc;have a1:=h.pcs c (by simp);have a3:=h.dm.new hY;have a2:=h.cp;rw[aZ,dM]at*;refine(DX a3 a2 (by omega) (by omega) (Nat.le_trans a0 (by omega)) (by omega) ⟨a1,by omega⟩).mono ?_;rintro en w' ⟨e,fv',sv',lv',hM⟩;refine⟨e,?_⟩;have e1:Sp.stepX im K.inp T K.cells x d.fm ((es++ [c]).map Fd.fm).reverse s= .go ⟨c.fm.on (c.zx++ [bE d.zx])::(es.map Fd.fm).reverse,s⟩:=by simp[Sp.stepX,ho];rfl
  rw[e1];refine⟨_,_,_,es,_,hM,?_,λd' hd'=> ?_⟩
  .simp only[Fm.on,Fd.fm,List.cons.injEq,Fm.mk.injEq,true_and,and_true];omega
  .obtain hd'|hd':=List.mem_append.1 hd'
   .exact h.pcs d' (by simp[hd'])
   .rw[List.mem_singleton]at hd';subst hd';simp only;omega
theorem EX (h:DAt K w0 w im T hv g cap fo s ds d b x st l) (ho:x.op.toNat=99):h.Goal:=by
 have hs:=h.sml;obtain⟨st',l',he⟩:=h.eff;obtain⟨hf,_,_⟩:=bU (by omega) (by omega) he;simp[bQ,arith,ho]at hf;obtain⟨f1,f2,f3⟩:=iH hf;have hl:d.zx.length=st.length:=h.top.zx.len;have b1:=h.wx.cls (by omega);have a6:=h.wx.sig ho;have b2:=h.fit.wf.nc;have b0:b∈im.zq:=bp h.top.bd;have b6:x∈b.code:=bp h.top.ins;obtain⟨a0,a8⟩:=fI (a:=x.a) (by omega);have hv:=((h.top.zx.t2 f1).sub h.fit.wf.cls h.fit.wf.nc h.mt.ht f2).toRef (cC a0);have hR:qn im s (fk d.zx):=lK h.mt.ht hv (cC a0);have a5:=(h.top.zx.t1 (by omega)).sub h.fit.wf.cls h.fit.wf.nc h.mt.ht f3;have a4:=(xt h.fit.wf a6).1
 have a1:lu (bz im x) d.zx:=by
  rw[show bz im x=if(gY im.zj x.b).toNat=105 then [111,105]else [111,111]from by simp[bz,ho]];exact EQ (by omega) b2 hR a5 a4
 refine h.step a1 _ (Or.inl ⟨ho,λY hY=> ?_⟩);obtain e| ⟨k,ob,e,hk,_,hu⟩:=hv.ref (cC a0)
 .refine(CI (h.dm.new hY) (by omega) (by omega) e).mono ?_;rintro en w' ⟨e',hP⟩;refine⟨e',?_⟩;rw[show Sp.stepX im K.inp T K.cells x d.fm (ds.map Fd.fm).reverse s= .bad 6 s.out from by simp[Sp.stepX,ho,e]];exact hP
 .rw[a8]at hu;have b3:=h.mt.ht.cls k ob hk;have b5:=a5.not45 (jr a4);have a3:=h.fit.lk b b0 x b6 ho;obtain⟨c1,c2,c3,c4,c5⟩:=xq h.fit h.mt.ht hk b1 a6 hu a3 b5;have b9:=li (bs:=im.zq) (m:=x.b) h.fit.wf.cls 4 (x:=ob.cls) (y:=x.a) (by omega) (by omega) hu a3;have a2:s.cls k=ob.cls:=(Ev.at hk).1;rw[a2]at c1;obtain⟨q,hq⟩: ∃q:Nat,cY im.zz im.zq x.b 5 ob.cls=q:=⟨(cY im.zz im.zq x.b 5 ob.cls).toNat,by omega⟩;have a7:im.zq[q]?=some (ck im x k s):=by rw[hq]at c1;exact c1
  obtain⟨tl,b4⟩:=h.fit.lc _ c2 c4;refine(CJ (h.dm.new hY) (by omega) (by omega) h.img h.fit.wf e hk b3 hu h.hh (by omega) hq a7 (by rw[b4];simp)).mono ?_
  have e1:Sp.stepX im K.inp T K.cells x d.fm (ds.map Fd.fm).reverse s=if 12<=ds.length+1 then .bad 10 s.out else .go ⟨⟨q,0,[],bn (ck im x k s) [.o k,bE d.zx]⟩::{d.fm with zx:=dC d.zx}::(ds.map Fd.fm).reverse,s⟩:=by
   simp only[Sp.stepX,ho,e,a2,hq];simp
   rfl
  rw[e1];rintro en w' ⟨e',⟨hd,hP⟩ | ⟨hd,hv',fv',fo',sv',lv',vl,hM⟩⟩
  .rw[if_pos hd];exact⟨e',hP⟩
  .rw[if_neg hd];refine⟨e',_,_,_,_,_,hM,by simp[Fd.fm],λd' hd'=> ?_⟩;simp only[List.mem_append,List.mem_singleton]at hd';obtain(hd'|rfl) |rfl:=hd'
   .exact h.pcs d' (List.mem_append_left _ hd')
   .exact hs.2.2.2
   .exact Int.le_refl 0
end
end
section
open Go Go.RowKit Sp
attribute [local go_sem ↓] dG dH
theorem zJ {K:Dk} {w0 w:World} (hB:B_ w0 w) (hm:DmB w K.mb K.bi K.tv S_ S_ K.inp 0 K.cells [] 0 12) (hg:w0.heap.size<=K.mb):DmQ K w0 w 0 12 S_ S_ [] ⟨[],0,0,[]⟩ []:=by
 have hr: ∀a p,cU [] [] [] a≠some p:=λa p h=>by
  obtain⟨a,k⟩:=a
  match a with
  |0=>simp[cU]at h
  |1=>simp[cU]at h
  |2=>simp[cU]at h
  |_+3=>simp[cU]at h
 exact⟨hB,hm,rfl,df _ _ _ _,df _ _ _ _,⟨λa v l h=>absurd h (hr a _),λa b v l v' l' g h=>absurd h (hr a _)⟩,hg⟩
end
end Go.Proofs.YtpfkkmacakjmbaaGreatDoor
