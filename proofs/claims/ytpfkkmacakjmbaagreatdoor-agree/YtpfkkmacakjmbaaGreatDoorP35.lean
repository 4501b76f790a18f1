import Derived.Test.YtpfkkmacakjmbaaGreatDoorP34
set_option maxRecDepth 100000
set_option maxHeartbeats 6400000
set_option linter.all false
namespace Go.Proofs.YtpfkkmacakjmbaaGreatDoor
open Proofs.Tryz
section
open Go Go.RowKit Sp
attribute [local go_sem ↓] eF eG
theorem yf {x k:Nat} (h:x≠k):((x:Int)==(k:Int))=false:=by rw[fh];omega
theorem NB.drewM {w X:World} (h:NB w X):NB w X.drew:=⟨h.but.trans (aD _ _),λk a b=>h.nb k a b⟩
def F1 (rr:R) (u:V) (e:Int) (s':Ev):Prop:=match rr with
 | .ok v _ t=>u=v/\e=0/\s'=t
 | .bad n o=>u= .z/\e=cr n/\s'.out=o
theorem ReW.outs {P:Nat->Prop} {w0 w w':World} {bw tx:Nat} {inp:ByteArray} {cn:Int} {rr:R} {en:Ending} (h:ReW P w0 w bw tx inp cn rr en w'): ∃u e s' vo vb gs fv sn,en= .returned (.tuple #[aI u,.int .i64 e])/\But (FrQ P w0) w w'/\WdQ P w0 w' bw tx inp s' vo vb gs fv cn sn/\F1 rr u e s':=by
 obtain⟨a,vo,vb,gs,fv,sn,h⟩:=h
 cases rr with
 |ok u l t=>exact⟨u,0,t,vo,vb,gs,fv,sn,h.1,a,h.2,rfl,rfl,rfl⟩
 |bad n o=>
  obtain⟨b,s',c,d⟩:=h;exact⟨.z,cr n,s',vo,vb,gs,fv,sn,b,a,d,rfl,rfl,c⟩
def yS (w0:World) (im:Img) (T:cG) (mb tx:Nat) (tv:Value) (bw cells:Nat) (ans:Int) (inp:ByteArray) (rs:List Fr) (f:Fm) (fs:List Fm) (cn:Int) (rr:R) (psh:Bool) (en:Ending) (w':World):Prop:=
 ∃u e s' vo vb gs fv sn r',F1 rr u e s'/\en= .returned (.int .i64 e)/\McQ w0 w' im T mb tx tv bw cells ans inp (r'::rs) ({f with pc:=f.pc+1,zv:=if psh then f.zv++ [u]else f.zv}::fs) s' vo vb gs fv cn sn
section
variable {w0 w w':World} {im:Img} {T:cG} {mb tx:Nat} {tv:Value} {bw cells:Nat} {ans:Int} {inp:ByteArray} {r:Fr} {rs:List Fr} {f:Fm} {fs:List Fm} {s:Ev} {vo vb:Value} {gs:List Nat} {fv:List Value} {cn:Int} {sn:Nat->Int}
theorem McQ.did {X w1 W2:World} {rb:Nat} {s':Ev} {vo' vb':Value} {gs':List Nat} {fv':List Value} {sn':Nat->Int} (h:McQ w0 w im T mb tx tv bw cells ans inp rs fs s vo vb gs fv cn sn) (hN:B_ w X) (hB:But (FrQ (PQ (kB mb rs) w X) w0) X w1) (hW:WdQ (PQ (kB mb rs) w X) w0 w1 bw tx inp s' vo' vb' gs' fv' cn sn') (hr:w.heap.size<=rb) (hr2:rb<X.heap.size) (hB3:But (· =rb) w1 W2) (ht: ∀c fz,W2.heap[rb]?≠some (.cells c 5 fz)):McQ w0 W2 im T mb tx tv bw cells ans inp rs fs s' vo' vb' gs' fv' cn sn':=by
 have f:=h.wd.old.size;have a: ∀k,kB mb rs k->k<w.heap.size:=λk hk=>(h.wd.pl k hk).1
 have d:But (λk=>FrQ (PQ (kB mb rs) w X) w0 k\/k=rb) X W2:=(hB.mono (λ_ _ h=>Or.inl h)).trans (hB3.mono (λ_ _ h=>Or.inr h));have b:=hW.tmp hB3 (λk e=>⟨Or.inr ⟨by have e:k=rb:=e;omega,by have e:k=rb:=e;omega⟩,by have e:k=rb:=e;omega⟩) (λk e c fz=>by have e:k=rb:=e;rw[e];exact ht c fz);refine(h.new hN).turn d (λk hk ho=> ?_) (b.less (λk hk=>Or.inl hk));obtain hk|hk:=hk
 .exact hk.2 (Or.inl ho)
 .have:=a k ho;omega
theorem E5 (psh:Bool) (h:McQ w0 w im T mb tx tv bw cells ans inp (r::rs) (f::fs) s vo vb gs fv cn sn) (hT:d9 w0 tx im) (hcl:(im.zq.map toX).length<=100) (hsg:im.zx.length<=100) (h4:f.zv.length<=4000) (hpc:f.pc<=1000) (x:XIt) (u1 u2:V) (hx1:x.op.toNat≠108) (hx2:x.op.toNat≠115) (hx3:x.op.toNat≠110) (hly:match psh with|true=>(aH (im.zq.map toX) im.zx x.op x.cls x.num (aR im.zx r.b).zy).toNat≠0|false=>(aH (im.zq.map toX) im.zx x.op x.cls x.num (aR im.zx r.b).zy).toNat=0) (rr:R)
  (hD: ∀X,NB w X->Calls prog 197 #[.pointer (some ⟨bw,0,none⟩),cR x,aI u1,aI u2] X (ReW (PQ (kB mb (r::rs)) w X) w0 X bw tx inp cn rr)):
  Calls prog 145 #[.pointer (some ⟨mb,0,none⟩),.pointer (some ⟨r.fb,0,none⟩),cR x,aI u1,aI u2] w (yS w0 im T mb tx tv bw cells ans inp rs f fs cn rr psh):=by
 obtain⟨al,capl,Q⟩:=aA h.fr.1.bt;have e7:BtB w0 0 (.slice al (aR im.zx r.b).zy.length capl) (aR im.zx r.b).zy:=Q▸h.fr.1.bt;have b6:=hid (λ(Y:World) (hY:B_ w0 Y)=>ik tx (im.zq.map toX) im.zx x.place x.num x.op x.cls al capl (aR im.zx r.b).zy Y (ap:=x.pa) (np:=x.pn) (cp:=x.pc) hcl hsg (hT.cls.but hY) (hT.met.but hY) (e7.but hY (λ_ _ h=>h)));obtain⟨LY,e8⟩: ∃LY,aH (im.zq.map toX) im.zx x.op x.cls x.num (aR im.zx r.b).zy=LY:=⟨_,rfl⟩;rw[e8]at b6 hly;have f7:=hid Q;clear e7 e8 Q;have HP:=hid (psW w x u1 u2);have t1:((x.op.toNat:Int)==108)=false:=yf (k:=108) hx1;have t2:((x.op.toNat:Int)==115)=false:=yf (k:=115) hx2
 have t3:((x.op.toNat:Int)==110)=false:=yf (k:=110) hx3;have HD:=hid hD;unfold cR aI at HD;have k2:=h.mc.c2;have M:=h.mc.lt;have HM:=hid h;clear h hD hx1 hx2 hx3;simp only[cR,aI]
 go_in
 go_wp2_with fail;revert HP;generalize (((w.alloc (.cells #[.int .i64 x.place,.int .u8 x.op.toNat,.int .u8 x.cls.toNat,.int .i64 x.num,.slice x.pa x.pn x.pc] 219)).alloc (.cells #[.int .i32 (xN u1),.int .i64 (xO u1)] 168)).alloc (.cells #[.int .i32 (xN u2),.int .i64 (xO u2)] 168))=W0;intro HP;obtain⟨rb,O⟩: ∃rb,rb=w.heap.size+1+1+1:=⟨_,rfl⟩;have hP:=HP.out;have hA:=ag (λ_=>False) W0 (.cells #[.int .i32 0,.int .i64 0] 168);have q:NB w (W0.alloc (.cells #[.int .i32 0,.int .i64 0] 168)):=hP.nb.alloc (by decide);have D:=(hA.block w.heap.size (ae hP.b0) nF).trans hP.b0;have b4:=hP.b1.but hA nF;have b5:=hP.b2.but hA nF
 have J:dB (W0.alloc (.cells #[.int .i32 0,.int .i64 0] 168)) rb .z:=aw (by rw[hP.sz,O]) _;rw[<-O];clear hA;revert q D b4 b5 J;generalize (W0.alloc (.cells #[.int .i32 0,.int .i64 0] 168))=W1;intro q D b4 b5 J;clear hP HP;have g4:w.heap.size+1<=rb:=by omega
 have f6:Hid (r.sv.ownBlock≠some rb):=λe=>by have:=bB HM.out.fr.1.st _ e;omega
 clear O;replace k2:=(q.but.cell (p:=⟨mb,2,none⟩) M nF).trans k2;replace M:=aP M q.but.size;obtain⟨i0,i1,i2,i3,i4⟩:=bI D;obtain⟨a0,a1,_,_,e0⟩:=b4.parts;obtain⟨b0,b1,_,_,e1⟩:=b5.parts;have m:=ae D;have i:B_ W1 W1.drew:=aD _ _;refine aF (B_ W1) 7 ?_
 iterate 7 (refine eT (v:=?_) rfl i ?_ ?_;rotate_left;(focus (intro wS h;have q0:=((h.cell (p:=⟨mb,2,none⟩) M nF).trans k2);have q1:=((h.cell (p:=⟨w.heap.size,0,none⟩) m nF).trans i0);have q2:=((h.cell (p:=⟨w.heap.size,1,none⟩) m nF).trans i1);have q3:=((h.cell (p:=⟨w.heap.size,2,none⟩) m nF).trans i2);have q4:=((h.cell (p:=⟨w.heap.size,3,none⟩) m nF).trans i3);have q5:=((h.cell (p:=⟨w.heap.size,4,none⟩) m nF).trans i4);have q6:=((h.cell (p:=⟨w.heap.size+1,0,none⟩) e0 nF).trans a0);have q7:=((h.cell (p:=⟨w.heap.size+1,1,none⟩) e0 nF).trans a1);have q8:=((h.cell (p:=⟨w.heap.size+1+1,0,none⟩) e1 nF).trans b0);have q9:=((h.cell (p:=⟨w.heap.size+1+1,1,none⟩) e1 nF).trans b1);clear h;go_simp;try rfl));dsimp only[Act.put];try simp only[bW])
 clear k2 i0 i1 i2 i3 i4 a0 a1 b0 b1 e0 e1 b4 b5;refine au rfl ?_;intro KS hKS;go_simp;refine(HD.out _ q.drewM).mono ?_;intro en w1 f0;obtain⟨u,e,s',vo',vb',gs',fv',sn',rfl,a8,e9,hR⟩:=f0.outs;clear f0;simp only[aI];refine hKS.out _ _ nofun ?_;clear hKS KS
 iterate 3 (refine jf (v:=?_) rfl ?_ ?_;rotate_left;(focus (intro wS;go_simp;try rfl));dsimp only[Act.put];try simp only[bW])
 have P:=ae J;have a6: ¬FrQ (PQ (kB mb (r::rs)) w W1.drew) w0 rb:=λhh=>hh.2 (Or.inr ⟨by omega,P⟩)
 have a5: ¬FrQ (PQ (kB mb (r::rs)) w W1.drew) w0 w.heap.size:=λhh=>hh.2 (Or.inr ⟨by omega,m⟩)
 have c6:=(J.but i nF).but a8 a6;have b8:=(a8.block w.heap.size m a5).trans D;obtain⟨v0,v1,z0,z1,Q⟩:=c6.parts;simp only[xN,xO]at v0 v1;refine au rfl ?_;intro KS hKS;go_simp;refine hKS.out _ _ nofun ?_;clear hKS KS;refine au rfl ?_;intro KS hKS;go_simp;refine hKS.out _ _ nofun ?_;clear hKS KS;refine aK rfl ?_;have d:But (· =rb) w1 ((w1.setCell ⟨rb,0,none⟩ (.int .i32 (xN u))).setCell ⟨rb,1,none⟩ (.int .i64 (xO u))):=(aq _ _ _ _).trans (aq _ _ _ _);have d6:=c6.put u;have l:=hid (HM.out.did q.drewM.but a8 e9 (by omega) P d (λc fz e'=>bL d6 e' (by decide) rfl));have F:=hid ((d.block w.heap.size (ae b8) (by show¬w.heap.size=rb;omega)).trans b8)
 have S:=hid d6;have HR:=hid hR;clear v0 v1 z0 z1 Q c6 d6 b8 d a8 i m J D q HD HM M a6 a5 e9 hR P;revert l F S;generalize ((w1.setCell ⟨rb,0,none⟩ (.int .i32 (xN u))).setCell ⟨rb,1,none⟩ (.int .i64 (xO u)))=W2;intro l F S;have m0:=l.out.mc.c0;have c5:=l.out.fr.1.fr.body.2.2.2.1;rw[f7.out]at c5;have a4:=l.out.mc.lt;have a3:=l.out.fr.1.fr.lt;have j:=ae F.out;obtain⟨f1,f2,f3,f4,f5⟩:=bI F.out;generalize (aR im.zx r.b).zy.length=nL at*;go_wp2_with fail;have i:B_ W2 W2.drew:=aD _ _;refine aF (B_ W2) 12 ?_
 iterate 10 (refine aN (v:=?_) rfl i ?_ ?_;rotate_left;(focus (intro wS h;have q0:=((h.cell (p:=⟨mb,0,none⟩) a4 nF).trans m0);have q1:=((h.cell (p:=⟨r.fb,5,none⟩) a3 nF).trans c5);have q2:=((h.cell (p:=⟨w.heap.size,0,none⟩) j nF).trans f1);have q3:=((h.cell (p:=⟨w.heap.size,1,none⟩) j nF).trans f2);have q4:=((h.cell (p:=⟨w.heap.size,2,none⟩) j nF).trans f3);have q5:=((h.cell (p:=⟨w.heap.size,3,none⟩) j nF).trans f4);have q6:=((h.cell (p:=⟨w.heap.size,4,none⟩) j nF).trans f5);clear h;go_simp;try rfl));dsimp only[Act.put];try simp only[bW])
 clear m0 c5 f1 f2 f3 f4 f5;refine au rfl ?_;intro KS hKS;go_simp;refine(b6.out _ (l.out.wd.old.trans i)).mono ?_;rintro en w3 ⟨rfl,d⟩;have I:=i.trans d;refine hKS.out _ _ (λ_=>I) ?_;clear hKS KS;refine au rfl ?_;intro KS hKS;go_simp;refine hKS.out _ _ (λ_=>I) ?_;clear hKS KS;refine aK rfl ?_;have a:=hid (l.out.new I);have e5:=hid (S.out.but I nF);clear l S F b6 I i d a4 a3 j
 cases psh
 .dsimp only at hly;have g2:(LY.toNat:Int)=0:=by omega
  have c8:=a.out.fr.1.fr.c8;have z8:=a.out.fr.1.fr.fz 8;have C:=a.out.fr.1.fr.lt;have g6:=dV ((f.pc:Int)+1) (by omega) (by omega);go_wp2_with fail;have H:=a.out.pushed (sv':=r.sv) (stk':=f.zv) ((aq _ _ _ _).mono (λ_ _ h=>Or.inl h)) (a.out.fr.1.fr.set8 (f.pc+1)) (ah a.out.fr.1.st (aq _ _ _ _) (λg hg e=>aE a.out.fr.1.st a.out.fr.1.fr (by decide) (e▸hg))) (Or.inl rfl);exact cV (.int .i64 e) results145 rfl rfl ⟨u,e,s',vo',vb',gs',fv',sn',_,HR.out,rfl,H⟩
 .dsimp only at hly;have g2:(LY.toNat:Int)≠0:=by omega
  obtain⟨i0,g1,g7,h0,h1⟩:=info_parts jr;obtain⟨a2,A,e2⟩:=aA a.out.fr.1.st;have b9:=a.out.fr.1.st;have Z:=a.out.fr.1.fr.c10;have e6:=a.out.fr.1.fr.fz 10;have ac:r.sv.ownBlock≠some r.fb:=λe=>aE a.out.fr.1.st a.out.fr.1.fr (by decide) e
  rw[e2]at b9 Z ac;have b7:=hid e2;clear e2;have C:=a.out.fr.1.fr.lt;obtain⟨v0,v1,_,_,a7⟩:=e5.out.parts;have g5:=g4;have av:(Value.slice a2 f.zv.length A).ownBlock≠some rb:=λe=>f6.out (b7.out▸e)
  have h2:w0.heap.size<=w3.heap.size:=a.out.wd.old.size;go_wp2_with fail;have i:But (λk=>(Value.slice a2 f.zv.length A).ownBlock=some k) w3 w3.drew:=aD _ _;refine aF (But (λk=>(Value.slice a2 f.zv.length A).ownBlock=some k) w3) 8 ?_
  iterate 6 (refine aN (v:=?_) rfl i ?_ ?_;rotate_left;(focus (intro wS h;have q0:=((h.cell (p:=⟨r.fb,10,none⟩) C ac).trans Z);have q1:=((h.cell (p:=⟨rb,0,none⟩) a7 av).trans v0);have q2:=((h.cell (p:=⟨rb,1,none⟩) a7 av).trans v1);clear h;go_simp;try rfl));dsimp only[Act.put];try simp only[bW])
  refine au rfl ?_;intro KS hKS;go_simp;refine hKS.out _ _ (λ_=>(ag _ _ _).trans (aD _ _)) ?_;clear hKS KS;refine au rfl ?_;intro KS hKS
  refine step_append_lies _ (by rfl) _ _ _ (by rfl) w0.heap.size 168 i0 _ 2 16 (by kernel_rfl) g1 g7 h0 h1 rfl (by omega) _ f.zv.length (az f.zv) (by rfl) ((b9.alloc _).drew)
     ⟨w3.heap.size,0,none⟩ 1 1 [.int .i32 (xN u),.int .i64 (xO u)] (by rfl) (by rfl) (iO (cs:=#[.int .i32 (xN u),.int .i64 (xO u)]) (t:=168) (fr:=(0,0)) (bj w3 _)) (by simp[Value.oneCell'])
     (by omega) (by unfold maxLen;omega) (by omega) (by simp;omega) (w3.heap.size+1) (by simp) ?_
  intro gg B w4 y L f8 g3;have E:But (λk=>(Value.slice a2 f.zv.length A).ownBlock=some k) w3 w4:=((ag _ _ _).trans (aD _ _)).trans (bD L);refine hKS.out _ _ (λ_=>E) ?_;clear hKS KS;have y0:=(E.cell (p:=⟨r.fb,10,none⟩) C ac).trans Z;have y1:=(E.frozen (p:=⟨r.fb,10,none⟩) C ac).trans e6;refine au rfl ?_;intro KS hKS;go_simp;refine hKS.out _ _ nofun ?_;clear hKS KS;refine au rfl ?_;intro KS hKS;go_simp;refine hKS.out _ _ nofun ?_;clear hKS KS;refine au rfl ?_;intro KS hKS;go_simp;refine hKS.out _ _ nofun ?_;clear hKS KS;refine aK rfl ?_;have G:=a.out.fr.1.fr.but E ac;have n:=G.set10 (.slice (some ⟨gg,0,none⟩) (f.zv.length+1) B)
  have b3:=ah y (aq w4 r.fb 10 (.slice (some ⟨gg,0,none⟩) (f.zv.length+1) B)) (λg hg e=>aE y G (by decide) (e▸hg));have d:But (λk=>k=r.fb\/r.sv.ownBlock=some k) w3 (w4.setCell ⟨r.fb,10,none⟩ (.slice (some ⟨gg,0,none⟩) (f.zv.length+1) B)):=(E.mono (λk _ h=>Or.inr (by rw[b7.out];exact h))).trans ((aq _ _ _ _).mono (λ_ _ h=>Or.inl h));clear y0 y1 y L E G b9 Z e6 v0 v1 e5;revert n b3 d;generalize (w4.setCell ⟨r.fb,10,none⟩ (.slice (some ⟨gg,0,none⟩) (f.zv.length+1) B))=W3;intro n b3 d;have c8:=n.c8;have z8:=n.fz 8;have e3:=hid n;have e4:=hid b3;have g6:=dV ((f.pc:Int)+1) (by omega) (by omega)
  have g0:=n.lt;clear n b3;go_wp2_with fail;have H:=a.out.pushed (stk':=f.zv++ [u]) (d.trans ((aq _ _ _ _).mono (λ_ _ h=>Or.inl h))) (e3.out.set8 (f.pc+1)) (by rw[fq,aV];exact ah e4.out (aq _ _ _ _) (λg hg e=>aE e4.out e3.out (by decide) (e▸hg))) (f8.imp (λh=>by rw[b7.out];exact h.symm) (λh=>⟨gg,rfl,by omega⟩));exact cV (.int .i64 e) results145 rfl rfl ⟨u,e,s',vo',vb',gs',fv',sn',_,HR.out,rfl,H⟩
theorem McQ.didP {P':Nat->Prop} {X w1 W2:World} {rb:Nat} {s':Ev} {vo' vb':Value} {gs':List Nat} {fv':List Value} {sn':Nat->Int} (h:McQ w0 X im T mb tx tv bw cells ans inp rs fs s vo vb gs fv cn sn) (hP: ∀k,kB mb rs k->P' k) (hB:But (FrQ P' w0) X w1) (hW:WdQ P' w0 w1 bw tx inp s' vo' vb' gs' fv' cn sn') (hr:P' rb) (hr0:w0.heap.size<=rb) (hr2: ¬kB mb rs rb) (hB3:But (· =rb) w1 W2) (ht: ∀c fz,W2.heap[rb]?≠some (.cells c 5 fz)):McQ w0 W2 im T mb tx tv bw cells ans inp rs fs s' vo' vb' gs' fv' cn sn':=by
 have b:But (λk=>FrQ P' w0 k\/k=rb) X W2:=(hB.mono (λ_ _ h=>Or.inl h)).trans (hB3.mono (λ_ _ h=>Or.inr h));have a:=hW.tmp hB3 (λk e=>by have e:k=rb:=e;rw[e];exact⟨hr,hr0⟩) (λk e c fz=>by have e:k=rb:=e;rw[e];exact ht c fz);refine h.turn b (λk hk ho=> ?_) (a.less hP);obtain hk|hk:=hk
 .exact hk.2 (hP k ho)
 .exact hr2 (hk▸ho)
theorem E6 (h:McQ w0 w im T mb tx tv bw cells ans inp (r::rs) (f::fs) s vo vb gs fv cn sn) (hT:d9 w0 tx im) (hcl:(im.zq.map toX).length<=100) (hsg:im.zx.length<=100) (h4:f.zv.length<=4000) (hpc:f.pc<=1000) (x:XIt) (u1 u2:V) (hx:x.op.toNat=110) (hly:(aH (im.zq.map toX) im.zx x.op x.cls x.num (aR im.zx r.b).zy).toNat≠0) (rr:R)
  (hH: ∀Y,B_ w Y->Calls prog 195 #[.pointer (some ⟨mb,0,none⟩),.int .u8 x.cls.toNat] Y λen w'=>en= .returned (.bool true)/\But (λk=>k=bw\/k∈gs) Y w'/\ ∃sn',McQ w0 w' im T mb tx tv bw cells ans inp (r::rs) (f::fs) s vo vb gs fv (cn+1) sn')
  (hD: ∀(P':Nat->Prop) X sn',WdQ P' w0 X bw tx inp s vo vb gs fv (cn+1) sn'->Calls prog 197 #[.pointer (some ⟨bw,0,none⟩),cR x,aI u1,aI u2] X (ReW P' w0 X bw tx inp (cn+1) rr)):
  Calls prog 145 #[.pointer (some ⟨mb,0,none⟩),.pointer (some ⟨r.fb,0,none⟩),cR x,aI u1,aI u2] w (yS w0 im T mb tx tv bw cells ans inp rs f fs (cn+1) rr true):=by
 obtain⟨al,capl,Z⟩:=aA h.fr.1.bt;have g3:BtB w0 0 (.slice al (aR im.zx r.b).zy.length capl) (aR im.zx r.b).zy:=Z▸h.fr.1.bt;have b6:=hid (λ(Y:World) (hY:B_ w0 Y)=>ik tx (im.zq.map toX) im.zx x.place x.num x.op x.cls al capl (aR im.zx r.b).zy Y (ap:=x.pa) (np:=x.pn) (cp:=x.pc) hcl hsg (hT.cls.but hY) (hT.met.but hY) (g3.but hY (λ_ _ h=>h)));obtain⟨LY,g4⟩: ∃LY,aH (im.zq.map toX) im.zx x.op x.cls x.num (aR im.zx r.b).zy=LY:=⟨_,rfl⟩;rw[g4]at b6 hly;have j1:=hid Z;clear g3 g4 Z;have HP:=hid (psW w x u1 u2);have f4:(x.op.toNat:Int)=110:=by omega
 rw[f4]at HP b6;have HH:=hid hH;have g5: ∀k,qR bw vo vb gs fv k->k<w.heap.size:=λk hk=>h.wd.lt hk
 have g7: ∀k,kB mb (r::rs) k->k<w.heap.size:=λk hk=>(h.wd.pl k hk).1
 have f6:=hid g5;have i7:=hid g7;have h0:=h.wd.old.size;have HD:=hid hD;unfold cR aI at HD;rw[f4]at HD;have HM:=hid h;have f3: ∀k,r.sv.ownBlock=some k->k<w.heap.size:=λk hk=>bB h.fr.1.st k hk
 clear h hD hH g5 g7;simp only[cR,aI]
 go_in
 go_wp2_with fail;revert HP;generalize (((w.alloc (.cells #[.int .i64 x.place,.int .u8 110,.int .u8 x.cls.toNat,.int .i64 x.num,.slice x.pa x.pn x.pc] 219)).alloc (.cells #[.int .i32 (xN u1),.int .i64 (xO u1)] 168)).alloc (.cells #[.int .i32 (xN u2),.int .i64 (xO u2)] 168))=W0;intro HP;have hP:=HP.out;refine(HH.out W0 hP.but).mono ?_;rintro en Wh ⟨rfl,H,sh,g6⟩
 have f0: ∀k,w.heap.size<=k-> ¬(k=bw\/k∈gs):=λk hk e=>by
  have:=f6.out k (e.elim Or.inl (λh=>Or.inr (Or.inr (Or.inr (Or.inl h)))));omega
 have J:=(H.block w.heap.size (ae hP.b0) (f0 _ (by omega))).trans hP.b0;have a4:=hP.b1.but H (f0 _ (by omega));have a5:=hP.b2.but H (f0 _ (by omega));rw[f4]at J;have k9:w.heap.size+1+1+1<=Wh.heap.size:=by have:=H.size;have:=hP.sz;omega
 have l5:=(bI J).2.1;have f8:=hid g6;have a7:=ae J;clear hP HP HH g6 H;go_wp2_with fail;obtain⟨rb,S⟩: ∃rb,rb=Wh.heap.size:=⟨_,rfl⟩;have hA:=ag (λ_=>False) Wh (.cells #[.int .i32 0,.int .i64 0] 168);have n:=(hA.block w.heap.size a7 nF).trans J;have d6:=a4.but hA nF;have e0:=a5.but hA nF;have F:dB (Wh.alloc (.cells #[.int .i32 0,.int .i64 0] 168)) rb .z:=aw S.symm _;have q:=f8.out.new hA;rw[<-S];clear hA f8 l5 J a4 a5 a7;revert n d6 e0 F q;generalize (Wh.alloc (.cells #[.int .i32 0,.int .i64 0] 168))=W1;intro n d6 e0 F q;have j7:w.heap.size+1+1+1<=rb:=by omega
 have j0:Hid (r.sv.ownBlock≠some rb):=λe=>by have:=f3 _ e;omega
 clear S;have k2:=q.mc.c2;have h5:=q.mc.lt;have e9:B_ W1 W1.drew:=aD _ _;obtain⟨P',L⟩: ∃P':Nat->Prop,P'=λk=>kB mb (r::rs) k\/(k=w.heap.size\/k=rb):=⟨_,rfl⟩
 have h3:WdQ P' w0 W1.drew bw tx inp s vo vb gs fv (cn+1) sh:=by
  rw[L];refine(q.new e9).wd.add (λk hk=> ?_);obtain rfl|rfl:=hk
  .exact⟨_,_,_,n,by decide,λe=>absurd e (by decide),by decide,by decide,by decide⟩
  .exact⟨_,_,_,F,by decide,λ_ v hv e=>by have:=f6.out _ (Or.inr (Or.inr (Or.inr (Or.inr ⟨v,hv,e⟩))));omega,by decide,by decide,by decide⟩
 have h1: ∀k,kB mb (r::rs) k->P' k:=λk hk=>by rw[L];exact Or.inl hk
 have M:P' rb:=by rw[L];exact Or.inr (Or.inr rfl)
 have a3:P' w.heap.size:=by rw[L];exact Or.inr (Or.inl rfl)
 have f7:=hid (q.new e9);clear L q e9;obtain⟨i0,i1,i2,i3,i4⟩:=bI n;obtain⟨a0,a1,_,_,e7⟩:=d6.parts;obtain⟨b0,b1,_,_,e8⟩:=e0.parts;have y:=ae n;have i:B_ W1 W1.drew:=aD _ _;refine aF (B_ W1) 7 ?_
 iterate 7 (refine eT (v:=?_) rfl i ?_ ?_;rotate_left;(focus (intro wS h;have q0:=((h.cell (p:=⟨mb,2,none⟩) h5 nF).trans k2);have q1:=((h.cell (p:=⟨w.heap.size,0,none⟩) y nF).trans i0);have q2:=((h.cell (p:=⟨w.heap.size,1,none⟩) y nF).trans i1);have q3:=((h.cell (p:=⟨w.heap.size,2,none⟩) y nF).trans i2);have q4:=((h.cell (p:=⟨w.heap.size,3,none⟩) y nF).trans i3);have q5:=((h.cell (p:=⟨w.heap.size,4,none⟩) y nF).trans i4);have q6:=((h.cell (p:=⟨w.heap.size+1,0,none⟩) e7 nF).trans a0);have q7:=((h.cell (p:=⟨w.heap.size+1,1,none⟩) e7 nF).trans a1);have q8:=((h.cell (p:=⟨w.heap.size+1+1,0,none⟩) e8 nF).trans b0);have q9:=((h.cell (p:=⟨w.heap.size+1+1,1,none⟩) e8 nF).trans b1);clear h;go_simp;try rfl));dsimp only[Act.put];try simp only[bW])
 clear k2 i0 i1 i2 i3 i4 a0 a1 b0 b1 e7 e8 d6 e0;refine au rfl ?_;intro KS hKS;go_simp;refine(HD.out _ _ sh h3).mono ?_;intro en w1 h6;obtain⟨u,e,s',vo',vb',gs',fv',sn',rfl,b9,h2,hR⟩:=h6.outs;clear h6;simp only[aI];refine hKS.out _ _ nofun ?_;clear hKS KS
 iterate 3 (refine jf (v:=?_) rfl ?_ ?_;rotate_left;(focus (intro wS;go_simp;try rfl));dsimp only[Act.put];try simp only[bW])
 have f1:=ae F;have b4: ¬FrQ P' w0 rb:=λhh=>hh.2 M
 have b3: ¬FrQ P' w0 w.heap.size:=λhh=>hh.2 a3
 have e5:=(F.but i nF).but b9 b4;have e3:=(b9.block w.heap.size y b3).trans n;obtain⟨v0,v1,z0,z1,Z⟩:=e5.parts;simp only[xN,xO]at v0 v1;refine au rfl ?_;intro KS hKS;go_simp;refine hKS.out _ _ nofun ?_;clear hKS KS;refine au rfl ?_;intro KS hKS;go_simp;refine hKS.out _ _ nofun ?_;clear hKS KS;refine aK rfl ?_;have d:But (· =rb) w1 ((w1.setCell ⟨rb,0,none⟩ (.int .i32 (xN u))).setCell ⟨rb,1,none⟩ (.int .i64 (xO u))):=(aq _ _ _ _).trans (aq _ _ _ _);have e6:=e5.put u;have l:=hid (f7.out.didP h1 b9 h2 M (by omega) (λho=>by have:=i7.out rb ho;omega) d (λc fz e'=>bL e6 e' (by decide) rfl));have G:=hid ((d.block w.heap.size (ae e3) (by show¬w.heap.size=rb;omega)).trans e3)
 have b7:=hid e6;have HR:=hid hR;clear v0 v1 z0 z1 Z e5 e6 e3 d b9 i y F n HD HM f7 h5 b4 b3 h2 hR f1 h3 h1 M a3;revert l G b7;generalize ((w1.setCell ⟨rb,0,none⟩ (.int .i32 (xN u))).setCell ⟨rb,1,none⟩ (.int .i64 (xO u)))=W2;intro l G b7;have m0:=l.out.mc.c0;have c5:=l.out.fr.1.fr.body.2.2.2.1;rw[j1.out]at c5;have a8:=l.out.mc.lt;have a6:=l.out.fr.1.fr.lt;have j:=ae G.out;obtain⟨h7,h8,h9,i5,i6⟩:=bI G.out;generalize (aR im.zx r.b).zy.length=nL at*;go_wp2_with fail;have i:B_ W2 W2.drew:=aD _ _;refine aF (B_ W2) 12 ?_
 iterate 10 (refine aN (v:=?_) rfl i ?_ ?_;rotate_left;(focus (intro wS h;have q0:=((h.cell (p:=⟨mb,0,none⟩) a8 nF).trans m0);have q1:=((h.cell (p:=⟨r.fb,5,none⟩) a6 nF).trans c5);have q2:=((h.cell (p:=⟨w.heap.size,0,none⟩) j nF).trans h7);have q3:=((h.cell (p:=⟨w.heap.size,1,none⟩) j nF).trans h8);have q4:=((h.cell (p:=⟨w.heap.size,2,none⟩) j nF).trans h9);have q5:=((h.cell (p:=⟨w.heap.size,3,none⟩) j nF).trans i5);have q6:=((h.cell (p:=⟨w.heap.size,4,none⟩) j nF).trans i6);clear h;go_simp;try rfl));dsimp only[Act.put];try simp only[bW])
 clear m0 c5 h7 h8 h9 i5 i6;refine au rfl ?_;intro KS hKS;go_simp;refine(b6.out _ (l.out.wd.old.trans i)).mono ?_;rintro en w3 ⟨rfl,d⟩;have O:=i.trans d;refine hKS.out _ _ (λ_=>O) ?_;clear hKS KS;refine au rfl ?_;intro KS hKS;go_simp;refine hKS.out _ _ (λ_=>O) ?_;clear hKS KS;refine aK rfl ?_;have a:=hid (l.out.new O);have g1:=hid (b7.out.but O nF);clear l b7 G b6 O i d a8 a6 j;have m1:(LY.toNat:Int)≠0:=by omega
 obtain⟨i0,j4,l0,l3,l4⟩:=info_parts jr;obtain⟨a2,C,f2⟩:=aA a.out.fr.1.st;have e4:=a.out.fr.1.st;have b8:=a.out.fr.1.fr.c10;have g2:=a.out.fr.1.fr.fz 10;have ac:r.sv.ownBlock≠some r.fb:=λe=>aE a.out.fr.1.st a.out.fr.1.fr (by decide) e
 rw[f2]at e4 b8 ac;have e1:=hid f2;clear f2;have P:=a.out.fr.1.fr.lt;obtain⟨v0,v1,_,_,b5⟩:=g1.out.parts;have k0:=j7;have av:(Value.slice a2 f.zv.length C).ownBlock≠some rb:=λe=>j0.out (e1.out▸e)
 have l6:w0.heap.size<=w3.heap.size:=a.out.wd.old.size;go_wp2_with fail;have i:But (λk=>(Value.slice a2 f.zv.length C).ownBlock=some k) w3 w3.drew:=aD _ _;refine aF (But (λk=>(Value.slice a2 f.zv.length C).ownBlock=some k) w3) 8 ?_
 iterate 6 (refine aN (v:=?_) rfl i ?_ ?_;rotate_left;(focus (intro wS h;have q0:=((h.cell (p:=⟨r.fb,10,none⟩) P ac).trans b8);have q1:=((h.cell (p:=⟨rb,0,none⟩) b5 av).trans v0);have q2:=((h.cell (p:=⟨rb,1,none⟩) b5 av).trans v1);clear h;go_simp;try rfl));dsimp only[Act.put];try simp only[bW])
 refine au rfl ?_;intro KS hKS;go_simp;refine hKS.out _ _ (λ_=>(ag _ _ _).trans (aD _ _)) ?_;clear hKS KS;refine au rfl ?_;intro KS hKS
 refine step_append_lies _ (by rfl) _ _ _ (by rfl) w0.heap.size 168 i0 _ 2 16 (by kernel_rfl) j4 l0 l3 l4 rfl (by omega) _ f.zv.length (az f.zv) (by rfl) ((e4.alloc _).drew)
    ⟨w3.heap.size,0,none⟩ 1 1 [.int .i32 (xN u),.int .i64 (xO u)] (by rfl) (by rfl) (iO (cs:=#[.int .i32 (xN u),.int .i64 (xO u)]) (t:=168) (fr:=(0,0)) (bj w3 _)) (by simp[Value.oneCell'])
    (by omega) (by unfold maxLen;omega) (by omega) (by simp;omega) (w3.heap.size+1) (by simp) ?_
 intro gg D w4 B Q j2 j5;have E:But (λk=>(Value.slice a2 f.zv.length C).ownBlock=some k) w3 w4:=((ag _ _ _).trans (aD _ _)).trans (bD Q);refine hKS.out _ _ (λ_=>E) ?_;clear hKS KS;have y0:=(E.cell (p:=⟨r.fb,10,none⟩) P ac).trans b8;have y1:=(E.frozen (p:=⟨r.fb,10,none⟩) P ac).trans g2;refine au rfl ?_;intro KS hKS;go_simp;refine hKS.out _ _ nofun ?_;clear hKS KS;refine au rfl ?_;intro KS hKS;go_simp;refine hKS.out _ _ nofun ?_;clear hKS KS;refine au rfl ?_;intro KS hKS;go_simp;refine hKS.out _ _ nofun ?_;clear hKS KS;refine aK rfl ?_;have I:=a.out.fr.1.fr.but E ac;have m:=I.set10 (.slice (some ⟨gg,0,none⟩) (f.zv.length+1) D)
 have c6:=ah B (aq w4 r.fb 10 (.slice (some ⟨gg,0,none⟩) (f.zv.length+1) D)) (λg hg e=>aE B I (by decide) (e▸hg));have d:But (λk=>k=r.fb\/r.sv.ownBlock=some k) w3 (w4.setCell ⟨r.fb,10,none⟩ (.slice (some ⟨gg,0,none⟩) (f.zv.length+1) D)):=(E.mono (λk _ h=>Or.inr (by rw[e1.out];exact h))).trans ((aq _ _ _ _).mono (λ_ _ h=>Or.inl h));clear y0 y1 B Q E I e4 b8 g2 v0 v1 g1;revert m c6 d;generalize (w4.setCell ⟨r.fb,10,none⟩ (.slice (some ⟨gg,0,none⟩) (f.zv.length+1) D))=W3;intro m c6 d;have c8:=m.c8;have z8:=m.fz 8;have f5:=hid m;have g0:=hid c6;have m2:=dV ((f.pc:Int)+1) (by omega) (by omega)
 have j3:=m.lt;clear m c6;go_wp2_with fail;have e2:=a.out.pushed (stk':=f.zv++ [u]) (d.trans ((aq _ _ _ _).mono (λ_ _ h=>Or.inl h))) (f5.out.set8 (f.pc+1)) (by rw[fq,aV];exact ah g0.out (aq _ _ _ _) (λg hg e=>aE g0.out f5.out (by decide) (e▸hg))) (j2.imp (λh=>by rw[e1.out];exact h.symm) (λh=>⟨gg,rfl,by omega⟩));exact cV (.int .i64 e) results145 rfl rfl ⟨u,e,s',vo',vb',gs',fv',sn',_,HR.out,rfl,e2⟩
/--A new object finds no room. -/
theorem AV (h:McQ w0 w im T mb tx tv bw cells ans inp (r::rs) (f::fs) s vo vb gs fv cn sn) (x:XIt) (u1 u2:V) (hx:x.op.toNat=110)
  (hH: ∀Y,B_ w Y->Calls prog 195 #[.pointer (some ⟨mb,0,none⟩),.int .u8 x.cls.toNat] Y λen w'=>en= .returned (.bool false)/\But (λk=>k=bw\/k∈gs) Y w'/\ ∃sn',McQ w0 w' im T mb tx tv bw cells ans inp (r::rs) (f::fs) s vo vb gs fv (cn+1) sn'):
  Calls prog 145 #[.pointer (some ⟨mb,0,none⟩),.pointer (some ⟨r.fb,0,none⟩),cR x,aI u1,aI u2] w λen w'=>en= .returned (.int .i64 5)/\ ∃sn',McQ w0 w' im T mb tx tv bw cells ans inp (r::rs) (f::fs) s vo vb gs fv (cn+1) sn':=by
 have a:=hid (psW w x u1 u2);have e:(x.op.toNat:Int)=110:=by omega
 rw[e]at a;have g:=hid hH;clear h hH;simp only[cR,aI]
 go_in
 go_wp2_with fail;revert a;generalize (((w.alloc (.cells #[.int .i64 x.place,.int .u8 110,.int .u8 x.cls.toNat,.int .i64 x.num,.slice x.pa x.pn x.pc] 219)).alloc (.cells #[.int .i32 (xN u1),.int .i64 (xO u1)] 168)).alloc (.cells #[.int .i32 (xN u2),.int .i64 (xO u2)] 168))=W0;intro a;refine(g.out W0 a.out.but).mono ?_;rintro en Wh ⟨rfl,d,sh,b⟩;have c:=hid b;clear b d g a;go_wp2_with fail;exact cV (.int .i64 5) results145 rfl rfl ⟨rfl,sh,c.out⟩
end
def tkA (n:Nat) (s:List V):V:=if n=0 then .z else if n=1 then dv s else kK s
def tkB (n:Nat) (s:List V):V:=if n=2 then dv s else .z
def tkR (n:Nat) (s:List V):List V:=if n=0 then s else if n=1 then dp s else iA s
section
variable {w0 w w':World} {im:Img} {T:cG} {mb tx:Nat} {tv:Value} {bw cells:Nat} {ans:Int} {inp:ByteArray} {r:Fr} {rs:List Fr} {f:Fm} {fs:List Fm} {s:Ev} {vo vb:Value} {gs:List Nat} {fv:List Value} {cn:Int} {sn:Nat->Int}
theorem E7 (h:McQ w0 w im T mb tx tv bw cells ans inp (r::rs) (f::fs) s vo vb gs fv cn sn) (n:Nat) (hn:n<=2) (hl:n<=f.zv.length) (h4:f.zv.length<=4000):
  Calls prog 141 #[.pointer (some ⟨r.fb,0,none⟩),.int .i64 n] w λen w'=>en= .returned (.tuple #[aI (tkA n f.zv),aI (tkB n f.zv)])/\But (· =r.fb) w w'/\ ∃sv',McQ w0 w' im T mb tx tv bw cells ans inp ({r with sv:=sv'}::rs) ({f with zv:=tkR n f.zv}::fs) s vo vb gs fv cn sn:=by
 obtain rfl|rfl|rfl:n=0\/n=1\/n=2:=by omega
 .refine(EV w r.fb).mono ?_;rintro en w1 ⟨rfl,a⟩;exact⟨rfl,a.mono (λ_ _ h=>h.elim),r.sv,h.new a⟩
 .refine(EW w r.fb _ _ _ _ _ _ _ _ _ _ _ h.fr.1.fr h.fr.1.st hl h4).mono ?_;rintro en w1 ⟨rfl,a,sv',c,d,b⟩;exact⟨rfl,a,sv',h.pushed (a.mono (λ_ _ h=>Or.inl h)) c d (Or.inl b)⟩
 .refine(EX w r.fb _ _ _ _ _ _ _ _ _ _ _ h.fr.1.fr h.fr.1.st hl h4).mono ?_;rintro en w1 ⟨rfl,a,sv',c,d,b⟩;exact⟨rfl,a,sv',h.pushed (a.mono (λ_ _ h=>Or.inl h)) c d (Or.inl b)⟩
/--A step,whatever the instruction:what is left to say is what it calls. -/
theorem jS (Q:Int->World->Prop) (h:McQ w0 w im T mb tx tv bw cells ans inp (r::rs) (f::fs) s vo vb gs fv cn sn) (hT:d9 w0 tx im) (hcl:(im.zq.map toX).length<=100) (hsg:im.zx.length<=100) (h4:f.zv.length<=4000) (h100:(aR im.zx r.b).items.length<=100) (x:XIt) (hx:(aR im.zx r.b).items[f.pc]?=some x)
  (h2:(aB (im.zq.map toX) im.zx x.op x.cls x.num (aR im.zx r.b).ans).length<=2) (hl:(aB (im.zq.map toX) im.zx x.op x.cls x.num (aR im.zx r.b).ans).length<=f.zv.length)
  (hA: ∀Y sv',McQ w0 Y im T mb tx tv bw cells ans inp ({r with sv:=sv'}::rs) ({f with zv:=tkR (aB (im.zq.map toX) im.zx x.op x.cls x.num (aR im.zx r.b).ans).length f.zv}::fs) s vo vb gs fv cn sn->
   ((x.op.toNat≠99/\x.op.toNat≠116/\x.op.toNat≠106/\x.op.toNat≠102)/\Calls prog 145 #[.pointer (some ⟨mb,0,none⟩),.pointer (some ⟨r.fb,0,none⟩),cR x,aI (tkA (aB (im.zq.map toX) im.zx x.op x.cls x.num (aR im.zx r.b).ans).length f.zv),aI (tkB (aB (im.zq.map toX) im.zx x.op x.cls x.num (aR im.zx r.b).ans).length f.zv)] Y (λen w'=> ∃e,en= .returned (.int .i64 e)/\Q e w'))\/
   (x.op.toNat=99/\Calls prog 142 #[.pointer (some ⟨mb,0,none⟩),.int .i64 x.num,aI (tkA (aB (im.zq.map toX) im.zx x.op x.cls x.num (aR im.zx r.b).ans).length f.zv),aI (tkB (aB (im.zq.map toX) im.zx x.op x.cls x.num (aR im.zx r.b).ans).length f.zv)] Y (λen w'=> ∃e,en= .returned (.int .i64 e)/\Q e w'))\/
   (x.op.toNat=116/\Calls prog 143 #[.pointer (some ⟨mb,0,none⟩),aI (tkA (aB (im.zq.map toX) im.zx x.op x.cls x.num (aR im.zx r.b).ans).length f.zv)] Y (λen w'=>en= .returned (.tuple #[])/\Q 0 w'))\/
   (x.op.toNat=102/\Calls prog 144 #[.pointer (some ⟨r.fb,0,none⟩),.int .i64 x.num,aI (tkA (aB (im.zq.map toX) im.zx x.op x.cls x.num (aR im.zx r.b).ans).length f.zv)] Y (λen w'=>en= .returned (.tuple #[])/\Q 0 w'))\/
   (x.op.toNat=106/\ ∀Z sz,McQ w0 Z im T mb tx tv bw cells ans inp ({r with sv:=sz}::rs) ({f with zv:=tkR (aB (im.zq.map toX) im.zx x.op x.cls x.num (aR im.zx r.b).ans).length f.zv,pc:=x.num}::fs) s vo vb gs fv cn sn->Q 0 Z)):
  Calls prog 88 #[.pointer (some ⟨mb,0,none⟩)] w (λen w'=> ∃e,en= .returned (.int .i64 e)/\Q e w'):=by
 have H:=hid (CC _ _ _ _ _ _ _ _ _ _ _ _ h.fr.1.fr (ah h.fr.1.it h.wd.old (λ_ _ h=>h)) x hx h100);have k4:w.cell? ⟨mb,4,none⟩=some (.pointer (some ⟨r.fb,0,none⟩)):=h.mc.c4;have b6:=h.mc.lt;have b5:=h.fr.1.fr.lt;have S:=hid (λ(Y:World) (hY:B_ w0 Y)=>mX tx (im.zq.map toX) im.zx x.place x.num x.op x.cls (aR im.zx r.b).ans Y (ap:=x.pa) (np:=x.pn) (cp:=x.pc) hcl hsg (hT.cls.but hY) (hT.met.but hY));generalize aB (im.zq.map toX) im.zx x.op x.cls x.num (aR im.zx r.b).ans=TK at*;have HM:=hid h;have HA:=hid hA;unfold cR at H;clear h hA
 go_in
 go_wp2_with fail;refine H.out.mono ?_;rintro en w1 ⟨rfl,X⟩;have a4:B_ w (w1.alloc (.cells #[.int .i64 x.place,.int .u8 x.op.toNat,.int .u8 x.cls.toNat,.int .i64 x.num,.slice x.pa x.pn x.pc] 219)):=X.trans (ag _ _ _);have a6:=bj w1 (.cells #[.int .i64 x.place,.int .u8 x.op.toNat,.int .u8 x.cls.toNat,.int .i64 x.num,.slice x.pa x.pn x.pc] 219);have b7:=X.size;have C:=hid a4;have l:=hid a6;clear a4 a6 H k4;go_wp2_with fail;revert C l;generalize (w1.alloc (.cells #[.int .i64 x.place,.int .u8 x.op.toNat,.int .u8 x.cls.toNat,.int .i64 x.num,.slice x.pa x.pn x.pc] 219))=W1;intro C l;generalize w1.heap.size=ib at*
 have n:=HM.out.new C.out;have m0:=n.mc.c0;have c4:=n.fr.1.fr.body.2.2.1;have a2:=n.mc.lt;have a0:=n.fr.1.fr.lt;obtain⟨i0,i1,i2,i3,i4⟩:=bI l.out;have q:=ae l.out;have I:=hid n;clear n HM;have E:B_ W1 W1.drew:=aD _ _;refine aF (B_ W1) 12 ?_
 iterate 10 (refine aN (v:=?_) rfl E ?_ ?_;rotate_left;(focus (intro wS h;have q0:=((h.cell (p:=⟨mb,0,none⟩) a2 nF).trans m0);have q1:=((h.cell (p:=⟨r.fb,4,none⟩) a0 nF).trans c4);have q2:=((h.cell (p:=⟨ib,0,none⟩) q nF).trans i0);have q3:=((h.cell (p:=⟨ib,1,none⟩) q nF).trans i1);have q4:=((h.cell (p:=⟨ib,2,none⟩) q nF).trans i2);have q5:=((h.cell (p:=⟨ib,3,none⟩) q nF).trans i3);have q6:=((h.cell (p:=⟨ib,4,none⟩) q nF).trans i4);clear h;go_simp;try rfl));dsimp only[Act.put];try simp only[bW])
 refine au rfl ?_;intro KS hKS;go_simp;refine(S.out _ (I.out.wd.old.trans E)).mono ?_;rintro en w2 ⟨a3,vT,rfl,a7⟩;have A:=E.trans a3;refine hKS.out _ _ (λ_=>A) ?_;clear hKS KS;refine au rfl ?_;intro KS hKS;go_simp;refine hKS.out _ _ (λ_=>A) ?_;clear hKS KS;refine aK rfl ?_;obtain⟨aT,cT,rfl⟩:=aA a7;have O:=I.out.new A;have J:=hid (E7 O TK.length h2 hl h4);have M:=(A.block ib q nF).trans l.out;have j:=hid M;have F:ib≠r.fb:=λe=>bL M O.fr.1.fr (by decide) e
 clear m0 c4 i0 i1 i2 i3 i4 O M a7 S l C I a3 A E;unfold aI at J;generalize tkA TK.length f.zv=a at*;generalize tkB TK.length f.zv=b at*;generalize tkR TK.length f.zv=rest at*;generalize TK.length=nT at*;go_wp2_with fail;refine J.out.mono ?_;rintro en B ⟨rfl,y,sv',P⟩;clear J;have L:B_ B ((B.alloc (.cells #[.int .i32 (xN a),.int .i64 (xO a)] 168)).alloc (.cells #[.int .i32 (xN b),.int .i64 (xO b)] 168)):=(ag _ _ _).trans (ag _ _ _);have a5:=(L.block ib (by have:=ae j.out;have:=y.size;omega) nF).trans ((y.block ib (ae j.out) F).trans j.out);have a8:dB ((B.alloc (.cells #[.int .i32 (xN a),.int .i64 (xO a)] 168)).alloc (.cells #[.int .i32 (xN b),.int .i64 (xO b)] 168)) B.heap.size a:=((ag (λ_=>False) _ _).block _ (by simp) nF).trans (bj B _)
 have b0:dB ((B.alloc (.cells #[.int .i32 (xN a),.int .i64 (xO a)] 168)).alloc (.cells #[.int .i32 (xN b),.int .i64 (xO b)] 168)) (B.heap.size+1) b:=aw (by simp) _;have c:=hid P;have m:=hid (P.new L);have b1:=hid a5;have b2:=hid a8;have b3:=hid b0;obtain⟨j0,G,j2,j3,j4⟩:=bI ((y.block ib (ae j.out) F).trans j.out);have b4:ib<B.heap.size:=by have:=ae j.out;have:=y.size;omega
 clear a5 a8 b0 P j L y
 try unfold aI at HA
 have i:=HA.out _ sv' m.out;clear HA b1 b2 b3;obtain⟨⟨n1,n2,n3,n4⟩,i⟩ | ⟨hc,i⟩ | ⟨hc,i⟩ | ⟨hc,i⟩ | ⟨hc,i⟩:=i
 .have t1:((x.op.toNat:Int)==99)=false:=yf (k:=99) n1;have t2:((x.op.toNat:Int)==116)=false:=yf (k:=116) n2;have t3:((x.op.toNat:Int)==106)=false:=yf (k:=106) n3;have t4:((x.op.toNat:Int)==102)=false:=yf (k:=102) n4;unfold cR at i;have t:=hid i;clear n1 n2 n3 n4 i c m;go_wp2_with fail;refine t.out.mono ?_;rintro en w5 ⟨e,rfl,z⟩;have D:=hid z;clear z t j0 G j2 j3 j4;go_wp2_with fail;exact cV (.int .i64 e) results88 rfl rfl ⟨e,rfl,D.out⟩
 .have d:(x.op.toNat:Int)=99:=by have:=hc;omega
  rw[d]at G;have t:=hid i;clear d hc i c m;go_wp2_with fail;refine t.out.mono ?_;rintro en w5 ⟨e,rfl,z⟩;have D:=hid z;clear z t j0 G j2 j3 j4;go_wp2_with fail;exact cV (.int .i64 e) results88 rfl rfl ⟨e,rfl,D.out⟩
 .have d:(x.op.toNat:Int)=116:=by have:=hc;omega
  rw[d]at G;have t:=hid i;clear d hc i c m;go_wp2_with fail;refine t.out.mono ?_;rintro en w5 ⟨rfl,z⟩;have D:=hid z;clear z t j0 G j2 j3 j4;go_wp2_with fail;exact cV (.int .i64 0) results88 rfl rfl ⟨0,rfl,D.out⟩
 .have d:(x.op.toNat:Int)=102:=by have:=hc;omega
  rw[d]at G;have t:=hid i;clear d hc i c m;go_wp2_with fail;refine t.out.mono ?_;rintro en w5 ⟨rfl,z⟩;have D:=hid z;clear z t j0 G j2 j3 j4;go_wp2_with fail;exact cV (.int .i64 0) results88 rfl rfl ⟨0,rfl,D.out⟩
 .have d:(x.op.toNat:Int)=106:=by have:=hc;omega
  rw[d]at G;clear d hc;have c8:=c.out.fr.1.fr.c8;have z8:=c.out.fr.1.fr.fz 8;have a1:=c.out.fr.1.fr.lt;simp only at c8 z8 a1;have hp:=c.out.pushed (pc':=x.num) (sv':=sv') (stk':=rest) ((aq B r.fb 8 (.int .i64 x.num)).mono (λ_ _ h=>Or.inl h)) (c.out.fr.1.fr.set8 x.num) (ah c.out.fr.1.st (aq B r.fb 8 (.int .i64 x.num)) (λg hg e=>aE c.out.fr.1.st c.out.fr.1.fr (by decide) (by have e:g=r.fb:=e;rw[<-e];exact hg))) (Or.inl rfl);have D:=hid (λY hY=>i Y sv' (hp.new hY));clear i m c hp;go_wp2_with fail;exact cV (.int .i64 0) results88 rfl rfl ⟨0,rfl,D.out _ ((ag _ _ _).trans (ag _ _ _))⟩
end
end
section
open Go Go.RowKit Sp
section
variable {w0 w w':World} {im:Img} {T:cG} {mb tx:Nat} {tv:Value} {bw cells:Nat} {ans:Int} {inp:ByteArray} {r q:Fr} {rs:List Fr} {f g:Fm} {fs:List Fm} {s:Ev} {vo vb:Value} {gs:List Nat} {fv:List Value} {cn:Int} {sn:Nat->Int}
theorem E8 (h:McQ w0 w im T mb tx tv bw cells ans inp (r::rs) (f::fs) s vo vb gs fv cn sn) (hpc:f.pc<=1000) (n:Nat) (u:V):
  Calls prog 144 #[.pointer (some ⟨r.fb,0,none⟩),.int .i64 n,aI u] w λen w'=>en= .returned (.tuple #[])/\McQ w0 w' im T mb tx tv bw cells ans inp (r::rs) ({f with pc:=if xN u=0 then n else f.pc+1}::fs) s vo vb gs fv cn sn:=by
 have b: ∀w',But (· =r.fb) w w'->w'.ownsRow w0.heap.size 168 2 r.sv f.zv.length (az f.zv):=λw' a=>ah h.fr.1.st a (λk hk e=>aE h.fr.1.st h.fr.1.fr (by decide) (by have e:k=r.fb:=e;rw[<-e];exact hk))
 unfold aI
 by_cases hu:xN u=0
 .rw[if_pos hu,hu];refine(EY _ _ _ _ _ _ _ _ _ _ _ h.fr.1.fr n (xO u)).mono ?_;rintro en w1 ⟨rfl,a,c⟩;exact⟨rfl,h.pushed (sv':=r.sv) (stk':=f.zv) (a.mono (λ_ _ h=>Or.inl h)) c (b _ a) (Or.inl rfl)⟩
 .rw[if_neg hu];refine(EZ _ _ _ _ _ _ _ _ _ _ _ h.fr.1.fr hpc n (xN u) (xO u) hu).mono ?_;rintro en w1 ⟨rfl,a,c⟩;exact⟨rfl,h.pushed (sv':=r.sv) (stk':=f.zv) (a.mono (λ_ _ h=>Or.inl h)) c (b _ a) (Or.inl rfl)⟩
theorem E9 (h:McQ w0 w im T mb tx tv bw cells ans inp [r] [f] s vo vb gs fv cn sn) (u:V):
  Calls prog 143 #[.pointer (some ⟨mb,0,none⟩),aI u] w λen w'=>en= .returned (.tuple #[])/\McQ w0 w' im T mb tx tv bw cells (xN u) inp [] [] s vo vb gs fv cn sn:=by
 unfold aI;refine(CD _ _ _ _ _ _ _ _ _ _ _ _ _ _ _ _ h.mc h.fr.1.fr (xN u) (xO u)).mono ?_;rintro en w1 ⟨rfl,a,b⟩;refine⟨rfl,h.step a (λk e=>Or.inl e) b trivial (λk hk=> ?_)⟩;obtain e| ⟨q,hq,_⟩:=hk
 .exact Or.inl (Or.inl e)
 .cases hq
theorem Fa (h:McQ w0 w im T mb tx tv bw cells ans inp (r::q::rs) (f::g::fs) s vo vb gs fv cn sn) (h4:g.zv.length<=4000) (hpc:g.pc<=1000) (u:V):
  Calls prog 143 #[.pointer (some ⟨mb,0,none⟩),aI u] w λen w'=>en= .returned (.tuple #[])/\ ∃q',McQ w0 w' im T mb tx tv bw cells ans inp (q'::rs) ({g with pc:=g.pc+1,zv:=g.zv++ [u]}::fs) s vo vb gs fv cn sn:=by
 obtain⟨C,⟨b,i,m⟩,F⟩:=h.fr;refine(E0 _ _ _ _ _ _ _ _ _ _ _ _ _ _ _ _ _ _ _ _ _ _ _ _ _ _ _ _ h.mc C.fr b.fr b.st h4 hpc h.wd.old.size u).mono ?_;rintro en w1 ⟨rfl,t,B,sv',D,E,A⟩;refine⟨rfl,{q with sv:=sv'},?_⟩;have l: ∀k,(k=q.fb\/q.sv.ownBlock=some k)->lz q k:=λk a=>a.elim Or.inl (λe=>Or.inr (Or.inr (Or.inr e)))
 have c:q∈r::q::rs:=List.mem_cons_of_mem _ (List.mem_cons_self ..)
 have z: ∀k,lz {q with sv:=sv'} k->lz q k\/w.heap.size<=k:=λk a=>by
  obtain e|e|e|e:=a
  .exact Or.inl (Or.inl e)
  .exact Or.inl (Or.inr (Or.inl e))
  .exact Or.inl (Or.inr (Or.inr (Or.inl e)))
  .obtain h1| ⟨j,h1,h2⟩:=A
   .exact Or.inl (Or.inr (Or.inr (Or.inr (h1▸e))))
   .have e:sv'.ownBlock=some k:=e;rw[h1]at e
    cases e
    exact Or.inr h2
 have n: ¬lz q mb:=h.off c
 have y: ∀k,q.lv.ownBlock=some k-> ¬(k=mb\/k=q.fb\/q.sv.ownBlock=some k):=λk a e=>by
  obtain e|e|e:=e
  .exact n (Or.inr (Or.inr (Or.inl (e▸a))))
  .exact aE b.lo b.fr (by decide) (e▸a)
  .exact b.ap k a e
 have x: ¬(q.bl=mb\/q.bl=q.fb\/q.sv.ownBlock=some q.bl):=λe=>by
  obtain e|e|e:=e
  .exact n (Or.inr (Or.inl e.symm))
  .exact bL b.lb b.fr (by decide) e
  .exact aE b.st b.lb (by decide) e
 refine h.step t (λk a=> ?_) B ⟨⟨b.hb,b.ht,D,(t.block q.bl (ae b.lb) x).trans b.lb,ah b.lo t y,E,b.bt,b.it,b.tb,λk a e=> ?_,b.g1,b.g2⟩,i.but t (λp hp k a e=> ?_),λk a p hp hk'=> ?_⟩ (λk a=> ?_)
 .obtain e|e:=a
  .exact Or.inl e
  .exact Or.inr ⟨q,c,l k e⟩
 .have a:q.lv.ownBlock=some k:=a;obtain h1| ⟨j,h1,h2⟩:=A
  .exact b.ap k a (h1▸e)
  .have e:sv'.ownBlock=some k:=e;rw[h1]at e
   cases e
   have:=bB b.lo _ a;omega
 .obtain e|e:=e
  .exact h.off (List.mem_cons_of_mem _ (List.mem_cons_of_mem _ hp)) (e▸a)
  .exact m k (l k e) p hp a
 .obtain h1|h1:=z k a
  .exact m k h1 p hp hk'
  .obtain⟨ca,d,f',v⟩:=i.mem p hp;have:=v.lt hk';omega
 .obtain e| ⟨p,hp,a⟩:=a
  .exact Or.inl (Or.inl e)
  .obtain rfl|hp:=List.mem_cons.1 hp
   .obtain h1|h1:=z k a
    .exact Or.inl (Or.inr ⟨q,c,h1⟩)
    .exact Or.inr h1
   .exact Or.inl (Or.inr ⟨p,List.mem_cons_of_mem _ (List.mem_cons_of_mem _ hp),a⟩)
end
end
end Go.Proofs.YtpfkkmacakjmbaaGreatDoor
