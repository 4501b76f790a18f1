import Derived.Test.YtpfkkmacakjmbaaGreatDoorP40
import Derived.Test.YtpfkkmacakjmbaaGreatDoorP37
set_option maxRecDepth 100000
set_option maxHeartbeats 6400000
set_option linter.unusedSimpArgs false
set_option linter.unusedVariables false
namespace Go.Proofs.YtpfkkmacakjmbaaGreatDoor
section
open Go Go.RowKit Sp
attribute [local go_sem ↓] Go.wp_at_zero Go.wp_at_succ
section
variable {K:Dk} {w0 w w':World} {hv:Value} {fo:List Value} {s:Ev} {ds:List Fd} {d c:Fd} {g cap:Nat}
theorem yA {m:Int} (h:DmQ K w0 w 0 12 hv (.slice (some ⟨g,0,none⟩) 1 cap) fo s [d]) (hcap:1≤cap) (h4:d.stk.length≤4000) (hl:1≤d.stk.length) (hm:aX d.stk= .i m):
  Calls Tryz.prog 112 #[.pointer (some ⟨K.mb,0,none⟩),.pointer (some ⟨g,0,none⟩)] w fun en w'=>en= .returned (.tuple #[])∧ ∃hv fv fo,DmQ K w0 w' m 0 hv fv fo s []:=by
 have HP:=hid (e9 (ds:=[]) h hl h4);obtain⟨a3,_,a4,_,_,c2,_,_⟩:=DmQ.cs (ds:=[]) h;obtain⟨a,c,a0⟩:=au (DmQ.st (ds:=[]) h);rw[a0]at c2;have hn:=tf d.stk.length 0 (by omega);rw[hm]at HP;clear h a0 hl hm;simp only[cU,li,lj,List.length_nil,Nat.zero_mul,Nat.zero_add,List.nil_append]at HP c2
 go_in
 go_wp2_with fail;refine HP.out.mono ?_;rintro en w1 ⟨rfl,a1,sv,hM⟩;obtain⟨_,_,_,c3,_,_,_,_,c8,c9⟩:=hM.mc.cs;have z3:=hM.mc.fz 3;have z8:=hM.mc.fz 8;have z9:=hM.mc.fz 9;have a5:=hM.lt;have HM:=hid (DmQ.drop (ds:=[]) hM);clear HP a1 hM;have a2:(1:Int)≤(cap:Int):=by omega
 go_wp2_with fail;go_end0;have h1:=HM.out;simp only[List.length_nil]at h1;have h2:=h1.own (val':=0) (e':=0) (s':=s) (But.setB _ K.mb 9 (.int .i64 0)) rfl (h1.mc.set9 0);have h3:=h2.own (val':=m) (e':=0) (s':=s) (But.setB _ K.mb 8 (.int .i64 m)) rfl (h2.mc.set8 m);exact⟨rfl,_,_,_,h3.new (But.alloc _ _ _)⟩
theorem Ac (h:DmQ K w0 w 0 12 hv (.slice (some ⟨g,0,none⟩) (ds.length+1+1) cap) fo s ((ds++ [c])++ [d])) (hcap:ds.length+1+1≤cap) (h4:d.stk.length≤4000) (hl:1≤d.stk.length) (hc4:c.stk.length≤4000) (hd:ds.length≤100) (hpc:0≤c.pc∧c.pc≤100):
  Calls Tryz.prog 112 #[.pointer (some ⟨K.mb,0,none⟩),.pointer (some ⟨g,(ds.length+1)*4,none⟩)] w fun en w'=>en= .returned (.tuple #[])∧ ∃fv sv lv,DmQ K w0 w' 0 12 hv fv fo s (ds++ [⟨c.q,c.pc+1,c.stk++ [aX d.stk],c.loc,sv,lv⟩]):=by
 have a0:(ds++ [c]).length=ds.length+1:=by simp
 have h':=h;rw[←a0]at h';have hp:=e9 h' hl h4;obtain⟨a6,_,a8,_,_,c2,_,_⟩:=h'.cs;obtain⟨a,c',a2⟩:=au h'.st;rw[a0]at hp c2;rw[a2]at c2;have HP:=hid hp;have hn:=tf d.stk.length 0 (by omega);generalize aX d.stk=v at*;clear h h' hp a2 hl;simp only[cU]at HP
 go_in
 go_wp2_with fail;refine HP.out.mono ?_;rintro en w1 ⟨rfl,a4,sv,hM⟩;obtain⟨_,_,_,c3,_,_,_,_,_,_⟩:=hM.mc.cs;have z3:=hM.mc.fz 3;have a9:=hM.lt;rw[←a0]at hM;have a1:=hM.drop;rw[a0]at a1;have HM:=hid a1;have a5:(ds.length:Int)+1≤(cap:Int):=by omega
 clear HP a4 hM a1;go_wp2_with fail;refine(df (HM.out.new (But.alloc (fun _=>False) _ (.cells #[.int .u8 v.K,.int .i64 v.N] 135))) v hc4).mono ?_;rintro en w2 ⟨rfl,sv',hM⟩;obtain⟨a7,_,_,_,c1,_,_,fz⟩:=hM.cs;have f1:=fz (ds.length*4+1);have a3:=hid (hM.pc (c.pc+1));have b0:=bH (c.pc+1) (by omega) (by omega);clear HM fz hM c2 c3 z3;simp only at c1;go_wp2_with fail;go_end0;exact⟨rfl,_,_,_,a3.out⟩
end
theorem dtF {x k:Nat} (h:x≠k):((x:Int)==(k:Int))=false:=by rw[beq_eq_false_iff_ne];omega
def sj (K:Dk) (w0:World) (g cap:Nat) (ds:List Fd) (R:World→Prop) (w':World):Prop:=
 ∃q s pc stk loc e hv fo sv lv,-1≤pc∧pc≤200∧DmQ K w0 w' 0 e hv (.slice (some ⟨g,0,none⟩) (ds.length+1) cap) fo s (ds++ [⟨q,pc,stk,loc,sv,lv⟩])∧
  ∀w'',DmQ K w0 w'' 0 e hv (.slice (some ⟨g,0,none⟩) (ds.length+1) cap) fo s (ds++ [⟨q,pc+1,stk,loc,sv,lv⟩])→R w''
section
variable {K:Dk} {w0 w w':World} {hv:Value} {fo:List Value} {s:Ev} {ds:List Fd} {d:Fd} {g cap:Nat} {x:Ins} {im:Img} {b:Bod}
theorem vn (h:DmQ K w0 w 0 12 hv (.slice (some ⟨g,0,none⟩) (ds.length+1) cap) fo s (ds++ [d])) (h4:d.stk.length≤4000) (h12:ds.length≤100) (hI:bT w0 K.bi im) (hw:WfI im) (hbd:im.bodies[d.q]?=some b) (hpc:0≤d.pc) (hx:b.code[d.pc.toNat]?=some x) (htag:ke (bh im x) d.stk) (R:World→Prop)
  (hK:(x.op.toNat=99∧ ∀Y,But (fun _=>False) w Y→Calls Tryz.prog 111 #[.pointer (some ⟨K.mb,0,none⟩),.pointer (some ⟨g,ds.length*4,none⟩),aY x] Y fun en w'=>en= .returned (.tuple #[])∧R w')∨
   (x.op.toNat=116∧ ∀Y,But (fun _=>False) w Y→Calls Tryz.prog 112 #[.pointer (some ⟨K.mb,0,none⟩),.pointer (some ⟨g,ds.length*4,none⟩)] Y fun en w'=>en= .returned (.tuple #[])∧R w')∨
   ((x.op.toNat=108∨x.op.toNat=115∨x.op.toNat=100∨x.op.toNat=106)∧ ∀Y,But (fun _=>False) w Y→Calls Tryz.prog 113 #[.pointer (some ⟨K.mb,0,none⟩),.pointer (some ⟨g,ds.length*4,none⟩),aY x] Y fun en w'=>en= .returned (.tuple #[])∧sj K w0 g cap ds R w')∨
   ((x.op.toNat=110∨x.op.toNat=122∨x.op.toNat=103∨x.op.toNat=112∨x.op.toNat=120)∧ ∀Y,But (fun _=>False) w Y→Calls Tryz.prog 114 #[.pointer (some ⟨K.mb,0,none⟩),.pointer (some ⟨g,ds.length*4,none⟩),aY x] Y fun en w'=>en= .returned (.tuple #[])∧sj K w0 g cap ds R w')∨
   ((x.op.toNat≠99∧x.op.toNat≠116∧x.op.toNat≠108∧x.op.toNat≠115∧x.op.toNat≠100∧x.op.toNat≠106∧x.op.toNat≠110∧x.op.toNat≠122∧x.op.toNat≠103∧x.op.toNat≠112∧x.op.toNat≠120)∧ ∀Y,But (fun _=>False) w Y→Calls Tryz.prog 115 #[.pointer (some ⟨K.mb,0,none⟩),.pointer (some ⟨g,ds.length*4,none⟩),aY x] Y fun en w'=>en= .returned (.tuple #[])∧sj K w0 g cap ds R w')):
  Calls Tryz.prog 67 #[.pointer (some ⟨K.mb,0,none⟩)] w fun en w'=>en= .returned (.tuple #[])∧R w':=by
 have b5:=hw.bod b (List.mem_of_getElem? hbd);have b9:=b5.code x (List.mem_of_getElem? hx);have HW:=hid (fun Y (hY:But (fun _=>False) w Y)=>vm (h.new hY) hI b9);have e8:(bh im x).length≤2:=by unfold bh;(repeat' split)<;>simp
 have b0:=hid (fun Y (hY:But (fun _=>False) w Y)=>tz (h.new hY) h4 _ htag e8);generalize bh im x=ts at*;obtain⟨c0,_,_,c3,_⟩:=h.mc.cs;have e7:=h.lt;obtain⟨b2,_,_,q0,q1,_,_,_⟩:=h.cs;obtain⟨gb,cb,ak,capk,e2,e3,e6,e4,b1,_,_,_,f3,_⟩:=(hI.but h.old).body hbd;have a8:=(List.getElem?_eq_some_iff.1 hx).1;obtain⟨gc,rfl,a5,_,a0⟩:=aG b1 (by omega);obtain⟨p,hp⟩: ∃p:Nat,d.pc=p:=⟨d.pc.toNat,by omega⟩;rw[hp]at q1 hx a8;rw[Int.toNat_natCast]at hx a8;have i0:w.cell? ⟨gc,p*4,none⟩=some (.int .u8 x.op.toNat):=a0 _ _ (dG (k:=0) hx (by omega));have i1:w.cell? ⟨gc,p*4+1,none⟩=some (.int .i64 x.a):=a0 _ _ (dG (k:=1) hx (by omega))
 have i2:w.cell? ⟨gc,p*4+2,none⟩=some (.int .i64 x.b):=a0 _ _ (dG (k:=2) hx (by omega));have i3:w.cell? ⟨gc,p*4+3,none⟩=some (.int .i64 x.pos):=a0 _ _ (dG (k:=3) hx (by omega));have f4: ¬(p:Int)<0:=by omega
 have f5: ¬(b.code.length:Int)≤(p:Int):=by omega
 have f6:(p:Int)<(b.code.length:Int):=by omega
 have HK:=hid hK;clear hK h hI hw hbd hpc hx htag b5 b9 b1 a0 hp a8;generalize b.code.length=nc at*;generalize im.bodies.length=nb at*;unfold aY at HK HW
 go_in
 go_wp2_with fail
 go_quiet (fail)
 generalize nq=n1;go_wp2_with fail
 go_quiet (fail)
 have a2:But (fun _=>False) w ((w.drewN n1).drewN nq):=(But.drewN _ _ _).trans (But.drewN _ _ _);revert a2;generalize (w.drewN n1).drewN nq=X;intro a2;replace i0:=a2.kc i0 a5;replace i1:=a2.kc i1 a5;replace i2:=a2.kc i2 a5;replace i3:=a2.kc i3 a5;replace q1:=a2.kc q1 b2;have hz:=a2.size;replace a5:gc<X.heap.size:=by omega
 replace b2:g<X.heap.size:=by omega
 clear hz c0 c3 q0 e2 f3 e7 e6 e4 e3;generalize b3:ds.length*4=o at*;have a9:=hid b3;clear b3;go_wp2_with fail;have a7:=a2.trans (But.alloc (fun _=>False) X (.cells #[.int .u8 x.op.toNat,.int .i64 x.a,.int .i64 x.b,.int .i64 x.pos] 144));refine(HW.out _ a7).mono ?_;rintro en w1 ⟨rfl,a6⟩;have a3:=(a6.block X.heap.size (by simp) (fun h=>h)).trans (heap_alloc_new X _);have a4:=a7.trans a6;clear HW a7 a6 a2 i0 i1 i2 i3 q1;have k0:=cell_of_row w1 _ 0 _ _ (0,0) a3;have k1:=cell_of_row w1 _ 1 _ _ (0,0) a3;have k2:=cell_of_row w1 _ 2 _ _ (0,0) a3;have k3:=cell_of_row w1 _ 3 _ _ (0,0) a3;simp at k0 k1 k2 k3
 have f2:=ae a3;clear a3;go_wp2_with fail;refine(b0.out _ a4).mono ?_;rintro en w2 ⟨rfl,b4⟩;rw[b4];clear b4 w2 b0;rcases HK.out with⟨ho,hN⟩ | ⟨ho,hN⟩ | ⟨ho|ho|ho|ho,hN⟩ | ⟨ho|ho|ho|ho|ho,hN⟩ | ⟨⟨n1,n2,n3,n4,n5,n6,n7,n8,n9,e0,e1⟩,hN⟩
 ·have HN:=hid (hN w1 a4);rw[ho]at k0 HN;clear HK hN ho;go_wp2_with fail;refine HN.out.mono ?_;rintro en w3 ⟨rfl,hR⟩;go_wp2_with fail;exact eo Tryz.results67 rfl ⟨rfl,hR⟩
 ·have HN:=hid (hN w1 a4);rw[ho]at k0;clear HK hN ho;go_wp2_with fail;refine HN.out.mono ?_;rintro en w3 ⟨rfl,hR⟩;go_wp2_with fail;exact eo Tryz.results67 rfl ⟨rfl,hR⟩
 rotate_left 9
 ·have HN:=hid (hN w1 a4);clear HK hN;replace n1:=dtF n1;replace n2:=dtF n2;replace n3:=dtF n3;replace n4:=dtF n4;replace n5:=dtF n5;replace n6:=dtF n6;replace n7:=dtF n7;replace n8:=dtF n8;replace n9:=dtF n9;replace e0:=dtF e0;replace e1:=dtF e1;go_wp2_with fail;refine HN.out.mono ?_;rintro en w3 ⟨rfl,q,s',pc,stk,loc,e,hv',fo',sv,lv,p1,p2,hM,hR⟩;obtain⟨e5,_,_,_,c1,_,_,fz⟩:=hM.cs;have a1:=hM.pc (pc+1);rw[a9.out]at c1 a1;have f1:=fz (o+1);have HR:=hid (hR _ a1);have f0:=bH (pc+1) (by omega) (by omega);simp only at c1;clear HN hM hR a1 fz k0 k1 k2 k3;go_wp2_with fail;go_end0;exact⟨rfl,HR.out⟩
 all_goals
  have HN:=hid (hN w1 a4);rw[ho]at k0 HN;clear HK hN ho;go_wp2_with fail;refine HN.out.mono ?_;rintro en w3 ⟨rfl,q,s',pc,stk,loc,e,hv',fo',sv,lv,p1,p2,hM,hR⟩;obtain⟨e5,_,_,_,c1,_,_,fz⟩:=hM.cs;have a1:=hM.pc (pc+1);rw[a9.out]at c1 a1;have f1:=fz (o+1);have HR:=hid (hR _ a1);have f0:=bH (pc+1) (by omega) (by omega);simp only at c1;clear HN hM hR a1 fz k0 k1 k2 k3;go_wp2_with fail;go_end0;exact⟨rfl,HR.out⟩
end
section
variable {K:Dk} {w0 w w':World} {hv:Value} {fo:List Value} {s:Ev} {ds:List Fd} {d:Fd} {g cap:Nat} {x:Ins} {im:Img}
theorem Ad (h:DmQ K w0 w 0 12 hv (.slice (some ⟨g,0,none⟩) (ds.length+1) cap) fo s (ds++ [d])) (h4:d.stk.length≤4000) (hl:1≤d.stk.length) (hv':aX d.stk= .z) (ho:x.op.toNat=103):
  Calls Tryz.prog 114 #[.pointer (some ⟨K.mb,0,none⟩),.pointer (some ⟨g,ds.length*4,none⟩),aY x] w fun en w'=>en= .returned (.tuple #[])∧iy K w0 g cap ds d.q s d.pc (ba d.stk) d.loc 6 w':=by
 have HP:=hid (fun Y (hY:But (fun _=>False) w Y)=>e9 (h.new hY) hl h4);have a5:=h.cs.1;have HO:=hid (fun(Y:World) fv ds (hM:DmQ K w0 Y 0 12 hv fv fo s ds)=>yv hM x.a);rw[hv']at HP;clear h hv';unfold aY;rw[ho];clear ho;simp only[cU,r9,sc]at HP HO
 go_in
 go_wp2_with fail;refine(HP.out _ (But.alloc _ _ _)).mono ?_;rintro en w1 ⟨rfl,a4,sv,hM⟩;have hi:=(a4.block w.heap.size (by simp) (by show¬w.heap.size=g;omega)).trans (heap_alloc_new w _);have i1:=cell_of_row w1 _ 1 _ _ (0,0) hi;simp at i1;have a6:=ae hi;have HM:=hid hM;clear HP a4 hi hM;go_wp2_with fail;have a2:=HM.out.new (But.alloc (fun _=>False) w1 (.cells #[.int .u8 122,.int .i64 0] 135));refine(HO.out _ _ _ a2).mono ?_;rintro en w2 ⟨rfl,a1⟩;have hi:=(a1.block w1.heap.size (by simp) (fun h=>h)).trans (heap_alloc_new w1 _);have j0:=cell_of_row w2 _ 0 _ _ (0,0) hi;simp at j0;have a7:=ae hi;have a0:=a2.new a1
 have c9:=a0.mc.cs.2.2.2.2.2.2.2.2.2;have z9:=a0.mc.fz 9;have a8:=a0.lt;have a3:=hid a0;clear HO HM a2 a1 hi a0;go_wp2_with fail;go_end0;exact⟨rfl,_,_,_,_,a3.out.own (val':=0) (e':=6) (s':=s) (But.setB w2 K.mb 9 (.int .i64 6)) rfl (a3.out.mc.set9 6)⟩
theorem Ae (h:DmQ K w0 w 0 12 hv (.slice (some ⟨g,0,none⟩) (ds.length+1) cap) fo s (ds++ [d])) (h4:d.stk.length≤4000) (hl:1≤d.stk.length) (hI:bT w0 K.bi im) (hw:WfC im.classes) {k:Nat} {ob:Ob} (hv':aX d.stk= .o k) (hk:s.heap[k]?=some ob) (hc:ob.cls<im.classes.length) (hu:bk im.classes 5 ob.cls x.a=true) (hj:x.b<ob.fs.length) (hh:s.heap.length≤4000) (ho:x.op.toNat=103):
  Calls Tryz.prog 114 #[.pointer (some ⟨K.mb,0,none⟩),.pointer (some ⟨g,ds.length*4,none⟩),aY x] w fun en w'=>en= .returned (.tuple #[])∧iy K w0 g cap ds d.q s d.pc (ba d.stk++ [ob.fs.getD x.b .z]) d.loc 12 w':=by
 obtain⟨u,a5⟩: ∃u,ob.fs[x.b]?=some u:=⟨_,List.getElem?_eq_getElem hj⟩;rw[show ob.fs.getD x.b .z=u from by rw[List.getD_eq_getElem?_getD,a5];rfl];have HP:=hid (fun Y (hY:But (fun _=>False) w Y)=>e9 (h.new hY) hl h4);have b9:=h.cs.1;have b3:(ba d.stk).length≤4000:=by simp[ba];omega
 have HO:=hid (fun(Y:World) fv ds (hM:DmQ K w0 Y 0 12 hv fv fo s ds)=>yw hM hI hw hk hc hh x.a);rw[hu]at HO;rw[hv']at HP;clear h hv' hI hw hc hu;unfold aY;rw[ho];clear ho;simp only[cU,sd,si]at HP HO
 go_in
 go_wp2_with fail;refine(HP.out _ (But.alloc _ _ _)).mono ?_;rintro en w1 ⟨rfl,a7,sv,hM⟩;have a4:=(a7.block w.heap.size (by simp) (by show¬w.heap.size=g;omega)).trans (heap_alloc_new w _);have i1:=cell_of_row w1 _ 1 _ _ (0,0) a4;simp at i1;have b0:=ae a4;have HM:=hid hM;clear HP a7 hM;go_wp2_with fail;have hA:=But.alloc (fun _=>False) w1 (.cells #[.int .u8 111,.int .i64 k] 135);have a6:=HM.out.new hA;refine(HO.out _ _ _ a6).mono ?_;rintro en w2 ⟨rfl,a3⟩;have hi:=(a3.block w1.heap.size (by simp) (fun h=>h)).trans (heap_alloc_new w1 _);have j0:=cell_of_row w2 _ 0 _ _ (0,0) hi;have j1:=cell_of_row w2 _ 1 _ _ (0,0) hi
 have a1:=((hA.trans a3).block w.heap.size b0 (fun h=>h)).trans a4;have k2:=cell_of_row w2 _ 2 _ _ (0,0) a1;simp at j0 j1 k2;have b1:=ae hi;have b2:=ae a1;have a2:=a6.new a3;have c2:=a2.mc.cs.2.2.1;have b4:=a2.lt;obtain⟨gh,ch,vf,rfl,_,a9,_,q1,ho⟩:=a2.obj hk;obtain⟨af,cf,rfl⟩:=au ho;obtain⟨gf,rfl,a8,b5,a0⟩:=aG ho (by omega);have f0:w2.cell? ⟨gf,x.b*2,none⟩=some (.int .u8 u.K):=a0 _ _ (bq (k:=0) a5 (by omega));have f1:w2.cell? ⟨gf,x.b*2+1,none⟩=some (.int .i64 u.N):=a0 _ _ (bq (k:=1) a5 (by omega));have e1:(k:Int)<(s.heap.length:Int):=by have:=(List.getElem?_eq_some_iff.1 hk).1;omega
 have e0:(x.b:Int)<(ob.fs.length:Int):=by omega
 have HQ:=hid (fun Y (hY:But (fun _=>False) w2 Y)=>df (a2.new hY) u b3);simp only[cU]at HQ;clear HO HM a6 a3 hi a1 a4 hA a0 ho a2 hk a5 hj;generalize s.heap.length=nh at*;generalize ob.fs.length=nf at*;generalize ds.length*4=o at*;go_wp2_with fail;refine az (But (fun _=>False) w2) 14 (by kernel_rfl) ?_;have hS:But (fun _=>False) w2 w2.drew:=But.drew _ _
 iterate 14 (refine iP (v:=?_) rfl (by kernel_rfl) (fun _ _ _ h=>h) rfl hS ?_ ?_;rotate_left;(focus (intro wS h;have Q0:=(h.kc c2 b4);have Q1:=(h.kc j1 b1);have Q2:=(h.kc q1 a9);have Q3:=(h.kc k2 b2);have Q4:=(h.kc f0 a8);have Q5:=(h.kc f1 a8);clear h;go_simp;try rfl));dsimp only[Act.put];try simp only[aR])
 refine ag rfl (by kernel_rfl) ?_;intro KS hKS;go_simp;refine(HQ.out _ hS).mono ?_;rintro en w3 ⟨rfl,sv',hM⟩;refine hKS.out _ _ nofun ?_;clear hKS KS HQ;refine aD rfl (by kernel_rfl) ?_;go_wp2_with fail;go_end0;exact⟨rfl,_,_,_,_,hM⟩
theorem Af (h:DmQ K w0 w 0 12 hv (.slice (some ⟨g,0,none⟩) (ds.length+1) cap) fo s (ds++ [d])) (h4:d.stk.length≤4000) (hl:2≤d.stk.length) (hv':dP d.stk= .z) (ho:x.op.toNat=112):
  Calls Tryz.prog 114 #[.pointer (some ⟨K.mb,0,none⟩),.pointer (some ⟨g,ds.length*4,none⟩),aY x] w fun en w'=>en= .returned (.tuple #[])∧iy K w0 g cap ds d.q s d.pc (cH d.stk) d.loc 6 w':=by
 have HP:=hid (fun Y (hY:But (fun _=>False) w Y)=>jc (h.new hY) h4 hl);have a9:=h.cs.1;have HO:=hid (fun(Y:World) fv ds (hM:DmQ K w0 Y 0 12 hv fv fo s ds)=>yv hM x.a);rw[hv']at HP;generalize aX d.stk=v at*;clear h hv';unfold aY;rw[ho];clear ho;simp only[cU,r9,sc]at HP HO
 go_in
 go_wp2_with fail;refine(HP.out _ (But.alloc _ _ _)).mono ?_;rintro en w1 ⟨rfl,a2,a1⟩;replace a1:=hid a1;have a8:=a2.size;simp at a8;have a7:=(a2.block w.heap.size (by simp) (by show¬w.heap.size=g;omega)).trans (heap_alloc_new w _);clear HP a2;go_wp2_with fail;refine(a1.out _ (But.alloc _ _ _)).mono ?_;rintro en w2 ⟨rfl,a6,sv,hM⟩;have hk:=(a6.block w.heap.size (by simp;omega) (by show¬w.heap.size=g;omega)).trans (((But.alloc (fun _=>False) _ _).block w.heap.size (by omega) (fun h=>h)).trans a7);have k1:=cell_of_row w2 _ 1 _ _ (0,0) hk;simp at k1;have b1:=ae hk;have HM:=hid hM;clear a1 a6 hM hk a7
 go_wp2_with fail;have a4:=HM.out.new (But.alloc (fun _=>False) w2 (.cells #[.int .u8 122,.int .i64 0] 135));refine(HO.out _ _ _ a4).mono ?_;rintro en w3 ⟨rfl,a3⟩;have hi:=(a3.block w2.heap.size (by simp) (fun h=>h)).trans (heap_alloc_new w2 _);have j0:=cell_of_row w3 _ 0 _ _ (0,0) hi;simp at j0;have b0:=ae hi;have a0:=a4.new a3;have c9:=a0.mc.cs.2.2.2.2.2.2.2.2.2;have z9:=a0.mc.fz 9;have b2:=a0.lt;have a5:=hid a0;clear HO HM a4 a3 hi a0;go_wp2_with fail;go_end0;exact⟨rfl,_,_,_,_,a5.out.own (val':=0) (e':=6) (s':=s) (But.setB w3 K.mb 9 (.int .i64 6)) rfl (a5.out.mc.set9 6)⟩
theorem Ag (h:DmQ K w0 w 0 12 hv (.slice (some ⟨g,0,none⟩) (ds.length+1) cap) fo s (ds++ [d])) (h4:d.stk.length≤4000) (hl:2≤d.stk.length) (hI:bT w0 K.bi im) (hw:WfC im.classes) {k:Nat} {ob:Ob} (hv':dP d.stk= .o k) (hk:s.heap[k]?=some ob) (hc:ob.cls<im.classes.length) (hu:bk im.classes 5 ob.cls x.a=true) (hj:x.b<ob.fs.length) (hh:s.heap.length≤4000) (ho:x.op.toNat=112):
  Calls Tryz.prog 114 #[.pointer (some ⟨K.mb,0,none⟩),.pointer (some ⟨g,ds.length*4,none⟩),aY x] w fun en w'=>en= .returned (.tuple #[])∧iy K w0 g cap ds d.q (s.put k x.b (aX d.stk)) d.pc (cH d.stk) d.loc 12 w':=by
 obtain⟨u,b1⟩: ∃u,ob.fs[x.b]?=some u:=⟨_,List.getElem?_eq_getElem hj⟩;have HP:=hid (fun Y (hY:But (fun _=>False) w Y)=>jc (h.new hY) h4 hl);have e6:=h.cs.1;have HO:=hid (fun(Y:World) fv ds (hM:DmQ K w0 Y 0 12 hv fv fo s ds)=>yw hM hI hw hk hc hh x.a);rw[hu]at HO;rw[hv']at HP;generalize aX d.stk=v at*;clear h hv' hI hw hc hu;unfold aY;rw[ho];clear ho;simp only[cU,sd,si]at HP HO
 go_in
 go_wp2_with fail;refine(HP.out _ (But.alloc _ _ _)).mono ?_;rintro en w1 ⟨rfl,a7,a5⟩;replace a5:=hid a5;have e3:=a7.size;simp at e3;have b4:=(a7.block w.heap.size (by simp) (by show¬w.heap.size=g;omega)).trans (heap_alloc_new w _);clear HP a7;go_wp2_with fail;refine(a5.out _ (But.alloc _ _ _)).mono ?_;rintro en w2 ⟨rfl,a8,sv,hM⟩;have a6:=(a8.block w.heap.size (by simp;omega) (by show¬w.heap.size=g;omega)).trans (((But.alloc (fun _=>False) _ _).block w.heap.size (by omega) (fun h=>h)).trans b4);have b2:=(a8.block w1.heap.size (by simp) (by show¬w1.heap.size=g;omega)).trans (heap_alloc_new w1 _)
 have k1:=cell_of_row w2 _ 1 _ _ (0,0) a6;simp at k1;have e1:=ae a6;have HM:=hid hM;clear a5 a8 hM b4;go_wp2_with fail;have hA:=But.alloc (fun _=>False) w2 (.cells #[.int .u8 111,.int .i64 k] 135);have a9:=HM.out.new hA;refine(HO.out _ _ _ a9).mono ?_;rintro en w3 ⟨rfl,a3⟩;have hi:=(a3.block w2.heap.size (by simp) (fun h=>h)).trans (heap_alloc_new w2 _);have j0:=cell_of_row w3 _ 0 _ _ (0,0) hi;have j1:=cell_of_row w3 _ 1 _ _ (0,0) hi;have a2:=((hA.trans a3).block w.heap.size e1 (fun h=>h)).trans a6;have a1:=((hA.trans a3).block w1.heap.size (ae b2) (fun h=>h)).trans b2;have k2:=cell_of_row w3 _ 2 _ _ (0,0) a2
 have v0:=cell_of_row w3 _ 0 _ _ (0,0) a1;have v1:=cell_of_row w3 _ 1 _ _ (0,0) a1;simp at j0 j1 k2 v0 v1;have e0:=ae hi;have b0:=ae a2;have b5:=ae a1;have a4:=a9.new a3;have c2:=a4.mc.cs.2.2.1;have e2:=a4.lt;obtain⟨gh,ch,vf,rfl,b3,b9,_,q1,ho⟩:=a4.obj hk;obtain⟨af,cf,rfl⟩:=au ho;obtain⟨gf,rfl,e4,e5,a0⟩:=aG ho (by omega);have f0:w3.cell? ⟨gf,x.b*2,none⟩=some (.int .u8 u.K):=a0 _ _ (bq (k:=0) b1 (by omega));have f1:w3.cell? ⟨gf,x.b*2+1,none⟩=some (.int .i64 u.N):=a0 _ _ (bq (k:=1) b1 (by omega));have z0:=kO ho (x.b*2);have z1:=kO ho (x.b*2+1);have e8:(k:Int)<(s.heap.length:Int):=by have:=(List.getElem?_eq_some_iff.1 hk).1;omega
 have e7:(x.b:Int)<(ob.fs.length:Int):=by omega
 have HQ:=hid (a4.setF hk b3 (g:=gf) rfl x.b v);clear HO HM a9 a3 hi a2 a6 b2 a1 hA a0 ho a4 hk b1 hj b3 k1;generalize s.heap.length=nh at*;generalize ob.fs.length=nf at*;generalize ds.length*4=o at*;go_wp2_with fail;refine az (But (fun _=>False) w3) 13 (by kernel_rfl) ?_;have hS:But (fun _=>False) w3 w3.drew:=But.drew _ _
 iterate 13 (refine aB (v:=?_) rfl (by kernel_rfl) (fun _ _ _ h=>h) rfl hS ?_ ?_;rotate_left;(focus (intro wS h;have Q0:=(h.kc c2 e2);have Q1:=(h.kc j1 e0);have Q2:=(h.kc q1 b9);have Q3:=(h.kc k2 b0);have Q4:=(h.kc v0 b5);have Q5:=(h.kc v1 b5);clear h;go_simp;try rfl));dsimp only[Act.put];try simp only[aR])
 refine eF rfl (by kernel_rfl) ?_;go_wp2_with fail;go_end0;exact⟨rfl,_,_,_,_,HQ.out.new (But.drew _ _)⟩
end
def dp (l:List Nat):List Value:=l.map fun k:Nat=>Value.int .i64 (k:Int)
theorem yB:(Tryz.prog.info? 3).map (fun i=>(i.zero,i.size,i.bytes))=some (some (.int .i64 0),1,8):=by kernel_rfl
theorem dV {ops:Array Oper} {rest:List Oper} {o:Oper} {a:Act} {Q:Exit→Act→World→Prop} (hgd:o.guard=none) (s x:Operand)
  (ho:o.op= .call {callee:= .builtin .append,args:=#[s,x],argTypes:=#[217,217]})
  (W:World) (base:Nat) (v:Value) (l:List Nat) (u:Nat) (hs:a.eval s=v) (H:Nat) (hH:W.heap.size=H) (hx:a.eval x= .slice (some ⟨H,0,none⟩) 1 1) (hown:W.ownsRow base 3 1 v l.length (dp l)) (hl:l.length≤500000) (hbase:base≤W.heap.size)
  (h: ∀g cap w',w'.ownsRow base 3 1 (.slice (some ⟨g,0,none⟩) (l++ [u]).length cap) (l++ [u]).length (dp (l++ [u]))→But (fun k=>v.ownBlock=some k) W w'→(v.ownBlock=some g∨W.heap.size≤g)→wpList Tryz.prog ops Q rest (a.put o.dst (.slice (some ⟨g,0,none⟩) (l.length+1) cap)) w'):
  wpList Tryz.prog ops Q (o::rest) a (W.alloc (.cells #[.int .i64 u] 3)):=by
 obtain⟨i0,a0,a1,a2,a3⟩:=info_parts yB;subst hH
 refine wpList_append_lies _ hgd s x _ ho base 3 i0 _ 1 8 (by kernel_rfl) a0 a1 a2 a3 rfl (by omega) v l.length (dp l) hs (ar hown (But.alloc (fun _=>False) _ _) (fun _ _ h=>h)) ⟨W.heap.size,0,none⟩ 1 1 [.int .i64 u] hx rfl
  (World.news_of_block (cs:=#[.int .i64 u]) (t:=3) (fr:=(0,0)) (heap_alloc_new W _)) (by simp[Value.oneCell']) (by omega) (by unfold maxLen;omega) (by omega) (by simp;omega) (W.heap.size+1) (by simp) ?_
 intro g cap w' h1 h2 h3 h4;refine h g cap w' ?_ ((But.alloc _ _ _).trans (aQ h2)) ?_
 ·rw[show dp (l++ [u])=dp l++ [.int .i64 u]from by simp[dp],List.length_append];exact h1
 ·rcases h3 with h3|h3
  ·exact Or.inl h3
  ·right;omega
def bY (vs:List V):List Nat:=vs.filterMap fun v=>match v with
 | .o k=>some k
 |_=>none
theorem sl (a b:List V):bY (a++b)=bY a++bY b:=by simp[bY]
theorem xC (a:List V) (k:Nat):k∈bY a↔V.o k∈a:=by
 simp only[bY,List.mem_filterMap];refine⟨fun⟨v,h1,h2⟩=> ?_,fun h=>⟨_,h,rfl⟩⟩
 cases v<;>simp at h2
 subst h2;exact h1
theorem lm (a:List V):(bY a).length≤a.length:=List.length_filterMap_le _ _
section
variable {K:Dk} {w0 w w':World} {val e:Int} {hv fv:Value} {fo:List Value} {s:Ev} {ds:List Fd} {base:Nat} {L:List (Nat×List St)} {q pc:Nat} {p:Nat×List St} {st lo:List UInt8}
theorem vp (h:DmQ K w0 w val e hv fv fo s ds) (hT:eU w0 base K.tv L) (hp:L[q]?=some p) (hs:p.2[pc]?=some (some (st,lo))) (a1 a2:Option Addr) (n1 n2 c1 c2:Nat):
  Calls Tryz.prog 242 #[.pointer (some ⟨K.mb,0,none⟩),.agg #[.int .i64 q,.int .i64 pc,.slice a1 n1 c1,.slice a2 n2 c2]] w fun en w'=>en= .returned (.agg #[.bool true,.string ⟨st.toArray⟩,.string ⟨lo.toArray⟩])∧But (fun _=>False) w w':=by
 have a3:=hT.but h.old;have b9:=(List.getElem?_eq_some_iff.1 hp).1;have b5:=(List.getElem?_eq_some_iff.1 hs).1;have k1:=h.mc.cs.2.1;have b4:=h.lt;obtain⟨a,c,a6⟩:=au a3.1;rw[a6]at k1;have ho:=a3.1;rw[a6]at ho;obtain⟨gt,rfl,a9,_,a0⟩:=aG ho (by omega);have t0:w.cell? ⟨gt,q,none⟩=some (.slice (some ⟨p.1,0,none⟩) p.2.length p.2.length):=a0 _ _ (by simp[kN,hp]);have hA:=(a3.2 p (List.mem_of_getElem? hp)).1;have s0:w.cell? ⟨p.1,pc*3,none⟩=some (.bool true):=hA.cell (k:=0) hs (by omega);have s1:w.cell? ⟨p.1,pc*3+1,none⟩=some (.string ⟨st.toArray⟩):=hA.cell (k:=1) hs (by omega);have s2:w.cell? ⟨p.1,pc*3+2,none⟩=some (.string ⟨lo.toArray⟩):=hA.cell (k:=2) hs (by omega)
 have a4:=hA.lt;have qI:(q:Int)<(L.length:Int):=by omega
 have pI:(pc:Int)<(p.2.length:Int):=by omega
 have l0:0<(L.length:Int):=by omega
 obtain⟨g2,a8⟩: ∃g2,p.1=g2:=⟨_,rfl⟩;rw[a8]at t0 s0 s1 s2 a4;clear h hT a3 hp hs ho a0 hA a6 b9 b5 a8;generalize L.length=nL at*;generalize p.2.length=np at*;obtain⟨X,hX⟩: ∃X,(w.alloc (.cells #[.int .i64 q,.int .i64 pc,.slice a1 n1 c1,.slice a2 n2 c2] 121)).alloc (.cells #[.bool false,.string ⟨#[]⟩,.string ⟨#[]⟩] 91)=X:=⟨_,rfl⟩;have hB:But (fun _=>False) w X:=by rw[←hX];exact(But.alloc _ _ _).trans (But.alloc _ _ _)
 have hb:X.heap[w.heap.size]?=some (.cells #[.int .i64 q,.int .i64 pc,.slice a1 n1 c1,.slice a2 n2 c2] 121):=by rw[←hX];exact((But.alloc (fun _=>False) _ _).block _ (by simp) (fun h=>h)).trans (heap_alloc_new w _)
 have hr:X.heap[w.heap.size+1]?=some (.cells #[.bool false,.string ⟨#[]⟩,.string ⟨#[]⟩] 91):=by rw[←hX];exact aw (by simp) _
 have b0:=cell_of_row X _ 0 _ _ (0,0) hb;have b1:=cell_of_row X _ 1 _ _ (0,0) hb;have r0:=cell_of_row X _ 0 _ _ (0,0) hr;have r1:=cell_of_row X _ 1 _ _ (0,0) hr;have r2:=cell_of_row X _ 2 _ _ (0,0) hr;have z0:=frozen_of_row X _ 0 _ _ hr;have z1:=frozen_of_row X _ 1 _ _ hr;have z2:=frozen_of_row X _ 2 _ _ hr;simp at b0 b1 r0 r1 r2;have a7:=ae hb;have e0:=ae hr;have kx:=hB.kc k1 b4;have tx:=hB.kc t0 a9;have sx:=hB.kc s0 a4;have sy:=hB.kc s1 a4;have sz:=hB.kc s2 a4;have hz:=hB.size;have b3:K.mb<X.heap.size:=by omega
 have b2:gt<X.heap.size:=by omega
 have a5:g2<X.heap.size:=by omega
 have HX:=hid hX;clear hX hb hr hz
 go_in
 go_wp2_with fail;rw[HX.out];clear k1 t0 s0 s1 s2;refine az (But (fun _=>False) X) 12 (by kernel_rfl) ?_;have hS:But (fun _=>False) X X.drew:=But.drew _ _
 iterate 12 (refine aB (v:=?_) rfl (by kernel_rfl) (fun _ _ _ h=>h) rfl hS ?_ ?_;rotate_left;(focus (intro wS h;have q0:=(h.kc kx b3);have q1:=(h.kc b0 a7);have q2:=(h.kc b1 a7);have q3:=(h.kc tx b2);have q4:=(h.kc sx a5);have q5:=(h.kc sy a5);have q6:=(h.kc sz a5);clear h;go_simp;try rfl));dsimp only[Act.put];try simp only[aR])
 refine eF rfl (by kernel_rfl) ?_;go_wp2_with fail;exact bodyPost_ret (v:= .agg #[.bool true,.string ⟨st.toArray⟩,.string ⟨lo.toArray⟩]) (by simp[results,Tryz.results242,go_sem,r0,r1,r2,e0]) rfl ⟨rfl,(hB.next ((But.setB X (w.heap.size+1) 0 (.bool true)).trans ((But.setB _ _ _ _).trans (But.setB _ _ _ _))) (fun k hk e=>by have e:k=w.heap.size+1:=e;omega)).trans (But.drew _ _)⟩
theorem vq (h:DmQ K w0 w val e hv fv fo s ds) (hT:eU w0 base K.tv L) (hp:L[q]?=some p) (hs:p.2[pc]?=some (some (st,lo))) {sv lv:Value} {stk loc:List V} (h1:w.ownsRow w0.heap.size 135 2 sv stk.length (aM stk)) (h2:w.ownsRow w0.heap.size 135 2 lv loc.length (aM loc)) (h4:stk.length≤4000) (h5:loc.length≤4000):
  Calls Tryz.prog 225 #[.pointer (some ⟨K.mb,0,none⟩),.agg #[.int .i64 q,.int .i64 pc,sv,lv]] w fun en w'=>But (fun _=>False) w w'∧ ∃v,en= .returned v∧w'.ownsRow w.heap.size 3 1 v (bY (bX stk st++bX loc lo)).length (dp (bY (bX stk st++bX loc lo))):=by
 obtain⟨a1,c1,rfl⟩:=au h1;obtain⟨a2,c2,rfl⟩:=au h2;have f0:=hid (fun Y (hY:But (fun _=>False) w Y)=>vp (h.new hY) hT hp hs a1 a2 stk.length loc.length c1 c2);obtain⟨zs,e0⟩: ∃zs,stk.zip st=zs:=⟨_,rfl⟩;obtain⟨ys,b9⟩: ∃ys,loc.zip lo=ys:=⟨_,rfl⟩;have hn:zs.length=min stk.length st.length:=by rw[←e0];simp
 have hm:ys.length=min loc.length lo.length:=by rw[←b9];simp
 have HU:Hid (bX stk st=(zs.filter ld).map (·.1)∧bX loc lo=(ys.filter ld).map (·.1)):=by show _∧_;rw[←e0,←b9];exact⟨rfl,rfl⟩
 have HZ:Hid (∀k u y,stk[k]?=some u→st[k]?=some y→zs[k]?=some (u,y)):=fun k u y a b=>by rw[←e0,List.getElem?_zip_eq_some];exact⟨a,b⟩
 have HY:Hid (∀k u y,loc[k]?=some u→lo[k]?=some y→ys[k]?=some (u,y)):=fun k u y a b=>by rw[←b9,List.getElem?_zip_eq_some];exact⟨a,b⟩
 rw[HU.out.1,HU.out.2];obtain⟨RS,e5⟩: ∃RS,bY ((zs.filter ld).map (·.1)++(ys.filter ld).map (·.1))=RS:=⟨_,rfl⟩;rw[e5];have HR:=hid e5;clear e5 HU e0 b9 h hT hp hs
 go_in
 go_wp2_with fail;refine(f0.out _ (But.alloc _ _ _)).mono ?_;rintro en w1 ⟨rfl,e3⟩;have f6:=(e3.block w.heap.size (by simp) (fun h=>h)).trans (heap_alloc_new w _);have g3:But (fun _=>False) w w1:=(But.alloc _ _ _).trans e3;clear f0 e3;go_wp2_with fail;obtain⟨X,hX⟩: ∃X,w1.alloc (.cells #[.bool true,.string ⟨st.toArray⟩,.string ⟨lo.toArray⟩] 91)=X:=⟨_,rfl⟩;have e4:But (fun _=>False) w1 X:=by rw[←hX];exact But.alloc _ _ _
 have b4:X.heap[w1.heap.size]?=some (.cells #[.bool true,.string ⟨st.toArray⟩,.string ⟨lo.toArray⟩] 91):=by rw[←hX];exact heap_alloc_new _ _
 have b3:=e4.kp f6;rw[hX];clear hX f6;have b5:=g3.trans e4;replace h1:=ar h1 b5 (fun _ _ h=>h);replace h2:=ar h2 b5 (fun _ _ h=>h);have h8:=b5.size;have F2:=cell_of_row X _ 2 _ _ (0,0) b3;have F3:=cell_of_row X _ 3 _ _ (0,0) b3;have S1:=cell_of_row X _ 1 _ _ (0,0) b4;have S2:=cell_of_row X _ 2 _ _ (0,0) b4;simp at F2 F3 S1 S2;have f5:=ae b3;have g0:=ae b4;clear b3 b4 g3 e4;generalize h6:w.heap.size=fb at*;generalize w1.heap.size=sb at*
 go_loopg [5,7] zs.length (fun mm vt is wr=> ∃(ao:Option Addr) (cap k:Nat) (t:List V),vt= .slice ao (bY t).length cap∧is= .int .i64 k∧k≤zs.length∧k+mm≤zs.length∧zs.length≤k+mm∧But (fun _=>False) X wr∧wr.ownsRow X.heap.size 3 1 (.slice ao (bY t).length cap) (bY t).length (dp (bY t))∧t.length≤k∧Hid (((zs.take k).filter ld).map (·.1)=t))
 case atStart=>exact⟨none,0,0,[],rfl,rfl,by omega,by omega,by omega,But.refl _ _,cC _ _ _ _,by simp,rfl⟩
 case round=>
  obtain⟨ao,cap,k,t,rfl,rfl,f7,e7,f8,a3,a4,g2,HA⟩:=hrel;clear e7;have f2:=a3.kc F2 f5;have s1:=a3.kc S1 g0;have g4:=a3.size;have e8:=lm t
  by_cases hlt:k<zs.length
  ·have b2:k<stk.length:=by omega
   have a8:k<st.length:=by omega
   have e1:(k:Int)<(stk.length:Int):=by omega
   have e2:(k:Int)<(st.length:Int):=by omega
   obtain⟨u,hu⟩: ∃u,stk[k]?=some u:=⟨_,List.getElem?_eq_getElem b2⟩;obtain⟨y,hy⟩: ∃y,st[k]=y:=⟨_,rfl⟩;have kC: ∀h,(⟨st.toArray⟩:ByteArray)[k]'h=y:=fun h=>by rw[←hy];exact jv st _ a8 _
   have h0:k<(⟨st.toArray⟩:ByteArray).size:=a8;obtain⟨g1,r1,g7,_,a0⟩:=aG (ar h1 a3 (fun _ _ h=>h)) (by omega);subst r1;have q0:wr.cell? ⟨g1,k*2,none⟩=some (.int .u8 u.K):=a0 _ _ (bq (k:=0) hu (by omega));have q1:wr.cell? ⟨g1,k*2+1,none⟩=some (.int .i64 u.N):=a0 _ _ (bq (k:=1) hu (by omega));have a5:=hid (nP (HZ.out k u y hu (by rw[List.getElem?_eq_getElem a8,hy])) HA.out);have h3:=bH ((k:Int)+1) (by omega) (by omega);clear a0 hu hy HA b2 a8
   by_cases hyy:y.toNat=45
   ·have b1:((y.toNat:Int)!=45)=false:=by simp[hyy]
    rw[if_pos hyy]at a5;clear hyy;go_wp2_with fail
    go_roundg (zs.length-(k+1))
    case measure=>omega
    case rel=>exact⟨_,cap,k+1,t,rfl,by simp,by omega,by omega,by omega,a3,a4,by omega,a5⟩
   ·have b1:((y.toNat:Int)!=45)=true:=by rw[bne_iff_ne];omega
    rw[if_neg hyy]at a5;clear hyy
    cases u with
    |o j=>
     simp only[sd,si]at q0 q1;have HO:Hid (bY (t++ [.o j])=bY t++ [j]):=by show _=_;simp[bY]
     go_wp2_with (at_builtin;refine dV rfl _ _ rfl wr X.heap.size (.slice ao (bY t).length cap) (bY t) j rfl wr.heap.size rfl rfl (by exact a4) (by omega) (by omega) ?_);intro gg cap3 w2 a6 b0 e6;have a9:But (fun _=>False) X w2:=a3.next b0 (fun k' hk' h=>by have:=ay a4 k' h;omega);clear b0 e6;go_wp2_with fail
     go_roundg (zs.length-(k+1))
     case measure=>omega
     case rel=>exact⟨some ⟨gg,0,none⟩,cap3,k+1,t++ [.o j],by rw[HO.out,List.length_append];rfl,by simp,by omega,by omega,by omega,a9,by rw[HO.out,List.length_append];exact a6,by simp;omega,a5⟩
    |i n=>
     simp only[li,lj]at q0 q1;have HO:Hid (bY (t++ [.i n])=bY t):=by show _=_;simp[bY]
     go_wp2_with fail
     go_roundg (zs.length-(k+1))
     case measure=>omega
     case rel=>exact⟨_,cap,k+1,t++ [.i n],by rw[HO.out],by simp,by omega,by omega,by omega,a3,by rw[HO.out];exact a4,by simp;omega,a5⟩
    |z=>
     simp only[r9,sc]at q0 q1;have HO:Hid (bY (t++ [.z])=bY t):=by show _=_;simp[bY]
     go_wp2_with fail
     go_roundg (zs.length-(k+1))
     case measure=>omega
     case rel=>exact⟨_,cap,k+1,t++ [.z],by rw[HO.out],by simp,by omega,by omega,by omega,a3,by rw[HO.out];exact a4,by simp;omega,a5⟩
  ·have a7:(zs.filter ld).map (·.1)=t:=by rw[←HA.out,List.take_of_length_le (by omega)]
   have g6:=hid a7;clear a7 HA;have hx: ¬(k:Int)<(stk.length:Int)∨((k:Int)<(stk.length:Int)∧ ¬(k:Int)<(st.length:Int)):=by omega
   have f1:=a3;have f4:=a4;have h7:t.length≤4000:=by omega
   generalize t=t0 at*;generalize cap=cap0 at*;rcases hx with e1| ⟨e1,e2⟩
   all_goals
    go_wp2_with fail
    go_loopg [5,8] ys.length (fun mm vt is wr=> ∃(ao:Option Addr) (cap k:Nat) (t:List V),vt= .slice ao (bY (t0++t)).length cap∧is= .int .i64 k∧k≤ys.length∧k+mm≤ys.length∧ys.length≤k+mm∧But (fun _=>False) X wr∧wr.ownsRow X.heap.size 3 1 (.slice ao (bY (t0++t)).length cap) (bY (t0++t)).length (dp (bY (t0++t)))∧t.length≤k∧Hid (((ys.take k).filter ld).map (·.1)=t))
    case atStart=>exact⟨ao,cap0,0,[],by simp,rfl,by omega,by omega,by omega,f1,by simpa using f4,by simp,rfl⟩
    case round=>
     clear a3 a4 f1 f4 f2 s1 g4 e8 g2 f7 f8 e1;obtain⟨ao,cap,k,t,rfl,rfl,f7,e7,f8,a3,a4,g2,HA⟩:=hrel;clear e7;have f3:=a3.kc F3 f5;have s2:=a3.kc S2 g0;have g4:=a3.size;have e8:=lm (t0++t);rw[List.length_append]at e8
     by_cases hlt:k<ys.length
     ·have b2:k<loc.length:=by omega
      have a8:k<lo.length:=by omega
      have e1:(k:Int)<(loc.length:Int):=by omega
      have e2:(k:Int)<(lo.length:Int):=by omega
      obtain⟨u,hu⟩: ∃u,loc[k]?=some u:=⟨_,List.getElem?_eq_getElem b2⟩;obtain⟨y,hy⟩: ∃y,lo[k]=y:=⟨_,rfl⟩;have kC: ∀h,(⟨lo.toArray⟩:ByteArray)[k]'h=y:=fun h=>by rw[←hy];exact jv lo _ a8 _
      have h0:k<(⟨lo.toArray⟩:ByteArray).size:=a8;obtain⟨g1,r1,g7,_,a0⟩:=aG (ar h2 a3 (fun _ _ h=>h)) (by omega);subst r1;have q0:wr.cell? ⟨g1,k*2,none⟩=some (.int .u8 u.K):=a0 _ _ (bq (k:=0) hu (by omega));have q1:wr.cell? ⟨g1,k*2+1,none⟩=some (.int .i64 u.N):=a0 _ _ (bq (k:=1) hu (by omega));have a5:=hid (nP (HY.out k u y hu (by rw[List.getElem?_eq_getElem a8,hy])) HA.out);have h3:=bH ((k:Int)+1) (by omega) (by omega);clear a0 hu hy HA b2 a8
      by_cases hyy:y.toNat=45
      ·have b1:((y.toNat:Int)!=45)=false:=by simp[hyy]
       rw[if_pos hyy]at a5;clear hyy;go_wp2_with fail
       go_roundg (ys.length-(k+1))
       case measure=>omega
       case rel=>exact⟨_,cap,k+1,t,rfl,by simp,by omega,by omega,by omega,a3,a4,by omega,a5⟩
      ·have b1:((y.toNat:Int)!=45)=true:=by rw[bne_iff_ne];omega
       rw[if_neg hyy]at a5;clear hyy
       cases u with
       |o j=>
        simp only[sd,si]at q0 q1;have HO:Hid (bY (t0++(t++ [.o j]))=bY (t0++t)++ [j]):=by show _=_;simp[bY]
        go_wp2_with (at_builtin;refine dV rfl _ _ rfl wr X.heap.size (.slice ao (bY (t0++t)).length cap) (bY (t0++t)) j rfl wr.heap.size rfl rfl (by exact a4) (by omega) (by omega) ?_);intro gg cap3 w2 a6 b0 e6;have a9:But (fun _=>False) X w2:=a3.next b0 (fun k' hk' h=>by have:=ay a4 k' h;omega);clear b0 e6;go_wp2_with fail
        go_roundg (ys.length-(k+1))
        case measure=>omega
        case rel=>exact⟨some ⟨gg,0,none⟩,cap3,k+1,t++ [.o j],by rw[HO.out,List.length_append];rfl,by simp,by omega,by omega,by omega,a9,by rw[HO.out,List.length_append];exact a6,by simp;omega,a5⟩
       |i n=>
        simp only[li,lj]at q0 q1;have HO:Hid (bY (t0++(t++ [.i n]))=bY (t0++t)):=by show _=_;simp[bY]
        go_wp2_with fail
        go_roundg (ys.length-(k+1))
        case measure=>omega
        case rel=>exact⟨_,cap,k+1,t++ [.i n],by rw[HO.out],by simp,by omega,by omega,by omega,a3,by rw[HO.out];exact a4,by simp;omega,a5⟩
       |z=>
        simp only[r9,sc]at q0 q1;have HO:Hid (bY (t0++(t++ [.z]))=bY (t0++t)):=by show _=_;simp[bY]
        go_wp2_with fail
        go_roundg (ys.length-(k+1))
        case measure=>omega
        case rel=>exact⟨_,cap,k+1,t++ [.z],by rw[HO.out],by simp,by omega,by omega,by omega,a3,by rw[HO.out];exact a4,by simp;omega,a5⟩
     ·have a7:RS=bY (t0++t):=by rw[←HR.out,g6.out,←HA.out,List.take_of_length_le (by omega)]
      have g5:=hid a7;clear a7 HA;have hx: ¬(k:Int)<(loc.length:Int)∨((k:Int)<(loc.length:Int)∧ ¬(k:Int)<(lo.length:Int)):=by omega
      rcases hx with e1| ⟨e1,e2⟩
      all_goals
       go_wp2_with fail;exact cB (.slice ao (bY (t0++t)).length cap) Tryz.results225 rfl rfl ⟨b5.trans a3,_,rfl,by rw[g5.out];exact ft a4 (by omega)⟩
end
def fw (F:List Nat) (j:Nat):List Nat:=if j∈F then F else F++ [j]
theorem vr (L:List Nat): ∀(vs:List V) (G:List Nat),(bY vs).foldl fw (L++G)=L++vs.foldl (jk L) G:=by
 intro vs
 induction vs with
 |nil=>intro G;rfl
 |cons u vs ih=>
  intro G
  cases u with
  |i n=>exact ih G
  |z=>exact ih G
  |o k=>
   show(bY vs).foldl fw (fw (L++G) k)=L++vs.foldl (jk L) (jk L G (.o k))
   unfold fw jk
   by_cases hk:k∈L++G
   ·simp only[if_pos hk];exact ih G
   ·simp only[if_neg hk];rw[List.append_assoc];exact ih (G++ [k])
theorem od (L:List Nat) (vs:List V):(bY vs).foldl fw L=L++iv L vs:=by
 have:=vr L vs [];simpa[iv]using this
theorem qm {l F:List Nat}:(l.foldl fw F).length≤F.length+l.length:=by
 induction l generalizing F with
 |nil=>simp
 |cons j l ih=>
  have h1:(fw F j).length≤F.length+1:=by unfold fw;split<;>simp
  have:=ih (F:=fw F j);simp only[List.foldl_cons,List.length_cons];omega
theorem vu {α β:Type} {f:β→α→β} {l:List α} {k:Nat} {x:α} {b:β} (h:l[k]?=some x):(l.take (k+1)).foldl f b=f ((l.take k).foldl f b) x:=by
 obtain⟨hk,he⟩:=List.getElem?_eq_some_iff.1 h;rw[List.take_succ_eq_append_getElem hk,List.foldl_append,he]
 rfl
def jI (w:World) (g n:Nat) (F:List Nat):Prop:=w.heap[g]?=some (.cells ((List.range n).map (fun j=>Value.bool (decide (j∈F)))).toArray 4)
theorem jI.at {w:World} {g n:Nat} {F:List Nat} (h:jI w g n F) {j:Nat} (hj:j<n):w.cell? ⟨g,j,none⟩=some (.bool (decide (j∈F)))∧w.frozen? ⟨g,j,none⟩=false:=by
 refine⟨?_,frozen_of_row w g j _ _ h⟩;rw[cell_of_row w g j _ _ (0,0) h];simp[hj]
theorem jI.set {w:World} {g n:Nat} {F:List Nat} (h:jI w g n F) {j:Nat} (hj:j<n):jI (w.setCell ⟨g,j,none⟩ (.bool true)) g n (F++ [j]):=by
 unfold jI;rw[heap_setCell_same w g j _ _ (.bool true) h]
 congr 2
 apply Array.ext
 ·simp
 ·intro i h1 h2;simp at h1 h2⊢;rw[List.getElem_set]
  by_cases e:j=i
  ·subst e;simp
  ·simp[e];exact fun e2=>absurd e2.symm e
theorem jI.but {F:Nat→Prop} {w w':World} {g n:Nat} {L:List Nat} (h:jI w g n L) (hb:But F w w') (hf: ¬F g):jI w' g n L:=(hb.block g (ae h) hf).trans h
theorem yC (n:Nat) (hn:n≤5000) (w:World):(Instr.makeSlice 179 (.int .i64 (n:Int)) (.int .i64 (n:Int))).run Tryz.prog w= .ok (.slice (some ⟨w.heap.size,0,none⟩) n n) (w.alloc (.cells (fQ n) 4)):=by
 have a0:=nK
 cases hi:Tryz.prog.info? 4 with
 |none=>rw[hi]at a0;cases a0
 |some i=>
  rw[hi]at a0;simp only[Option.map_some,Option.some.injEq,Prod.mk.injEq]at a0;obtain⟨hz,hs,hb⟩:=a0;have:=run_make (P:=Tryz.prog) w 179 4 i _ (by kernel_rfl) hi hz .i64 .i64 n n (by omega) (by omega) (by rw[hb];omega) (by omega);rw[this,hs];simp only[Int.toNat_natCast,Value.cells,Nat.mul_one];rw[rI]
  rfl
theorem yD (n:Nat):fQ n=((List.range n).map (fun j=>Value.bool (decide (j∈([]:List Nat))))).toArray:=by
 unfold fQ
 congr 1
 rw[List.map_replicate]
 apply List.ext_getElem<;>simp
theorem qn {T:bU} {q pc:Nat} {x:List UInt8×List UInt8} (h:fx T q pc=some x): ∃t,T[q]?=some t∧t[pc]?=some (some x):=by
 cases ht:T[q]? with
 |none=>simp[fx,ht]at h
 |some t=>exact⟨t,rfl,(cm ht).1 h⟩
section
variable {K:Dk} {w0 w w':World} {val e:Int} {hv fv:Value} {fo:List Value} {s:Ev} {ds:List Fd} {base:Nat} {L:List (Nat×List St)} {T:bU}
structure lQ (w wr:World) (gS n:Nat) (ao:Option Addr) (cap:Nat) (F:List Nat):Prop where
 but:But (fun _=>False) w wr
 seen:jI wr gS n F
 row:wr.ownsRow w.heap.size 3 1 (.slice ao F.length cap) F.length (dp F)
 ge:w.heap.size≤gS
theorem lQ.new {wr wr':World} {gS n cap:Nat} {ao:Option Addr} {F:List Nat} (h:lQ w wr gS n ao cap F) (hB:But (fun _=>False) wr wr'):lQ w wr' gS n ao cap F:=
 ⟨h.but.trans hB,h.seen.but hB (fun h=>h),ar h.row hB (fun _ _ h=>h),h.ge⟩
theorem lQ.off {wr:World} {gS n cap:Nat} {ao:Option Addr} {F:List Nat} (h:lQ w wr gS n ao cap F):(Value.slice ao F.length cap).ownBlock≠some gS:=aF h.row h.seen (by decide)
theorem lQ.more {wr w2:World} {gS n cap gg cap3:Nat} {ao:Option Addr} {F:List Nat} {j:Nat} (h:lQ w wr gS n ao cap F) (hj:j<n) (ho:w2.ownsRow w.heap.size 3 1 (.slice (some ⟨gg,0,none⟩) (F++ [j]).length cap3) (F++ [j]).length (dp (F++ [j]))) (hB:But (fun k=>(Value.slice ao F.length cap).ownBlock=some k) (wr.setCell ⟨gS,j,none⟩ (.bool true)) w2):lQ w w2 gS n (some ⟨gg,0,none⟩) cap3 (F++ [j]):=
 ⟨(h.but.next (But.setB wr gS j (.bool true)) (fun k hk e=>by have:=h.ge;omega)).next hB (fun k hk e=>by have:=ay h.row k e;omega),(h.seen.set hj).but hB h.off,ho,h.ge⟩
theorem vv (h:DmQ K w0 w val e hv fv fo s ds) (hT:eU w0 base K.tv L) (hLT:L.map (·.2)=T) (hpc: ∀d∈ds,0≤d.pc) (hfs:va T s.heap.length (ds.map Fd.fm)) (h12:ds.length≤12) (cs:List bB) (hob:jG cs s.heap) (h4:s.heap.length≤4000):
  Calls Tryz.prog 179 #[.pointer (some ⟨K.mb,0,none⟩)] w fun en w'=>en= .returned (.int .i64 (ck s.heap (db T (ds.map Fd.fm))))∧But (fun _=>False) w w':=by
 obtain⟨RS,g3⟩: ∃RS,ck s.heap (db T (ds.map Fd.fm))=RS:=⟨_,rfl⟩;rw[g3];have HR:=hid g3;have HH:=hid h;have i4:=hid hfs;have n1:=hid hpc;have i5:=hid hob;have m5:=hid hLT;obtain⟨_,_,c2,c3,_⟩:=h.mc.cs;have h9:=h.lt;obtain⟨ah,ch,b5⟩:=au h.hp;obtain⟨af,cf,g7⟩:=au h.fr;have p6:=hid b5;have m3:=hid g7;rw[b5]at c2;rw[g7]at c3;have o5:=yC s.heap.length (by omega)
 have h0:lQ w (w.alloc (.cells (fQ s.heap.length) 4)) w.heap.size s.heap.length none 0 []:=
  ⟨But.alloc _ _ _,by unfold jI;rw[heap_alloc_new,yD],cC _ _ _ _,Nat.le_refl _⟩
 clear g3 h hfs hpc hob hLT b5 g7
 go_in
 go_wp2_with fail
 go_loopg [4,5,6,7] ds.length (fun mm vt is v6 v7 wr=> ∃(ao:Option Addr) (cap i:Nat) (F:List Nat),vt= .slice ao F.length cap∧is= .int .i64 i∧i≤ds.length∧i+mm≤ds.length∧ds.length≤i+mm∧F.length≤2000*i∧lQ w wr w.heap.size s.heap.length ao cap F∧Hid (F=(bY ((ds.take i).flatMap fun d=>cK T d.fm)).foldl fw []))
 case atStart=>exact⟨none,0,0,[],rfl,rfl,by omega,by omega,by omega,by simp,h0,rfl⟩
 case round=>
  clear h0 o5;obtain⟨ao,cap,i,F,rfl,rfl,h5,j4,j5,n4,hQ,HF⟩:=hrel;clear j4;have d2:=hQ.but.kc c2 h9;have d3:=hQ.but.kc c3 h9;have e4:K.mb<wr.heap.size:=Nat.lt_of_lt_of_le h9 hQ.but.size
  by_cases hlt:i<ds.length
  ·obtain⟨d,hd⟩: ∃d,ds[i]?=some d:=⟨_,List.getElem?_eq_getElem hlt⟩;have g5:=List.mem_of_getElem? hd;obtain⟨⟨st,lo,i3⟩,l1,l2,l3,l4⟩:=i4.out d.fm (List.mem_map_of_mem g5);obtain⟨t,ht,e7⟩:=qn i3
   obtain⟨p,hp,k9⟩: ∃p,L[d.q]?=some p∧p.2=t:=by
    have:=ht;rw[←m5.out,List.getElem?_map]at this;exact Option.map_eq_some_iff.1 this
   have a7:=HH.out.new hQ.but;have r1:=a7.rw.row (1,i) d.sv d.stk (by simp[b8,hd]);have r2:=a7.rw.row (2,i) d.lv d.loc (by simp[b8,hd]);have b9:=hid (vq a7 hT hp (by rw[k9];exact e7) r1 r2 (Nat.le_trans l1 (by omega)) (Nat.le_trans l2 (by omega)));have m0:cK T d.fm=bX d.stk st++bX d.loc lo:=by unfold cK;rw[i3];rfl
   rw[←m0,show(d.fm.pc:Int)=d.pc from Int.toNat_of_nonneg (n1.out d g5)]at b9;have g6:=a7.fr;rw[m3.out]at g6;obtain⟨gf,rfl,j3,_,a0⟩:=aG g6 (by omega);have q0:wr.cell? ⟨gf,i*4,none⟩=some (.int .i64 d.q):=a0 _ _ (ea (k:=0) hd (by omega));have q1:wr.cell? ⟨gf,i*4+1,none⟩=some (.int .i64 d.pc):=a0 _ _ (ea (k:=1) hd (by omega));have q2:wr.cell? ⟨gf,i*4+2,none⟩=some d.sv:=a0 _ _ (ea (k:=2) hd (by omega));have q3:wr.cell? ⟨gf,i*4+3,none⟩=some d.lv:=a0 _ _ (ea (k:=3) hd (by omega));obtain⟨a1,c1,e1⟩:=au r1;obtain⟨a2,q4,e2⟩:=au r2;rw[e1]at q2 b9;rw[e2]at q3 b9;have f4:Hid (∀j∈bY (cK T d.fm),j<s.heap.length):=fun j hj=>(l4 _ ((xC _ j).1 hj)).lt
   have q7:(bY (cK T d.fm)).length≤2000:=by
    have:=lm (cK T d.fm);have:=nX T d.fm;omega
   have n0:Hid (bY ((ds.take (i+1)).flatMap fun d=>cK T d.fm)=bY ((ds.take i).flatMap fun d=>cK T d.fm)++bY (cK T d.fm)):=by
    show _=_
    obtain⟨hk,he⟩:=List.getElem?_eq_some_iff.1 hd;rw[List.take_succ_eq_append_getElem hk,List.flatMap_append,sl,he];simp
   generalize hl:bY (cK T d.fm)=l at*;have h6:(i:Int)<(ds.length:Int):=by omega
   have p2:=bH ((i:Int)+1) (by omega) (by omega);clear hl m0 a0 g6 r1 r2 a7 hp k9 ht e7 i3 l1 l2 l3 l4 e1 e2 hd g5;go_wp2_with fail;refine b9.out.mono ?_;rintro en w1 ⟨i9,lv,rfl,f5⟩;obtain⟨al,cl,rfl⟩:=au f5;have j1:=hQ.new i9
   have l5: ∀g,(Value.slice ao F.length cap).ownBlock=some g→(Value.slice al l.length cl).ownBlock≠some g:=fun g hg hg'=>by
    have:=aU hQ.row g hg;have:=ay f5 g hg';omega
   clear b9 q0 q1 q2 q3 d2 d3 hQ i9 j3 e4;generalize wr.heap.size=bo at*;clear wr;go_wp2_with fail
   go_loopg [4,7] l.length (fun mm vt is wx=> ∃(ao:Option Addr) (cap k:Nat) (G:List Nat),vt= .slice ao G.length cap∧is= .int .i64 k∧k≤l.length∧k+mm≤l.length∧l.length≤k+mm∧lQ w wx w.heap.size s.heap.length ao cap G∧wx.ownsRow bo 3 1 (.slice al l.length cl) l.length (dp l)∧Hid (∀g,(Value.slice ao G.length cap).ownBlock=some g→(Value.slice al l.length cl).ownBlock≠some g)∧Hid (G=(l.take k).foldl fw F))
   case atStart=>exact⟨ao,cap,0,F,rfl,rfl,by omega,by omega,by omega,j1,f5,l5,rfl⟩
   case round=>
    clear j1 f5 l5;obtain⟨ao,cap,k,G,rfl,rfl,o3,h7,o4,hQ,hO,HS,HG⟩:=hrel;clear h7
    by_cases hkl:k<l.length
    ·obtain⟨j,hj⟩: ∃j,l[k]?=some j:=⟨_,List.getElem?_eq_getElem hkl⟩;have e3:=f4.out j (List.mem_of_getElem? hj);obtain⟨gl,r1,q6,_,a0⟩:=aG hO (by omega);subst r1;have q0:wr.cell? ⟨gl,k,none⟩=some (.int .i64 j):=a0 _ _ (by simp[dp,hj]);obtain⟨s0,z0⟩:=hQ.seen.at e3;have n8:=ae hQ.seen;have o6: ¬w.heap.size=gl:=fun e=>aF hO hQ.seen (by decide) (by rw[e];rfl)
     have p0: ¬gl=w.heap.size:=fun e=>o6 e.symm
     have a8:Hid ((l.take (k+1)).foldl fw F=fw G j):=by show _=_;rw[vu hj,HG.out]
     have j0:G.length≤F.length+k:=by
      rw[HG.out];have:=qm (l:=l.take k) (F:=F);rw[List.length_take]at this;omega
     have h8:(k:Int)<(l.length:Int):=by omega
     have k0:(j:Int)<(s.heap.length:Int):=by omega
     have p3:=bH ((k:Int)+1) (by omega) (by omega);have p5:=hQ.but.size;clear a0 hj HG
     by_cases hin:j∈G
     ·simp only[hin,decide_true]at s0;have a4:Hid (G=(l.take (k+1)).foldl fw F):=by show _=_;rw[a8.out,fw,if_pos hin]
      clear a8 hin;go_wp2_with fail
      go_roundg (l.length-(k+1))
      case measure=>omega
      case rel=>exact⟨ao,cap,k+1,G,rfl,by simp,by omega,by omega,by omega,hQ,hO,HS,a4⟩
     ·simp only[hin,decide_false]at s0;have a4:Hid (G++ [j]=(l.take (k+1)).foldl fw F):=by show _=_;rw[a8.out,fw,if_neg hin]
      have e8:=ar hQ.row (But.setB wr w.heap.size j (.bool true)) (fun g hg e=>hQ.off (e▸hg));have g0:=ar hO (But.setB wr w.heap.size j (.bool true)) (fun g hg e=>aF hO hQ.seen (by decide) (e▸hg));clear a8 hin;go_wp2_with (at_builtin;refine dV rfl _ _ rfl (wr.setCell ⟨w.heap.size,j,none⟩ (.bool true)) w.heap.size (.slice ao G.length cap) G j rfl wr.heap.size (by simp) rfl (by exact e8) (by omega) (by simp;omega) ?_);intro gg cap3 w2 a3 b4 b0;have g1:=hQ.more (gg:=gg) (cap3:=cap3) e3 (by rw[List.length_append];exact a3) b4;have n5:=ar g0 b4 (fun g hg e=>HS.out g e hg)
      have n3:Hid (∀g,(Value.slice (some ⟨gg,0,none⟩) (G++ [j]).length cap3).ownBlock=some g→(Value.slice (some ⟨gl,0,none⟩) l.length cl).ownBlock≠some g):=fun g hg=>by
       simp only[Value.ownBlock,Option.some.injEq]at hg;subst hg;rcases b0 with b0|b0
       ·exact HS.out _ b0
       ·intro e;have:=aU g0 _ e;simp only[bf]at this b0;omega
      clear b4 b0 a3 hQ hO g0 e8;go_wp2_with fail
      go_roundg (l.length-(k+1))
      case measure=>omega
      case rel=>exact⟨some ⟨gg,0,none⟩,cap3,k+1,G++ [j],by rw[List.length_append];rfl,by simp,by omega,by omega,by omega,g1,n5,n3,a4⟩
    ·have h8: ¬(k:Int)<(l.length:Int):=by omega
     have hG:G=(bY ((ds.take (i+1)).flatMap fun d=>cK T d.fm)).foldl fw []:=by
      rw[HG.out,n0.out,List.foldl_append,←HF.out,List.take_of_length_le (by omega)]
     have b3:=hid hG
     have j0:G.length≤F.length+l.length:=by
      rw[HG.out,List.take_of_length_le (by omega)];exact qm
     clear hG HG HS hO;go_wp2_with fail
     go_roundg (ds.length-(i+1))
     case measure=>omega
     case rel=>exact⟨ao,cap,i+1,G,rfl,by simp,by omega,by omega,by omega,by omega,hQ,b3⟩
  ·have j7:ds.take i=ds:=List.take_of_length_le (by omega);have hF:=HF.out;rw[j7,od,List.nil_append]at hF
   have f4:Hid (∀u∈ds.flatMap (fun d=>cK T d.fm),ie s.heap.length u):=fun u hu=>by
    obtain⟨d,hd,hu⟩:=List.mem_flatMap.1 hu;exact(i4.out d.fm (List.mem_map_of_mem hd)).2.2.2.2 u hu
   have l0:ck s.heap (fun k=>V.o k∈ds.flatMap (fun d=>cK T d.fm))=ck s.heap (db T (ds.map Fd.fm)):=gu (fun k=>by
    simp only[db,List.mem_flatMap,List.mem_map];exact⟨fun⟨d,hd,hk⟩=>⟨_,⟨d,hd,rfl⟩,hk⟩,fun⟨f,⟨d,hd,e⟩,hk⟩=>⟨d,hd,by rw[e];exact hk⟩⟩)
   have f6:=hid (kw f4.out);rw[←hF]at f6;have n2:=hid (l0.trans HR.out);generalize ds.flatMap (fun d=>cK T d.fm)=VS at*;have h6: ¬(i:Int)<(ds.length:Int):=by omega
   clear hF HF f4 j7 l0 HR h5 j5 n4;go_wp2_with fail
   go_loopg [4,8,9,10,11,12] s.heap.length (fun mm vt nv is v10 v11 v12 wx=> ∃(ao:Option Addr) (cap i:Nat) (F:List Nat),vt= .slice ao F.length cap∧nv= .int .i64 ((F.take i).map (eK s.heap)).sum∧is= .int .i64 i∧i≤F.length∧i+mm≤s.heap.length∧s.heap.length≤i+mm∧lQ w wx w.heap.size s.heap.length ao cap F∧Hid (qa s.heap VS i F))
   case atStart=>exact⟨ao,cap,0,F,rfl,by simp,rfl,by omega,by omega,by omega,hQ,f6⟩
   case round=>
    clear hQ f6 d2 d3 e4;obtain⟨ao,cap,i,F,rfl,rfl,rfl,h5,j4,j5,hQ,HK⟩:=hrel;have q5:=iF HK.out;have b2:=qj (eK s.heap) 101 (nU i5.out) (F.take i);have m2:(F.take i).length=i:=by rw[List.length_take];omega
    by_cases hlt:i<F.length
    ·obtain⟨j,hj⟩: ∃j,F[i]?=some j:=⟨_,List.getElem?_eq_getElem hlt⟩;have o2:=HK.out.lt j (List.mem_of_getElem? hj);obtain⟨o,ho⟩: ∃o,s.heap[j]?=some o:=⟨_,List.getElem?_eq_getElem o2⟩;have a7:=HH.out.new hQ.but;obtain⟨gh,chh,vf,b5,n7,h3,x0,x1,a5⟩:=a7.obj ho;obtain⟨_,q9,k3⟩:=i5.out o (List.mem_of_getElem? ho);have d2:=a7.mc.cs.2.2.1;rw[b5]at d2;have e4:=a7.lt;have j2:eK s.heap j=1+o.fs.length:=by unfold eK;rw[ho];rfl
     have i7:Hid (∀G,((((F++G).take (i+1)).map (eK s.heap)).sum=((F.take i).map (eK s.heap)).sum+(1+o.fs.length))):=fun G=>by
      rw[List.take_append_of_le_length (by omega),List.take_succ_eq_append_getElem hlt,List.map_append,List.sum_append];have:F[i]=j:=(List.getElem?_eq_some_iff.1 hj).2;rw[this,List.map_cons,List.map_nil,List.sum_cons,List.sum_nil,j2];omega
     have f3:=hid (lN HK.out hj ho k3);rw[←od]at f3;obtain⟨SM,g4⟩: ∃SM,((F.take i).map (eK s.heap)).sum=SM:=⟨_,rfl⟩;rw[g4]at b2 i7;rw[g4];rw[m2]at b2;clear g4 j2;obtain⟨aq,cq,e1⟩:=au a5;rw[e1]at x1 a5;obtain⟨gt,r1,m1,_,a0⟩:=aG hQ.row (by omega);subst r1;have q0:wr.cell? ⟨gt,i,none⟩=some (.int .i64 j):=a0 _ _ (by simp[dp,hj]);have h6:(i:Int)<(F.length:Int):=by omega
     have k0:(j:Int)<(s.heap.length:Int):=by omega
     have r3:=bH ((SM:Int)+1) (by omega) (by omega);have p4:=bH ((SM:Int)+1+(o.fs.length:Int)) (by omega) (by omega);have p2:=bH ((i:Int)+1) (by omega) (by omega);have HQ:=hid hQ;have i6:=hid a5;have r4:=hQ.but.size;clear a0 hj a7 b5 n7 b2 m2 HK hQ a5 e1 ho;generalize q8:s.heap.length=nh at*;go_wp2_with fail;refine az (But (fun _=>False) wr) 11 (by kernel_rfl) ?_;have hS:But (fun _=>False) wr wr.drew:=But.drew _ _
     iterate 10 (refine aB (v:=?_) rfl (by kernel_rfl) (fun _ _ _ h=>h) rfl hS ?_ ?_;rotate_left;(focus (intro wS h;have Q0:=(h.kc d2 e4);have Q1:=(h.kc q0 m1);have Q2:=(h.kc x0 h3);have Q3:=(h.kc x1 h3);clear h;go_simp;try rfl));dsimp only[Act.put];try simp only[aR])
     refine ag rfl (by kernel_rfl) ?_;intro KS hKS;go_simp;refine hKS.out _ _ (fun _=>(But.alloc _ _ _).trans (But.drew _ _)) ?_;clear hKS KS;refine ag rfl (by kernel_rfl) ?_;intro KS hKS;go_simp;refine hKS.out _ _ nofun ?_;clear hKS KS;refine aD rfl (by kernel_rfl) ?_;obtain⟨X,hX⟩: ∃X,(wr.alloc (.cells #[.int .i64 o.cls,.slice aq o.fs.length cq] 265)).drew=X:=⟨_,rfl⟩;have f7:But (fun _=>False) wr X:=by rw[←hX];exact(But.alloc _ _ _).trans (But.drew _ _)
     have e5:X.heap[wr.heap.size]?=some (.cells #[.int .i64 o.cls,.slice aq o.fs.length cq] 265):=by
      rw[←hX];exact((But.drew (fun _=>False) _).block _ (by simp) (fun h=>h)).trans (heap_alloc_new wr _)
     rw[hX];have g2:=HQ.out.new f7;have e6:=ar i6.out f7 (fun _ _ h=>h);clear hX f7 hS d2 q0 x0 x1 m1 h3 e4 HQ i6 hlt h5;generalize n6:wr.heap.size=bo at*;have i0:=ae e5;have k1:=cell_of_row X _ 1 _ _ (0,0) e5;simp at k1;have n9: ¬w.heap.size=bo:=fun e=>cr g2.seen e5 (by decide) e
     clear n6;clear wr;go_wp2_with fail
     go_loopg [4,11,12] o.fs.length (fun mm vt is v12 wx=> ∃(ao:Option Addr) (cap k:Nat) (G:List Nat),vt= .slice ao G.length cap∧is= .int .i64 k∧k≤o.fs.length∧k+mm≤o.fs.length∧o.fs.length≤k+mm∧lQ w wx w.heap.size nh ao cap G∧wx.heap[bo]?=some (.cells #[.int .i64 o.cls,.slice aq o.fs.length cq] 265)∧wx.ownsRow w0.heap.size 135 2 (.slice aq o.fs.length cq) o.fs.length (aM o.fs)∧Hid (G=(bY (o.fs.take k)).foldl fw F))
     case atStart=>exact⟨_,cap,0,F,rfl,rfl,by omega,by omega,by omega,g2,e5,e6,rfl⟩
     case round=>
      clear g2 e5 e6 k1 i0;obtain⟨ao,cap,k,G,rfl,rfl,o3,h7,o4,hQ,b1,a5,HG⟩:=hrel;clear h7;have o1:=cell_of_row wr _ 1 _ _ (0,0) b1;simp at o1;have a6:=ae b1
      have j0:G.length≤F.length+k:=by
       rw[HG.out];have h1:=qm (l:=bY (o.fs.take k)) (F:=F);have h2:=lm (o.fs.take k);rw[List.length_take]at h2;omega
      by_cases hkl:k<o.fs.length
      ·obtain⟨u,hu⟩: ∃u,o.fs[k]?=some u:=⟨_,List.getElem?_eq_getElem hkl⟩;have p1:=k3 u (List.mem_of_getElem? hu);obtain⟨gf,r1,j3,_,a0⟩:=aG a5 (by omega);subst r1;have f0:wr.cell? ⟨gf,k*2,none⟩=some (.int .u8 u.K):=a0 _ _ (bq (k:=0) hu (by omega));have f1:wr.cell? ⟨gf,k*2+1,none⟩=some (.int .i64 u.N):=a0 _ _ (bq (k:=1) hu (by omega));have h8:(k:Int)<(o.fs.length:Int):=by omega
       have p3:=bH ((k:Int)+1) (by omega) (by omega)
       have e0:Hid (bY (o.fs.take (k+1))=bY (o.fs.take k)++bY [u]):=by
        show _=_
        obtain⟨hk,he⟩:=List.getElem?_eq_some_iff.1 hu;rw[List.take_succ_eq_append_getElem hk,sl,he]
       clear a0 hu
       have skip:bY [u]=[]→Hid (G=(bY (o.fs.take (k+1))).foldl fw F):=fun he=>by
        show _=_
        rw[e0.out,he,List.append_nil];exact HG.out
       cases u with
       |i n=>
        have b3:=skip rfl;simp only[li,lj]at f0 f1;clear skip e0 HG;go_wp2_with fail
        go_roundg (o.fs.length-(k+1))
        case measure=>omega
        case rel=>exact⟨ao,cap,k+1,G,rfl,by simp,by omega,by omega,by omega,hQ.new (But.alloc _ _ _),((But.alloc (fun _=>False) _ _).block _ a6 (fun h=>h)).trans b1,ar a5 (But.alloc (fun _=>False) _ _) (fun _ _ h=>h),b3⟩
       |z=>
        have b3:=skip rfl;simp only[r9,sc]at f0 f1;clear skip e0 HG;go_wp2_with fail
        go_roundg (o.fs.length-(k+1))
        case measure=>omega
        case rel=>exact⟨ao,cap,k+1,G,rfl,by simp,by omega,by omega,by omega,hQ.new (But.alloc _ _ _),((But.alloc (fun _=>False) _ _).block _ a6 (fun h=>h)).trans b1,ar a5 (But.alloc (fun _=>False) _ _) (fun _ _ h=>h),b3⟩
       |o jj=>
        have e3:=p1.lt
        have a8:Hid ((bY (o.fs.take (k+1))).foldl fw F=fw G jj):=by
         show _=_
         rw[e0.out,List.foldl_append,←HG.out]
         rfl
        simp only[sd,si]at f0 f1;obtain⟨s0,z0⟩:=hQ.seen.at e3;have n8:=ae hQ.seen;have k0:(jj:Int)<(nh:Int):=by omega
        have p5:=hQ.but.size;clear skip e0 HG
        by_cases hin:jj∈G
        ·simp only[hin,decide_true]at s0;have a4:Hid (G=(bY (o.fs.take (k+1))).foldl fw F):=by show _=_;rw[a8.out,fw,if_pos hin]
         clear a8 hin;go_wp2_with fail
         go_roundg (o.fs.length-(k+1))
         case measure=>omega
         case rel=>exact⟨ao,cap,k+1,G,rfl,by simp,by omega,by omega,by omega,hQ.new (But.alloc _ _ _),((But.alloc (fun _=>False) _ _).block _ a6 (fun h=>h)).trans b1,ar a5 (But.alloc (fun _=>False) _ _) (fun _ _ h=>h),a4⟩
        ·simp only[hin,decide_false]at s0;have a4:Hid (G++ [jj]=(bY (o.fs.take (k+1))).foldl fw F):=by show _=_;rw[a8.out,fw,if_neg hin]
         have e8:=ar (ar hQ.row (But.setB wr w.heap.size jj (.bool true)) (fun g hg e=>hQ.off (e▸hg))) (But.alloc (fun _=>False) _ (.cells #[.int .u8 111,.int .i64 jj] 135)) (fun _ _ h=>h);clear a8 hin;go_wp2_with (at_builtin;refine dV rfl _ _ rfl ((wr.setCell ⟨w.heap.size,jj,none⟩ (.bool true)).alloc (.cells #[.int .u8 111,.int .i64 jj] 135)) w.heap.size (.slice ao G.length cap) G jj rfl (wr.heap.size+1) (by simp) rfl (by exact e8) (by omega) (by simp;omega) ?_);intro gg cap3 w2 a3 b4 b0;have a9:But (fun k=>(Value.slice ao G.length cap).ownBlock=some k) (wr.setCell ⟨w.heap.size,jj,none⟩ (.bool true)) w2:=(But.alloc _ _ _).trans b4
         have g1:=hQ.more (gg:=gg) (cap3:=cap3) e3 (by rw[List.length_append];exact a3) a9;have i2:=(a9.block bo (by rw[bf];exact a6) (aF hQ.row b1 (by decide))).trans (((But.setB wr w.heap.size jj (.bool true)).block bo a6 (fun e=>n9 e.symm)).trans b1);have i1:=ar (ar a5 (But.setB wr w.heap.size jj (.bool true)) (fun g hg e=>aF a5 hQ.seen (by decide) (e▸hg))) a9 (fun g hg e=>dI a5 hQ.row (by decide) hg e);clear b4 a9 b0 a3 hQ b1 a5 e8;go_wp2_with fail
         go_roundg (o.fs.length-(k+1))
         case measure=>omega
         case rel=>exact⟨some ⟨gg,0,none⟩,cap3,k+1,G++ [jj],by rw[List.length_append];rfl,by simp,by omega,by omega,by omega,g1,i2,i1,a4⟩
      ·have h8: ¬(k:Int)<(o.fs.length:Int):=by omega
       have hG:G=(bY o.fs).foldl fw F:=by rw[HG.out,List.take_of_length_le (by omega)]
       have b3:=hid hG;have f8:G=F++iv F o.fs:=by rw[hG,od]
       have m4:=hid f8;rw[←hG]at f3;have o0:i+1≤G.length:=by rw[f8,List.length_append];omega
       have r0:=iF f3.out;clear hG HG f8;go_wp2_with fail
       go_roundg (nh-(i+1))
       case measure=>omega
       case rel=>exact⟨ao,cap,i+1,G,rfl,by rw[m4.out,i7.out];simp[Int.add_assoc],by simp,o0,by omega,by omega,hQ,f3⟩
    ·have h6: ¬(i:Int)<(F.length:Int):=by omega
     have f2:((F.take i).map (eK s.heap)).sum=RS:=by rw[←n2.out,nE HK.out (by omega),List.take_of_length_le (by omega)]
     rw[f2];clear f2;go_wp2_with fail;go_ret;exact⟨rfl,hQ.but⟩
end
end
end Go.Proofs.YtpfkkmacakjmbaaGreatDoor
