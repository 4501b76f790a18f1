import Derived.Test.YtpfkkmacakjmbaaGreatDoorP30
import Derived.Test.YtpfkkmacakjmbaaGreatDoorP28
set_option maxRecDepth 100000
set_option maxHeartbeats 6400000
set_option linter.all false
namespace Go.Proofs.YtpfkkmacakjmbaaGreatDoor
open Proofs.Tryz
section
open Go Go.RowKit Sp
attribute [local go_sem ↓] eY eZ
section
variable {K:Dk} {w0 w w':World} {hv:Value} {fo:List Value} {s:Ev} {ds:List Fd} {d c:Fd} {g cap:Nat}
theorem DO {m:Int} (h:DmQ K w0 w 0 12 hv (.slice (some ⟨g,0,none⟩) 1 cap) fo s [d]) (hcap:1<=cap) (h4:d.zv.length<=4000) (hl:1<=d.zv.length) (hm:bT d.zv= .i m):
  Calls prog 112 #[.pointer (some ⟨K.mb,0,none⟩),.pointer (some ⟨g,0,none⟩)] w λen w'=>en= .returned (.tuple #[])/\ ∃hv fv fo,DmQ K w0 w' m 0 hv fv fo s []:=by
 have f:=hid (iq (ds:=[]) h hl h4);obtain⟨r,_,t,_,_,c2,_,_⟩:=DmQ.cs (ds:=[]) h;obtain⟨a,c,e⟩:=ay (DmQ.st (ds:=[]) h);rw[e]at c2;have hn:=tf d.zv.length 0 (by omega);rw[hm]at f;clear h e hl hm;simp only[cW,oC,oD,List.length_nil,Nat.zero_mul,Nat.zero_add,List.nil_append]at f c2
 go_in
 go_wp2_with fail;refine f.out.mono ?_;rintro en w1 ⟨rfl,k,sv,b⟩;obtain⟨_,_,_,c3,_,_,_,_,x,y⟩:=b.mc.cs;have z:=b.mc.fz 3;have A:=b.mc.fz 8;have B:=b.mc.fz 9;have v:=b.lt;have n:=hid (DmQ.drop (ds:=[]) b);clear f k b;have q:(1:Int)<=(cap:Int):=by omega
 go_wp2_with fail;go_end0;have j:=n.out;simp only[List.length_nil]at j;have l:=j.own (val':=0) (e':=0) (s':=s) (aj _ K.mb 9 (.int .i64 0)) rfl (j.mc.set9 0);have p:=l.own (val':=m) (e':=0) (s':=s) (aj _ K.mb 8 (.int .i64 m)) rfl (l.mc.set8 m);exact⟨rfl,_,_,_,p.new (aa _ _ _)⟩
theorem EN (h:DmQ K w0 w 0 12 hv (.slice (some ⟨g,0,none⟩) (ds.length+1+1) cap) fo s ((ds++ [c])++ [d])) (hcap:ds.length+1+1<=cap) (h4:d.zv.length<=4000) (hl:1<=d.zv.length) (hc4:c.zv.length<=4000) (hd:ds.length<=100) (hpc:0<=c.pc/\c.pc<=100):
  Calls prog 112 #[.pointer (some ⟨K.mb,0,none⟩),.pointer (some ⟨g,(ds.length+1)*4,none⟩)] w λen w'=>en= .returned (.tuple #[])/\ ∃fv sv lv,DmQ K w0 w' 0 12 hv fv fo s (ds++ [⟨c.q,c.pc+1,c.zv++ [bT d.zv],c.loc,sv,lv⟩]):=by
 have e:(ds++ [c]).length=ds.length+1:=by simp
 have h':=h;rw[<-e]at h';have hp:=iq h' hl h4;obtain⟨p,_,t,_,_,c2,_,_⟩:=h'.cs;obtain⟨a,c',i⟩:=ay h'.st;rw[e]at hp c2;rw[i]at c2;have k:=hid hp;have hn:=tf d.zv.length 0 (by omega);generalize bT d.zv=v at*;clear h h' hp i hl;simp only[cW]at k
 go_in
 go_wp2_with fail;refine k.out.mono ?_;rintro en w1 ⟨rfl,l,sv,b⟩;obtain⟨_,_,_,c3,_,_,_,_,_,_⟩:=b.mc.cs;have z:=b.mc.fz 3;have x:=b.lt;rw[<-e]at b;have f:=b.drop;rw[e]at f;have m:=hid f;have n:(ds.length:Int)+1<=(cap:Int):=by omega
 clear k l b f;go_wp2_with fail;refine(dW (m.out.new (aa (λ_=>False) _ (.cells #[.int .u8 v.K,.int .i64 v.N] 135))) v hc4).mono ?_;rintro en B ⟨rfl,sv',b⟩;obtain⟨r,_,_,_,c1,_,_,fz⟩:=b.cs;have A:=fz (ds.length*4+1);have j:=hid (b.pc (c.pc+1));have y:=dc (c.pc+1) (by omega) (by omega);clear m fz b c2 c3 z;simp only at c1;go_wp2_with fail;go_end0;exact⟨rfl,_,_,_,j.out⟩
end
theorem dtF {x k:Nat} (h:x≠k):((x:Int)==(k:Int))=false:=by rw[eu];omega
def wy (K:Dk) (w0:World) (g cap:Nat) (ds:List Fd) (R:World->Prop) (w':World):Prop:=
 ∃q s pc zv loc e hv fo sv lv,-1<=pc/\pc<=200/\DmQ K w0 w' 0 e hv (.slice (some ⟨g,0,none⟩) (ds.length+1) cap) fo s (ds++ [⟨q,pc,zv,loc,sv,lv⟩])/\
  ∀w'',DmQ K w0 w'' 0 e hv (.slice (some ⟨g,0,none⟩) (ds.length+1) cap) fo s (ds++ [⟨q,pc+1,zv,loc,sv,lv⟩])->R w''
section
variable {K:Dk} {w0 w w':World} {hv:Value} {fo:List Value} {s:Ev} {ds:List Fd} {d:Fd} {g cap:Nat} {x:Ins} {im:Img} {b:Bod}
theorem AD (h:DmQ K w0 w 0 12 hv (.slice (some ⟨g,0,none⟩) (ds.length+1) cap) fo s (ds++ [d])) (h4:d.zv.length<=4000) (h12:ds.length<=100) (hI:cH w0 K.bi im) (hw:WfI im) (hbd:im.zj[d.q]?=some b) (hpc:0<=d.pc) (hx:b.code[d.pc.toNat]?=some x) (htag:mQ (br im x) d.zv) (R:World->Prop)
  (hK:(x.op.toNat=99/\ ∀Y,B_ w Y->Calls prog 111 #[.pointer (some ⟨K.mb,0,none⟩),.pointer (some ⟨g,ds.length*4,none⟩),bk x] Y λen w'=>en= .returned (.tuple #[])/\R w')\/
   (x.op.toNat=116/\ ∀Y,B_ w Y->Calls prog 112 #[.pointer (some ⟨K.mb,0,none⟩),.pointer (some ⟨g,ds.length*4,none⟩)] Y λen w'=>en= .returned (.tuple #[])/\R w')\/
   ((x.op.toNat=108\/x.op.toNat=115\/x.op.toNat=100\/x.op.toNat=106)/\ ∀Y,B_ w Y->Calls prog 113 #[.pointer (some ⟨K.mb,0,none⟩),.pointer (some ⟨g,ds.length*4,none⟩),bk x] Y λen w'=>en= .returned (.tuple #[])/\wy K w0 g cap ds R w')\/
   ((x.op.toNat=110\/x.op.toNat=122\/x.op.toNat=103\/x.op.toNat=112\/x.op.toNat=120)/\ ∀Y,B_ w Y->Calls prog 114 #[.pointer (some ⟨K.mb,0,none⟩),.pointer (some ⟨g,ds.length*4,none⟩),bk x] Y λen w'=>en= .returned (.tuple #[])/\wy K w0 g cap ds R w')\/
   ((x.op.toNat≠99/\x.op.toNat≠116/\x.op.toNat≠108/\x.op.toNat≠115/\x.op.toNat≠100/\x.op.toNat≠106/\x.op.toNat≠110/\x.op.toNat≠122/\x.op.toNat≠103/\x.op.toNat≠112/\x.op.toNat≠120)/\ ∀Y,B_ w Y->Calls prog 115 #[.pointer (some ⟨K.mb,0,none⟩),.pointer (some ⟨g,ds.length*4,none⟩),bk x] Y λen w'=>en= .returned (.tuple #[])/\wy K w0 g cap ds R w')):
  Calls prog 67 #[.pointer (some ⟨K.mb,0,none⟩)] w λen w'=>en= .returned (.tuple #[])/\R w':=by
 have L:=hw.bod b (bn hbd);have M:=L.code x (bn hx);have Z:=hid (λY (hY:B_ w Y)=>AC (h.new hY) hI M);have a5:(br im x).length<=2:=by unfold br;(repeat' split)<;>simp
 have F:=hid (λY (hY:B_ w Y)=>xX (h.new hY) h4 _ htag a5);generalize br im x=ts at*;obtain⟨c0,_,_,c3,_⟩:=h.mc.cs;have a4:=h.lt;obtain⟨H,_,_,q0,S,_,_,_⟩:=h.cs;obtain⟨gb,cb,ak,capk,e2,a0,a3,a1,G,_,_,_,f3,_⟩:=(hI.but h.old).body hbd;have B:=(bc hx).1;obtain⟨gc,rfl,t,_,c⟩:=aE G (by omega);obtain⟨p,hp⟩: ∃p:Nat,d.pc=p:=⟨d.pc.toNat,by omega⟩;rw[hp]at S hx B;rw[jZ]at hx B;have i0:w.cell? ⟨gc,p*4,none⟩=some (.int .u8 x.op.toNat):=c _ _ (eO (k:=0) hx (by omega));have i1:w.cell? ⟨gc,p*4+1,none⟩=some (.int .i64 x.a):=c _ _ (eO (k:=1) hx (by omega));have i2:w.cell? ⟨gc,p*4+2,none⟩=some (.int .i64 x.b):=c _ _ (eO (k:=2) hx (by omega))
 have i3:w.cell? ⟨gc,p*4+3,none⟩=some (.int .i64 x.pos):=c _ _ (eO (k:=3) hx (by omega));have b1: ¬(p:Int)<0:=by omega
 have b2: ¬(b.code.length:Int)<=(p:Int):=by omega
 have b3:(p:Int)<(b.code.length:Int):=by omega
 have C:=hid hK;clear hK h hI hw hbd hpc hx htag L M G c hp B;generalize b.code.length=nc at*;generalize im.zj.length=nb at*;unfold bk at C Z
 go_in
 go_wp2_with fail
 go_quiet (fail)
 generalize nq=O;go_wp2_with fail
 go_quiet (fail)
 have i:B_ w ((w.drewN O).drewN nq):=(aH _ _ _).trans (aH _ _ _);revert i;generalize (w.drewN O).drewN nq=X;intro i;replace i0:=i.kc i0 t;replace i1:=i.kc i1 t;replace i2:=i.kc i2 t;replace i3:=i.kc i3 t;replace S:=i.kc S H;have hz:=i.size;replace t:gc<X.heap.size:=by omega
 replace H:g<X.heap.size:=by omega
 clear hz c0 c3 q0 e2 f3 a4 a3 a1 a0;generalize I:ds.length*4=o at*;have E:=hid I;clear I;go_wp2_with fail;have z:=i.trans (aa (λ_=>False) X (.cells #[.int .u8 x.op.toNat,.int .i64 x.a,.int .i64 x.b,.int .i64 x.pos] 144));refine(Z.out _ z).mono ?_;rintro en w1 ⟨rfl,y⟩;have l:=(y.block X.heap.size (by simp) (λh=>h)).trans (aO X _);have r:=z.trans y;clear Z z y i i0 i1 i2 i3 S;have D:=cz w1 _ 0 _ _ (0,0) l;have k1:=cz w1 _ 1 _ _ (0,0) l;have k2:=cz w1 _ 2 _ _ (0,0) l;have k3:=cz w1 _ 3 _ _ (0,0) l;simp at D k1 k2 k3;have b0:=ae l;clear l;go_wp2_with fail;refine(F.out _ r).mono ?_;rintro en w2 ⟨rfl,J⟩
 rw[J];clear J w2 F;obtain⟨j,m⟩ | ⟨j,m⟩ | ⟨j|j|j|j,m⟩ | ⟨j|j|j|j|j,m⟩ | ⟨⟨O,n2,n3,n4,n5,n6,n7,n8,n9,P,Q⟩,m⟩:=C.out
 .have n:=hid (m w1 r);rw[j]at D n;clear C m j;go_wp2_with fail;refine n.out.mono ?_;rintro en w3 ⟨rfl,v⟩;go_wp2_with fail;exact fY results67 rfl ⟨rfl,v⟩
 .have n:=hid (m w1 r);rw[j]at D;clear C m j;go_wp2_with fail;refine n.out.mono ?_;rintro en w3 ⟨rfl,v⟩;go_wp2_with fail;exact fY results67 rfl ⟨rfl,v⟩
 rotate_left 9
 .have n:=hid (m w1 r);clear C m;replace O:=dtF O;replace n2:=dtF n2;replace n3:=dtF n3;replace n4:=dtF n4;replace n5:=dtF n5;replace n6:=dtF n6;replace n7:=dtF n7;replace n8:=dtF n8;replace n9:=dtF n9;replace P:=dtF P;replace Q:=dtF Q;go_wp2_with fail;refine n.out.mono ?_;rintro en w3 ⟨rfl,q,s',pc,zv,loc,e,hv',fo',sv,lv,p1,p2,A,v⟩;obtain⟨a2,_,_,_,c1,_,_,fz⟩:=A.cs;have f:=A.pc (pc+1);rw[E.out]at c1 f;have f1:=fz (o+1);have T:=hid (v _ f);have a6:=dc (pc+1) (by omega) (by omega);simp only at c1;clear n A v f fz D k1 k2 k3;go_wp2_with fail;go_end0;exact⟨rfl,T.out⟩
 all_goals
  have n:=hid (m w1 r);rw[j]at D n;clear C m j;go_wp2_with fail;refine n.out.mono ?_;rintro en w3 ⟨rfl,q,s',pc,zv,loc,e,hv',fo',sv,lv,p1,p2,A,v⟩;obtain⟨a2,_,_,_,c1,_,_,fz⟩:=A.cs;have f:=A.pc (pc+1);rw[E.out]at c1 f;have f1:=fz (o+1);have T:=hid (v _ f);have a6:=dc (pc+1) (by omega) (by omega);simp only at c1;clear n A v f fz D k1 k2 k3;go_wp2_with fail;go_end0;exact⟨rfl,T.out⟩
end
section
variable {K:Dk} {w0 w w':World} {hv:Value} {fo:List Value} {s:Ev} {ds:List Fd} {d:Fd} {g cap:Nat} {x:Ins} {im:Img}
theorem EO (h:DmQ K w0 w 0 12 hv (.slice (some ⟨g,0,none⟩) (ds.length+1) cap) fo s (ds++ [d])) (h4:d.zv.length<=4000) (hl:1<=d.zv.length) (hv':bT d.zv= .z) (ho:x.op.toNat=103):
  Calls prog 114 #[.pointer (some ⟨K.mb,0,none⟩),.pointer (some ⟨g,ds.length*4,none⟩),bk x] w λen w'=>en= .returned (.tuple #[])/\kD K w0 g cap ds d.q s d.pc (cG d.zv) d.loc 6 w':=by
 have j:=hid (λY (hY:B_ w Y)=>iq (h.new hY) hl h4);have p:=h.cs.1;have l:=hid (λ(Y:World) fv ds (k:DmQ K w0 Y 0 12 hv fv fo s ds)=>DJ k x.a);rw[hv']at j;clear h hv';unfold bk;rw[ho];clear ho;simp only[cW,wn,wu]at j l
 go_in
 go_wp2_with fail;refine(j.out _ (aa _ _ _)).mono ?_;rintro en w1 ⟨rfl,i,sv,k⟩;have hi:=(i.block w.heap.size (by simp) (by show¬w.heap.size=g;omega)).trans (aO w _);have y:=cz w1 _ 1 _ _ (0,0) hi;simp at y;have r:=ae hi;have m:=hid k;clear j i hi k;go_wp2_with fail;have e:=m.out.new (aa (λ_=>False) w1 (.cells #[.int .u8 122,.int .i64 0] 135));refine(l.out _ _ _ e).mono ?_;rintro en n ⟨rfl,c⟩;have hi:=(c.block w1.heap.size (by simp) (λh=>h)).trans (aO w1 _);have A:=cz n _ 0 _ _ (0,0) hi;simp at A;have t:=ae hi;have b:=e.new c;have B:=b.mc.cs.2.2.2.2.2.2.2.2.2;have C:=b.mc.fz 9;have v:=b.lt
 have f:=hid b;clear l m e c hi b;go_wp2_with fail;go_end0;exact⟨rfl,_,_,_,_,f.out.own (val':=0) (e':=6) (s':=s) (aj n K.mb 9 (.int .i64 6)) rfl (f.out.mc.set9 6)⟩
theorem EP (h:DmQ K w0 w 0 12 hv (.slice (some ⟨g,0,none⟩) (ds.length+1) cap) fo s (ds++ [d])) (h4:d.zv.length<=4000) (hl:1<=d.zv.length) (hI:cH w0 K.bi im) (hw:WfC im.zq) {k:Nat} {ob:Ob} (hv':bT d.zv= .o k) (hk:s.heap[k]?=some ob) (hc:ob.cls<im.zq.length) (hu:bu im.zq 5 ob.cls x.a=true) (hj:x.b<ob.fs.length) (hh:s.heap.length<=4000) (r:x.op.toNat=103):
  Calls prog 114 #[.pointer (some ⟨K.mb,0,none⟩),.pointer (some ⟨g,ds.length*4,none⟩),bk x] w λen w'=>en= .returned (.tuple #[])/\kD K w0 g cap ds d.q s d.pc (cG d.zv++ [ob.fs.getD x.b .z]) d.loc 12 w':=by
 obtain⟨u,l⟩: ∃u,ob.fs[x.b]?=some u:=⟨_,aG hj⟩;rw[show ob.fs.getD x.b .z=u from by rw[bH,l];rfl];have B:=hid (λY (hY:B_ w Y)=>iq (h.new hY) hl h4);have T:=h.cs.1;have I:(cG d.zv).length<=4000:=by simp[cG];omega
 have A:=hid (λ(Y:World) fv ds (p:DmQ K w0 Y 0 12 hv fv fo s ds)=>DK p hI hw hk hc hh x.a);rw[hu]at A;rw[hv']at B;clear h hv' hI hw hc hu;unfold bk;rw[r];clear r;simp only[cW,wv,ww]at B A
 go_in
 go_wp2_with fail;refine(B.out _ (aa _ _ _)).mono ?_;rintro en w1 ⟨rfl,t,sv,p⟩;have j:=(t.block w.heap.size (by simp) (by show¬w.heap.size=g;omega)).trans (aO w _);have i1:=cz w1 _ 1 _ _ (0,0) j;simp at i1;have F:=ae j;have L:=hid p;clear B t p;go_wp2_with fail;have D:=aa (λ_=>False) w1 (.cells #[.int .u8 111,.int .i64 k] 135);have n:=L.out.new D;refine(A.out _ _ _ n).mono ?_;rintro en m ⟨rfl,i⟩;have hi:=(i.block w1.heap.size (by simp) (λh=>h)).trans (aO w1 _);have j0:=cz m _ 0 _ _ (0,0) hi;have O:=cz m _ 1 _ _ (0,0) hi;have f:=((D.trans i).block w.heap.size F (λh=>h)).trans j;have k2:=cz m _ 2 _ _ (0,0) f
 simp at j0 O k2;have G:=ae hi;have H:=ae f;have e:=n.new i;have c2:=e.mc.cs.2.2.1;have J:=e.lt;obtain⟨gh,ch,vf,rfl,_,E,_,q1,r⟩:=e.obj hk;obtain⟨af,cf,rfl⟩:=ay r;obtain⟨gf,rfl,y,S,c⟩:=aE r (by omega);have P:m.cell? ⟨gf,x.b*2,none⟩=some (.int .u8 u.K):=c _ _ (aP (k:=0) l (by omega));have Q:m.cell? ⟨gf,x.b*2+1,none⟩=some (.int .i64 u.N):=c _ _ (aP (k:=1) l (by omega));have Z:(k:Int)<(s.heap.length:Int):=by have:=(bc hk).1;omega
 have X:(x.b:Int)<(ob.fs.length:Int):=by omega
 have C:=hid (λY (hY:B_ m Y)=>dW (e.new hY) u I);simp only[cW]at C;clear A L n i hi f j D c r e hk l hj;generalize s.heap.length=nh at*;generalize ob.fs.length=nf at*;generalize ds.length*4=o at*;go_wp2_with fail;refine aD (B_ m) 14 ?_;have M:B_ m m.drew:=aA _ _
 iterate 14 (refine qg (v:=?_) rfl M ?_ ?_;rotate_left;(focus (intro wS h;have Q0:=(h.kc c2 J);have Q1:=(h.kc O G);have Q2:=(h.kc q1 E);have Q3:=(h.kc k2 H);have Q4:=(h.kc P y);have Q5:=(h.kc Q y);clear h;go_simp;try rfl));dsimp only[Act.put];try simp only[bW])
 refine au rfl ?_;intro KS hKS;go_simp;refine(C.out _ M).mono ?_;rintro en w3 ⟨rfl,sv',p⟩;refine hKS.out _ _ nofun ?_;clear hKS KS C;refine aI rfl ?_;go_wp2_with fail;go_end0;exact⟨rfl,_,_,_,_,p⟩
theorem EQ (h:DmQ K w0 w 0 12 hv (.slice (some ⟨g,0,none⟩) (ds.length+1) cap) fo s (ds++ [d])) (h4:d.zv.length<=4000) (hl:2<=d.zv.length) (hv':hU d.zv= .z) (ho:x.op.toNat=112):
  Calls prog 114 #[.pointer (some ⟨K.mb,0,none⟩),.pointer (some ⟨g,ds.length*4,none⟩),bk x] w λen w'=>en= .returned (.tuple #[])/\kD K w0 g cap ds d.q s d.pc (dT d.zv) d.loc 6 w':=by
 have m:=hid (λY (hY:B_ w Y)=>li (h.new hY) h4 hl);have C:=h.cs.1;have r:=hid (λ(Y:World) fv ds (n:DmQ K w0 Y 0 12 hv fv fo s ds)=>DJ n x.a);rw[hv']at m;generalize bT d.zv=v at*;clear h hv';unfold bk;rw[ho];clear ho;simp only[cW,wn,wu]at m r
 go_in
 go_wp2_with fail;refine(m.out _ (aa _ _ _)).mono ?_;rintro en w1 ⟨rfl,e,c⟩;replace c:=hid c;have y:=e.size;simp at y;have l:=(e.block w.heap.size (by simp) (by show¬w.heap.size=g;omega)).trans (aO w _);clear m e;go_wp2_with fail;refine(c.out _ (aa _ _ _)).mono ?_;rintro en p ⟨rfl,k,sv,n⟩;have t:=(k.block w.heap.size (by simp;omega) (by show¬w.heap.size=g;omega)).trans (((aa (λ_=>False) _ _).block w.heap.size (by omega) (λh=>h)).trans l);have k1:=cz p _ 1 _ _ (0,0) t;simp at k1;have E:=ae t;have A:=hid n;clear c k n t l;go_wp2_with fail;have i:=A.out.new (aa (λ_=>False) p (.cells #[.int .u8 122,.int .i64 0] 135))
 refine(r.out _ _ _ i).mono ?_;rintro en B ⟨rfl,f⟩;have hi:=(f.block p.heap.size (by simp) (λh=>h)).trans (aO p _);have G:=cz B _ 0 _ _ (0,0) hi;simp at G;have D:=ae hi;have b:=i.new f;have H:=b.mc.cs.2.2.2.2.2.2.2.2.2;have I:=b.mc.fz 9;have F:=b.lt;have j:=hid b;clear r A i f hi b;go_wp2_with fail;go_end0;exact⟨rfl,_,_,_,_,j.out.own (val':=0) (e':=6) (s':=s) (aj B K.mb 9 (.int .i64 6)) rfl (j.out.mc.set9 6)⟩
theorem ER (h:DmQ K w0 w 0 12 hv (.slice (some ⟨g,0,none⟩) (ds.length+1) cap) fo s (ds++ [d])) (h4:d.zv.length<=4000) (hl:2<=d.zv.length) (hI:cH w0 K.bi im) (hw:WfC im.zq) {k:Nat} {ob:Ob} (hv':hU d.zv= .o k) (hk:s.heap[k]?=some ob) (hc:ob.cls<im.zq.length) (hu:bu im.zq 5 ob.cls x.a=true) (hj:x.b<ob.fs.length) (hh:s.heap.length<=4000) (p:x.op.toNat=112):
  Calls prog 114 #[.pointer (some ⟨K.mb,0,none⟩),.pointer (some ⟨g,ds.length*4,none⟩),bk x] w λen w'=>en= .returned (.tuple #[])/\kD K w0 g cap ds d.q (s.put k x.b (bT d.zv)) d.pc (dT d.zv) d.loc 12 w':=by
 obtain⟨u,z⟩: ∃u,ob.fs[x.b]?=some u:=⟨_,aG hj⟩;have G:=hid (λY (hY:B_ w Y)=>li (h.new hY) h4 hl);have a2:=h.cs.1;have F:=hid (λ(Y:World) fv ds (I:DmQ K w0 Y 0 12 hv fv fo s ds)=>DK I hI hw hk hc hh x.a);rw[hu]at F;rw[hv']at G;generalize bT d.zv=v at*;clear h hv' hI hw hc hu;unfold bk;rw[p];clear p;simp only[cW,wv,ww]at G F
 go_in
 go_wp2_with fail;refine(G.out _ (aa _ _ _)).mono ?_;rintro en w1 ⟨rfl,r,m⟩;replace m:=hid m;have Q:=r.size;simp at Q;have C:=(r.block w.heap.size (by simp) (by show¬w.heap.size=g;omega)).trans (aO w _);clear G r;go_wp2_with fail;refine(m.out _ (aa _ _ _)).mono ?_;rintro en J ⟨rfl,t,sv,I⟩;have n:=(t.block w.heap.size (by simp;omega) (by show¬w.heap.size=g;omega)).trans (((aa (λ_=>False) _ _).block w.heap.size (by omega) (λh=>h)).trans C);have A:=(t.block w1.heap.size (by simp) (by show¬w1.heap.size=g;omega)).trans (aO w1 _);have k1:=cz J _ 1 _ _ (0,0) n;simp at k1;have O:=ae n;have S:=hid I
 clear m t I C;go_wp2_with fail;have H:=aa (λ_=>False) J (.cells #[.int .u8 111,.int .i64 k] 135);have y:=S.out.new H;refine(F.out _ _ _ y).mono ?_;rintro en l ⟨rfl,f⟩;have hi:=(f.block J.heap.size (by simp) (λh=>h)).trans (aO J _);have j0:=cz l _ 0 _ _ (0,0) hi;have T:=cz l _ 1 _ _ (0,0) hi;have j:=((H.trans f).block w.heap.size O (λh=>h)).trans n;have e:=((H.trans f).block w1.heap.size (ae A) (λh=>h)).trans A;have k2:=cz l _ 2 _ _ (0,0) j;have v0:=cz l _ 0 _ _ (0,0) e;have v1:=cz l _ 1 _ _ (0,0) e;simp at j0 T k2 v0 v1;have M:=ae hi;have D:=ae j;have E:=ae e;have i:=y.new f;have c2:=i.mc.cs.2.2.1
 have P:=i.lt;obtain⟨gh,ch,vf,rfl,B,L,_,q1,p⟩:=i.obj hk;obtain⟨af,cf,rfl⟩:=ay p;obtain⟨gf,rfl,a0,a1,c⟩:=aE p (by omega);have f0:l.cell? ⟨gf,x.b*2,none⟩=some (.int .u8 u.K):=c _ _ (aP (k:=0) z (by omega));have f1:l.cell? ⟨gf,x.b*2+1,none⟩=some (.int .i64 u.N):=c _ _ (aP (k:=1) z (by omega));have z0:=eA p (x.b*2);have z1:=eA p (x.b*2+1);have a4:(k:Int)<(s.heap.length:Int):=by have:=(bc hk).1;omega
 have a3:(x.b:Int)<(ob.fs.length:Int):=by omega
 have X:=hid (i.setF hk B (g:=gf) rfl x.b v);clear F S y f hi j n A e H c p i hk z hj B k1;generalize s.heap.length=nh at*;generalize ob.fs.length=nf at*;generalize ds.length*4=o at*;go_wp2_with fail;refine aD (B_ l) 13 ?_;have Z:B_ l l.drew:=aA _ _
 iterate 13 (refine aF (v:=?_) rfl Z ?_ ?_;rotate_left;(focus (intro wS h;have Q0:=(h.kc c2 P);have Q1:=(h.kc T M);have Q2:=(h.kc q1 L);have Q3:=(h.kc k2 D);have Q4:=(h.kc v0 E);have Q5:=(h.kc v1 E);clear h;go_simp;try rfl));dsimp only[Act.put];try simp only[bW])
 refine dU rfl ?_;go_wp2_with fail;go_end0;exact⟨rfl,_,_,_,_,X.out.new (aA _ _)⟩
end
def dF (l:List Nat):List Value:=l.map λk:Nat=>Value.int .i64 (k:Int)
theorem DP:(prog.info? 3).map (λi=>(i.zero,i.size,i.bytes))=some (some (.int .i64 0),1,8):=by kernel_rfl
theorem fi {ops:Array Oper} {rest:List Oper} {o:Oper} {a:Act} {Q:Exit->Act->World->Prop} (hgd:o.guard=none) (s x:Operand)
  (ho:o.op= .call {callee:= .builtin .append,args:=#[s,x],argTypes:=#[217,217]})
  (W:World) (base:Nat) (v:Value) (l:List Nat) (u:Nat) (hs:a.eval s=v) (H:Nat) (hH:W.heap.size=H) (hx:a.eval x= .slice (some ⟨H,0,none⟩) 1 1) (hown:W.ownsRow base 3 1 v l.length (dF l)) (hl:l.length<=500000) (hbase:base<=W.heap.size)
  (h: ∀g cap w',w'.ownsRow base 3 1 (.slice (some ⟨g,0,none⟩) (l++ [u]).length cap) (l++ [u]).length (dF (l++ [u]))->But (λk=>v.ownBlock=some k) W w'->(v.ownBlock=some g\/W.heap.size<=g)->wpList prog ops Q rest (a.put o.dst (.slice (some ⟨g,0,none⟩) (l.length+1) cap)) w'):
  wpList prog ops Q (o::rest) a (W.alloc (.cells #[.int .i64 u] 3)):=by
 obtain⟨m,c,d,e,f⟩:=info_parts DP;subst hH
 refine wpList_append_lies _ hgd s x _ ho base 3 m _ 1 8 (by kernel_rfl) c d e f rfl (by omega) v l.length (dF l) hs (ag hown (aa (λ_=>False) _ _) (λ_ _ h=>h)) ⟨W.heap.size,0,none⟩ 1 1 [.int .i64 u] hx rfl
  (iu (cs:=#[.int .i64 u]) (t:=3) (fr:=(0,0)) (aO W _)) (by simp[Value.oneCell']) (by omega) (by unfold maxLen;omega) (by omega) (by simp;omega) (W.heap.size+1) (by simp) ?_
 intro g cap w' i j b n;refine h g cap w' ?_ ((aa _ _ _).trans (a8 j)) ?_
 .rw[show dF (l++ [u])=dF l++ [.int .i64 u]from by simp[dF],aN];exact i
 .obtain b|b:=b
  .exact Or.inl b
  .right;omega
def cJ (vs:List V):List Nat:=vs.filterMap λv=>match v with
 | .o k=>some k
 |_=>none
theorem wA (a b:List V):cJ (a++b)=cJ a++cJ b:=by simp[cJ]
theorem Cy (a:List V) (k:Nat):k∈cJ a↔V.o k∈a:=by
 simp only[cJ,List.mem_filterMap];refine⟨λ⟨v,h1,h2⟩=> ?_,λh=>⟨_,h,rfl⟩⟩
 cases v<;>simp at h2
 subst h2;exact h1
theorem oE (a:List V):(cJ a).length<=a.length:=List.length_filterMap_le _ _
section
variable {K:Dk} {w0 w w':World} {val e:Int} {hv fv:Value} {fo:List Value} {s:Ev} {ds:List Fd} {base:Nat} {L:List (Nat×List St)} {q pc:Nat} {p:Nat×List St} {st lo:L_}
theorem AE (h:DmQ K w0 w val e hv fv fo s ds) (hT:iF w0 base K.tv L) (hp:L[q]?=some p) (hs:p.2[pc]?=some (some (st,lo))) (a1 a2:Option Addr) (n1 n2 c1 c2:Nat):
  Calls prog 242 #[.pointer (some ⟨K.mb,0,none⟩),.agg #[.int .i64 q,.int .i64 pc,.slice a1 n1 c1,.slice a2 n2 c2]] w λen w'=>en= .returned (.agg #[.bool true,.string ⟨st.toArray⟩,.string ⟨lo.toArray⟩])/\B_ w w':=by
 have d:=hT.but h.old;have F:=(bc hp).1;have E:=(bc hs).1;have k1:=h.mc.cs.2.1;have C:=h.lt;obtain⟨a,c,l⟩:=ay d.1;rw[l]at k1;have D:=d.1;rw[l]at D;obtain⟨gt,rfl,z,_,b⟩:=aE D (by omega);have J:w.cell? ⟨gt,q,none⟩=some (.slice (some ⟨p.1,0,none⟩) p.2.length p.2.length):=b _ _ (by simp[nI,hp]);have m:=(d.2 p (bn hp)).1;have H:w.cell? ⟨p.1,pc*3,none⟩=some (.bool true):=m.cell (k:=0) hs (by omega);have I:w.cell? ⟨p.1,pc*3+1,none⟩=some (.string ⟨st.toArray⟩):=m.cell (k:=1) hs (by omega);have s2:w.cell? ⟨p.1,pc*3+2,none⟩=some (.string ⟨lo.toArray⟩):=m.cell (k:=2) hs (by omega);have f:=m.lt;have qI:(q:Int)<(L.length:Int):=by omega
 have pI:(pc:Int)<(p.2.length:Int):=by omega
 have Z:0<(L.length:Int):=by omega
 obtain⟨y,t⟩: ∃y,p.1=y:=⟨_,rfl⟩;rw[t]at J H I s2 f;clear h hT d hp hs D b m l F E t;generalize L.length=nL at*;generalize p.2.length=np at*;obtain⟨X,n⟩: ∃X,(w.alloc (.cells #[.int .i64 q,.int .i64 pc,.slice a1 n1 c1,.slice a2 n2 c2] 121)).alloc (.cells #[.bool false,.string ⟨#[]⟩,.string ⟨#[]⟩] 91)=X:=⟨_,rfl⟩;have i:B_ w X:=by rw[<-n];exact(aa _ _ _).trans (aa _ _ _)
 have x:X.heap[w.heap.size]?=some (.cells #[.int .i64 q,.int .i64 pc,.slice a1 n1 c1,.slice a2 n2 c2] 121):=by rw[<-n];exact((aa (λ_=>False) _ _).block _ (by simp) (λh=>h)).trans (aO w _)
 have g:X.heap[w.heap.size+1]?=some (.cells #[.bool false,.string ⟨#[]⟩,.string ⟨#[]⟩] 91):=by rw[<-n];exact aB (by simp) _
 have M:=cz X _ 0 _ _ (0,0) x;have O:=cz X _ 1 _ _ (0,0) x;have r0:=cz X _ 0 _ _ (0,0) g;have P:=cz X _ 1 _ _ (0,0) g;have Q:=cz X _ 2 _ _ (0,0) g;have z0:=bG X _ 0 _ _ g;have z1:=bG X _ 1 _ _ g;have z2:=bG X _ 2 _ _ g;simp at M O r0 P Q;have r:=ae x;have G:=ae g;have kx:=i.kc k1 C;have tx:=i.kc J z;have sx:=i.kc H f;have sy:=i.kc I f;have sz:=i.kc s2 f;have Y:=i.size;have B:K.mb<X.heap.size:=by omega
 have A:gt<X.heap.size:=by omega
 have j:y<X.heap.size:=by omega
 have S:=hid n;clear n x g Y
 go_in
 go_wp2_with fail;rw[S.out];clear k1 J H I s2;refine aD (B_ X) 12 ?_;have T:B_ X X.drew:=aA _ _
 iterate 12 (refine aF (v:=?_) rfl T ?_ ?_;rotate_left;(focus (intro wS h;have q0:=(h.kc kx B);have q1:=(h.kc M r);have q2:=(h.kc O r);have q3:=(h.kc tx A);have q4:=(h.kc sx j);have q5:=(h.kc sy j);have q6:=(h.kc sz j);clear h;go_simp;try rfl));dsimp only[Act.put];try simp only[bW])
 refine dU rfl ?_;go_wp2_with fail;exact cA (v:= .agg #[.bool true,.string ⟨st.toArray⟩,.string ⟨lo.toArray⟩]) (by simp[results,results242,go_sem,r0,P,Q,G]) rfl ⟨rfl,(i.next ((aj X (w.heap.size+1) 0 (.bool true)).trans ((aj _ _ _ _).trans (aj _ _ _ _))) (λk hk e=>by have e:k=w.heap.size+1:=e;omega)).trans (aA _ _)⟩
theorem Cz {pc:Int} {sv lv:Value} {zv loc:List V} (B:Hid (∀(a1 a2:Option Addr) (c1 c2:Nat) Y,B_ w Y->Calls prog 242 #[.pointer (some ⟨K.mb,0,none⟩),.agg #[.int .i64 q,.int .i64 pc,.slice a1 zv.length c1,.slice a2 loc.length c2]] Y λen w'=>en= .returned (.agg #[.bool true,.string ⟨st.toArray⟩,.string ⟨lo.toArray⟩])/\B_ Y w')) (h1:w.ownsRow w0.heap.size 135 2 sv zv.length (aJ zv)) (h2:w.ownsRow w0.heap.size 135 2 lv loc.length (aJ loc)) (h4:zv.length<=4000) (h5:loc.length<=4000):
  Calls prog 225 #[.pointer (some ⟨K.mb,0,none⟩),.agg #[.int .i64 q,.int .i64 pc,sv,lv]] w λen w'=>B_ w w'/\ ∃v,en= .returned v/\w'.ownsRow w.heap.size 3 1 v (cJ (dQ zv st++dQ loc lo)).length (dF (cJ (dQ zv st++dQ loc lo))):=by
 obtain⟨a1,c1,rfl⟩:=ay h1;obtain⟨a2,c2,rfl⟩:=ay h2;replace B:=hid (B.out a1 a2 c1 c2);obtain⟨zs,H⟩: ∃zs,zv.zip st=zs:=⟨_,rfl⟩;obtain⟨ys,G⟩: ∃ys,loc.zip lo=ys:=⟨_,rfl⟩;have hn:zs.length=min zv.length st.length:=by rw[<-H];simp
 have hm:ys.length=min loc.length lo.length:=by rw[<-G];simp
 have HU:Hid (dQ zv st=(zs.filter ro).map (·.1)/\dQ loc lo=(ys.filter ro).map (·.1)):=by show _/\_;rw[<-H,<-G];exact⟨rfl,rfl⟩
 have HZ:Hid (∀k u y,zv[k]?=some u->st[k]?=some y->zs[k]?=some (u,y)):=λk u y a b=>by rw[<-H,List.getElem?_zip_eq_some];exact⟨a,b⟩
 have HY:Hid (∀k u y,loc[k]?=some u->lo[k]?=some y->ys[k]?=some (u,y)):=λk u y a b=>by rw[<-G,List.getElem?_zip_eq_some];exact⟨a,b⟩
 rw[HU.out.1,HU.out.2];obtain⟨RS,L⟩: ∃RS,cJ ((zs.filter ro).map (·.1)++(ys.filter ro).map (·.1))=RS:=⟨_,rfl⟩;rw[L];have HR:=hid L;clear L HU H G
 go_in
 go_wp2_with fail;refine(B.out _ (aa _ _ _)).mono ?_;rintro en w1 ⟨rfl,I⟩;have a5:=(I.block w.heap.size (by simp) (λh=>h)).trans (aO w _);have b4:B_ w w1:=(aa _ _ _).trans I;clear B I;go_wp2_with fail;obtain⟨X,hX⟩: ∃X,w1.alloc (.cells #[.bool true,.string ⟨st.toArray⟩,.string ⟨lo.toArray⟩] 91)=X:=⟨_,rfl⟩;have J:B_ w1 X:=by rw[<-hX];exact aa _ _ _
 have D:X.heap[w1.heap.size]?=some (.cells #[.bool true,.string ⟨st.toArray⟩,.string ⟨lo.toArray⟩] 91):=by rw[<-hX];exact aO _ _
 have C:=J.kp a5;rw[hX];clear hX a5;have F:=b4.trans J;replace h1:=ag h1 F (λ_ _ h=>h);replace h2:=ag h2 F (λ_ _ h=>h);have e3:=F.size;have F2:=cz X _ 2 _ _ (0,0) C;have F3:=cz X _ 3 _ _ (0,0) C;have S1:=cz X _ 1 _ _ (0,0) D;have S2:=cz X _ 2 _ _ (0,0) D;simp at F2 F3 S1 S2;have a4:=ae C;have b2:=ae D;clear C D b4 J;generalize c9:w.heap.size=fb at*;generalize w1.heap.size=sb at*
 go_loopg [5,7] zs.length (λmm vt is wr=> ∃(ao:Option Addr) (cap k:Nat) (t:List V),vt= .slice ao (cJ t).length cap/\is= .int .i64 k/\k<=zs.length/\k+mm<=zs.length/\zs.length<=k+mm/\B_ X wr/\wr.ownsRow X.heap.size 3 1 (.slice ao (cJ t).length cap) (cJ t).length (dF (cJ t))/\t.length<=k/\Hid (((zs.take k).filter ro).map (·.1)=t))
 case atStart=>exact⟨none,0,0,[],rfl,rfl,by omega,by omega,by omega,bf _ _,cR _ _ _ _,by simp,rfl⟩
 case round=>
  obtain⟨ao,cap,k,t,rfl,rfl,a6,O,b0,c,e,b3,A⟩:=hrel;clear O;have f2:=c.kc F2 a4;have s1:=c.kc S1 b2;have b5:=c.size;have P:=oE t
  by_cases hlt:k<zs.length
  .have x:k<zv.length:=by omega
   have g:k<st.length:=by omega
   have Z:(k:Int)<(zv.length:Int):=by omega
   have e2:(k:Int)<(st.length:Int):=by omega
   obtain⟨u,E⟩: ∃u,zv[k]?=some u:=⟨_,aG x⟩;obtain⟨y,Q⟩: ∃y,st[k]=y:=⟨_,rfl⟩;have kC: ∀h,(⟨st.toArray⟩:ByteArray)[k]'h=y:=λh=>by rw[<-Q];exact ii st _ g _
   have b9:k<(⟨st.toArray⟩:ByteArray).size:=g;obtain⟨g1,r1,b8,_,d⟩:=aE (ag h1 c (λ_ _ h=>h)) (by omega);subst r1;have S:wr.cell? ⟨g1,k*2,none⟩=some (.int .u8 u.K):=d _ _ (aP (k:=0) E (by omega));have T:wr.cell? ⟨g1,k*2+1,none⟩=some (.int .i64 u.N):=d _ _ (aP (k:=1) E (by omega));have f:=hid (wh (HZ.out k u y E (by rw[aG g,Q])) A.out);have c8:=dc ((k:Int)+1) (by omega) (by omega);clear d E Q A x g
   by_cases hyy:y.toNat=45
   .have b1:((y.toNat:Int)!=45)=false:=by simp[hyy]
    rw[if_pos hyy]at f;clear hyy;go_wp2_with fail
    go_roundg (zs.length-(k+1))
    case measure=>omega
    case rel=>exact⟨_,cap,k+1,t,rfl,by simp,by omega,by omega,by omega,c,e,by omega,f⟩
   .have b1:((y.toNat:Int)!=45)=true:=by rw[bne_iff_ne];omega
    rw[if_neg hyy]at f;clear hyy
    cases u with
    |o j=>
     simp only[wv,ww]at S T;have l:Hid (cJ (t++ [.o j])=cJ t++ [j]):=by show _=_;simp[cJ]
     go_wp2_with (at_builtin;refine fi rfl _ _ rfl wr X.heap.size (.slice ao (cJ t).length cap) (cJ t) j rfl wr.heap.size rfl rfl (by exact e) (by omega) (by omega) ?_);intro gg cap3 w2 p s M;have r:B_ X w2:=c.next s (λk' hk' h=>by have:=aw e k' h;omega);clear s M;go_wp2_with fail
     go_roundg (zs.length-(k+1))
     case measure=>omega
     case rel=>exact⟨some ⟨gg,0,none⟩,cap3,k+1,t++ [.o j],by rw[l.out,aN];rfl,by simp,by omega,by omega,by omega,r,by rw[l.out,aN];exact p,by simp;omega,f⟩
    |i n=>
     simp only[oC,oD]at S T;have l:Hid (cJ (t++ [.i n])=cJ t):=by show _=_;simp[cJ]
     go_wp2_with fail
     go_roundg (zs.length-(k+1))
     case measure=>omega
     case rel=>exact⟨_,cap,k+1,t++ [.i n],by rw[l.out],by simp,by omega,by omega,by omega,c,by rw[l.out];exact e,by simp;omega,f⟩
    |z=>
     simp only[wn,wu]at S T;have l:Hid (cJ (t++ [.z])=cJ t):=by show _=_;simp[cJ]
     go_wp2_with fail
     go_roundg (zs.length-(k+1))
     case measure=>omega
     case rel=>exact⟨_,cap,k+1,t++ [.z],by rw[l.out],by simp,by omega,by omega,by omega,c,by rw[l.out];exact e,by simp;omega,f⟩
  .have m:(zs.filter ro).map (·.1)=t:=by rw[<-A.out,fd (by omega)]
   have b7:=hid m;clear m A;have hx: ¬(k:Int)<(zv.length:Int)\/((k:Int)<(zv.length:Int)/\ ¬(k:Int)<(st.length:Int)):=by omega
   have a0:=c;have a3:=e;have e0:t.length<=4000:=by omega
   generalize t=t0 at*;generalize cap=cap0 at*;obtain Z| ⟨Z,e2⟩:=hx
   all_goals
    go_wp2_with fail
    go_loopg [5,8] ys.length (λmm vt is wr=> ∃(ao:Option Addr) (cap k:Nat) (t:List V),vt= .slice ao (cJ (t0++t)).length cap/\is= .int .i64 k/\k<=ys.length/\k+mm<=ys.length/\ys.length<=k+mm/\B_ X wr/\wr.ownsRow X.heap.size 3 1 (.slice ao (cJ (t0++t)).length cap) (cJ (t0++t)).length (dF (cJ (t0++t)))/\t.length<=k/\Hid (((ys.take k).filter ro).map (·.1)=t))
    case atStart=>exact⟨ao,cap0,0,[],by simp,rfl,by omega,by omega,by omega,a0,by simpa using a3,by simp,rfl⟩
    case round=>
     clear c e a0 a3 f2 s1 b5 P b3 a6 b0 Z;obtain⟨ao,cap,k,t,rfl,rfl,a6,O,b0,c,e,b3,A⟩:=hrel;clear O;have f3:=c.kc F3 a4;have s2:=c.kc S2 b2;have b5:=c.size;have P:=oE (t0++t);rw[aN]at P
     by_cases hlt:k<ys.length
     .have x:k<loc.length:=by omega
      have g:k<lo.length:=by omega
      have Z:(k:Int)<(loc.length:Int):=by omega
      have e2:(k:Int)<(lo.length:Int):=by omega
      obtain⟨u,E⟩: ∃u,loc[k]?=some u:=⟨_,aG x⟩;obtain⟨y,Q⟩: ∃y,lo[k]=y:=⟨_,rfl⟩;have kC: ∀h,(⟨lo.toArray⟩:ByteArray)[k]'h=y:=λh=>by rw[<-Q];exact ii lo _ g _
      have b9:k<(⟨lo.toArray⟩:ByteArray).size:=g;obtain⟨g1,r1,b8,_,d⟩:=aE (ag h2 c (λ_ _ h=>h)) (by omega);subst r1;have S:wr.cell? ⟨g1,k*2,none⟩=some (.int .u8 u.K):=d _ _ (aP (k:=0) E (by omega));have T:wr.cell? ⟨g1,k*2+1,none⟩=some (.int .i64 u.N):=d _ _ (aP (k:=1) E (by omega));have f:=hid (wh (HY.out k u y E (by rw[aG g,Q])) A.out);have c8:=dc ((k:Int)+1) (by omega) (by omega);clear d E Q A x g
      by_cases hyy:y.toNat=45
      .have b1:((y.toNat:Int)!=45)=false:=by simp[hyy]
       rw[if_pos hyy]at f;clear hyy;go_wp2_with fail
       go_roundg (ys.length-(k+1))
       case measure=>omega
       case rel=>exact⟨_,cap,k+1,t,rfl,by simp,by omega,by omega,by omega,c,e,by omega,f⟩
      .have b1:((y.toNat:Int)!=45)=true:=by rw[bne_iff_ne];omega
       rw[if_neg hyy]at f;clear hyy
       cases u with
       |o j=>
        simp only[wv,ww]at S T;have l:Hid (cJ (t0++(t++ [.o j]))=cJ (t0++t)++ [j]):=by show _=_;simp[cJ]
        go_wp2_with (at_builtin;refine fi rfl _ _ rfl wr X.heap.size (.slice ao (cJ (t0++t)).length cap) (cJ (t0++t)) j rfl wr.heap.size rfl rfl (by exact e) (by omega) (by omega) ?_);intro gg cap3 w2 p s M;have r:B_ X w2:=c.next s (λk' hk' h=>by have:=aw e k' h;omega);clear s M;go_wp2_with fail
        go_roundg (ys.length-(k+1))
        case measure=>omega
        case rel=>exact⟨some ⟨gg,0,none⟩,cap3,k+1,t++ [.o j],by rw[l.out,aN];rfl,by simp,by omega,by omega,by omega,r,by rw[l.out,aN];exact p,by simp;omega,f⟩
       |i n=>
        simp only[oC,oD]at S T;have l:Hid (cJ (t0++(t++ [.i n]))=cJ (t0++t)):=by show _=_;simp[cJ]
        go_wp2_with fail
        go_roundg (ys.length-(k+1))
        case measure=>omega
        case rel=>exact⟨_,cap,k+1,t++ [.i n],by rw[l.out],by simp,by omega,by omega,by omega,c,by rw[l.out];exact e,by simp;omega,f⟩
       |z=>
        simp only[wn,wu]at S T;have l:Hid (cJ (t0++(t++ [.z]))=cJ (t0++t)):=by show _=_;simp[cJ]
        go_wp2_with fail
        go_roundg (ys.length-(k+1))
        case measure=>omega
        case rel=>exact⟨_,cap,k+1,t++ [.z],by rw[l.out],by simp,by omega,by omega,by omega,c,by rw[l.out];exact e,by simp;omega,f⟩
     .have m:RS=cJ (t0++t):=by rw[<-HR.out,b7.out,<-A.out,fd (by omega)]
      have b6:=hid m;clear m A;have hx: ¬(k:Int)<(loc.length:Int)\/((k:Int)<(loc.length:Int)/\ ¬(k:Int)<(lo.length:Int)):=by omega
      obtain Z| ⟨Z,e2⟩:=hx
      all_goals
       go_wp2_with fail;exact eh (.slice ao (cJ (t0++t)).length cap) results225 rfl rfl ⟨F.trans c,_,rfl,by rw[b6.out];exact fc e (by omega)⟩
theorem AF (h:DmQ K w0 w val e hv fv fo s ds) (hT:iF w0 base K.tv L) (hp:L[q]?=some p) (hs:p.2[pc]?=some (some (st,lo))) {sv lv:Value} {zv loc:List V} (h1:w.ownsRow w0.heap.size 135 2 sv zv.length (aJ zv)) (h2:w.ownsRow w0.heap.size 135 2 lv loc.length (aJ loc)) (h4:zv.length<=4000) (h5:loc.length<=4000):
  Calls prog 225 #[.pointer (some ⟨K.mb,0,none⟩),.agg #[.int .i64 q,.int .i64 pc,sv,lv]] w λen w'=>B_ w w'/\ ∃v,en= .returned v/\w'.ownsRow w.heap.size 3 1 v (cJ (dQ zv st++dQ loc lo)).length (dF (cJ (dQ zv st++dQ loc lo))):=
 Cz (hid (λa1 a2 c1 c2 Y hY=>AE (h.new hY) hT hp hs a1 a2 zv.length loc.length c1 c2)) h1 h2 h4 h5
end
def iO (F:List Nat) (j:Nat):List Nat:=if j∈F then F else F++ [j]
theorem AG (L:List Nat): ∀(vs:List V) (G:List Nat),(cJ vs).foldl iO (L++G)=L++vs.foldl (qO L) G:=by
 intro vs
 induction vs with
 |nil=>intro G;rfl
 |cons u vs ih=>
  intro G
  cases u with
  |i n=>exact ih G
  |z=>exact ih G
  |o k=>
   show(cJ vs).foldl iO (iO (L++G) k)=L++vs.foldl (qO L) (qO L G (.o k))
   unfold iO qO
   by_cases hk:k∈L++G
   .simp only[if_pos hk];exact ih G
   .simp only[if_neg hk];rw[ky];exact ih (G++ [k])
theorem ru (L:List Nat) (vs:List V):(cJ vs).foldl iO L=L++vK L vs:=by
 have:=AG L vs [];simpa[vK]using this
theorem uv {l F:List Nat}:(l.foldl iO F).length<=F.length+l.length:=by
 induction l generalizing F with
 |nil=>simp
 |cons j l ih=>
  have a:(iO F j).length<=F.length+1:=by unfold iO;split<;>simp
  have:=ih (F:=iO F j);simp only[List.foldl_cons,iU];omega
theorem AH {α β:Type} {f:β->α->β} {l:List α} {k:Nat} {x:α} {b:β} (h:l[k]?=some x):(l.take (k+1)).foldl f b=f ((l.take k).foldl f b) x:=by
 obtain⟨c,a⟩:=bc h;rw[f7 c,List.foldl_append,a]
 rfl
def l7 (w:World) (g n:Nat) (F:List Nat):Prop:=w.heap[g]?=some (.cells ((List.range n).map (λj=>Value.bool (decide (j∈F)))).toArray 4)
theorem l7.at {w:World} {g n:Nat} {F:List Nat} (h:l7 w g n F) {j:Nat} (hj:j<n):w.cell? ⟨g,j,none⟩=some (.bool (decide (j∈F)))/\w.frozen? ⟨g,j,none⟩=false:=by
 refine⟨?_,bG w g j _ _ h⟩;rw[cz w g j _ _ (0,0) h];simp[hj]
theorem l7.set {w:World} {g n:Nat} {F:List Nat} (h:l7 w g n F) {j:Nat} (hj:j<n):l7 (w.setCell ⟨g,j,none⟩ (.bool true)) g n (F++ [j]):=by
 unfold l7;rw[cQ w g j _ _ (.bool true) h]
 congr 2
 apply Array.ext
 .simp
 .intro i a b;simp at a b⊢;rw[List.getElem_set]
  by_cases e:j=i
  .subst e;simp
  .simp[e];exact λe2=>absurd e2.symm e
theorem l7.but {F:Nat->Prop} {w w':World} {g n:Nat} {L:List Nat} (h:l7 w g n L) (hb:But F w w') (hf: ¬F g):l7 w' g n L:=(hb.block g (ae h) hf).trans h
theorem DQ (n:Nat) (hn:n<=5000) (w:World):(Instr.makeSlice 179 (.int .i64 (n:Int)) (.int .i64 (n:Int))).run prog w= .ok (.slice (some ⟨w.heap.size,0,none⟩) n n) (w.alloc (.cells (DH n) 4)):=by
 have a:=xQ
 cases hi:prog.info? 4 with
 |none=>rw[hi]at a;cases a
 |some i=>
  rw[hi]at a;simp only[Option.map_some,Option.some.injEq,Prod.mk.injEq]at a;obtain⟨d,c,b⟩:=a;have:=run_make (P:=prog) w 179 4 i _ (by kernel_rfl) hi d .i64 .i64 n n (by omega) (by omega) (by rw[b];omega) (by omega);rw[this,c];simp only[jZ,Value.cells,Nat.mul_one];rw[Cu]
  rfl
theorem DR (n:Nat):DH n=((List.range n).map (λj=>Value.bool (decide (j∈([]:List Nat))))).toArray:=by
 unfold DH
 congr 1
 rw[List.map_replicate]
 apply List.ext_getElem<;>simp
theorem uw {T:dC} {q pc:Nat} {x:L_×L_} (h:iP T q pc=some x): ∃t,T[q]?=some t/\t[pc]?=some (some x):=by
 cases ht:T[q]? with
 |none=>simp[iP,ht]at h
 |some t=>exact⟨t,rfl,(dP ht).1 h⟩
section
variable {K:Dk} {w0 w w':World} {val e:Int} {hv fv:Value} {fo:List Value} {s:Ev} {ds:List Fd} {base:Nat} {L:List (Nat×List St)} {T:dC}
structure pj (w wr:World) (gS n:Nat) (ao:Option Addr) (cap:Nat) (F:List Nat):Prop where
 but:B_ w wr
 seen:l7 wr gS n F
 row:wr.ownsRow w.heap.size 3 1 (.slice ao F.length cap) F.length (dF F)
 ge:w.heap.size<=gS
theorem pj.new {wr wr':World} {gS n cap:Nat} {ao:Option Addr} {F:List Nat} (h:pj w wr gS n ao cap F) (hB:B_ wr wr'):pj w wr' gS n ao cap F:=
 ⟨h.but.trans hB,h.seen.but hB (λh=>h),ag h.row hB (λ_ _ h=>h),h.ge⟩
theorem pj.off {wr:World} {gS n cap:Nat} {ao:Option Addr} {F:List Nat} (h:pj w wr gS n ao cap F):(Value.slice ao F.length cap).ownBlock≠some gS:=bA h.row h.seen (by decide)
theorem pj.more {wr w2:World} {gS n cap gg cap3:Nat} {ao:Option Addr} {F:List Nat} {j:Nat} (h:pj w wr gS n ao cap F) (hj:j<n) (ho:w2.ownsRow w.heap.size 3 1 (.slice (some ⟨gg,0,none⟩) (F++ [j]).length cap3) (F++ [j]).length (dF (F++ [j]))) (hB:But (λk=>(Value.slice ao F.length cap).ownBlock=some k) (wr.setCell ⟨gS,j,none⟩ (.bool true)) w2):pj w w2 gS n (some ⟨gg,0,none⟩) cap3 (F++ [j]):=
 ⟨(h.but.next (aj wr gS j (.bool true)) (λk hk e=>by have:=h.ge;omega)).next hB (λk hk e=>by have:=aw h.row k e;omega),(h.seen.set hj).but hB h.off,ho,h.ge⟩
theorem CA {sl:Fm->List V} (h:DmQ K w0 w val e hv fv fo s ds) (hRT: ∀Y,B_ w Y-> ∀d∈ds,Calls prog 225 #[.pointer (some ⟨K.mb,0,none⟩),.agg #[.int .i64 d.q,.int .i64 d.pc,d.sv,d.lv]] Y λen w'=>B_ Y w'/\ ∃v,en= .returned v/\w'.ownsRow Y.heap.size 3 1 v (cJ (sl d.fm)).length (dF (cJ (sl d.fm)))) (hfs: ∀d∈ds,(sl d.fm).length<=2000/\ ∀u∈sl d.fm,lp s.heap.length u) (h12:ds.length<=12) (cs:List cd) (hob:pg cs s.heap) (h4:s.heap.length<=4000):
  Calls prog 179 #[.pointer (some ⟨K.mb,0,none⟩)] w λen w'=>en= .returned (.int .i64 (fy s.heap (λk=>V.o k∈ds.flatMap (λd=>sl d.fm))))/\B_ w w':=by
 obtain⟨RS,b5⟩: ∃RS,fy s.heap (λk=>V.o k∈ds.flatMap (λd=>sl d.fm))=RS:=⟨_,rfl⟩;rw[b5];have HR:=hid b5;have HH:=hid h;have f2:=hid hfs;have a5:=hid hRT;have f3:=hid hob;obtain⟨_,_,c2,c3,_⟩:=h.mc.cs;have e5:=h.lt;obtain⟨ah,ch,E⟩:=ay h.hp;obtain⟨af,cf,b9⟩:=ay h.fr;have l0:=hid E;have h9:=hid b9;rw[E]at c2;rw[b9]at c3;have k0:=DQ s.heap.length (by omega)
 have h0:pj w (w.alloc (.cells (DH s.heap.length) 4)) w.heap.size s.heap.length none 0 []:=
  ⟨aa _ _ _,by unfold l7;rw[aO,DR],cR _ _ _ _,bP _⟩
 clear b5 h hfs hRT hob E b9
 go_in
 go_wp2_with fail
 go_loopg [4,5,6,7] ds.length (λmm vt is v6 v7 wr=> ∃(ao:Option Addr) (cap i:Nat) (F:List Nat),vt= .slice ao F.length cap/\is= .int .i64 i/\i<=ds.length/\i+mm<=ds.length/\ds.length<=i+mm/\F.length<=2000*i/\pj w wr w.heap.size s.heap.length ao cap F/\Hid (F=(cJ ((ds.take i).flatMap λd=>sl d.fm)).foldl iO []))
 case atStart=>exact⟨none,0,0,[],rfl,rfl,by omega,by omega,by omega,by simp,h0,rfl⟩
 case round=>
  clear h0 k0;obtain⟨ao,cap,i,F,rfl,rfl,c9,g4,g5,i4,b,HF⟩:=hrel;clear g4;have d2:=b.but.kc c2 e5;have d3:=b.but.kc c3 e5;have M:K.mb<wr.heap.size:=bK e5 b.but.size
  by_cases hlt:i<ds.length
  .obtain⟨d,J⟩: ∃d,ds[i]?=some d:=⟨_,aG hlt⟩;have b7:=bn J;obtain⟨l1,l4⟩:=f2.out d b7;have r:=HH.out.new b.but;have r1:=r.rw.row (1,i) d.sv d.zv (by simp[cT,J]);have r2:=r.rw.row (2,i) d.lv d.loc (by simp[cT,J]);have Z:=hid (a5.out wr b.but d b7);have b8:=r.fr;rw[h9.out]at b8;obtain⟨gf,rfl,g3,_,a⟩:=aE b8 (by omega);have q0:wr.cell? ⟨gf,i*4,none⟩=some (.int .i64 d.q):=a _ _ (fI (k:=0) J (by omega));have q1:wr.cell? ⟨gf,i*4+1,none⟩=some (.int .i64 d.pc):=a _ _ (fI (k:=1) J (by omega));have q2:wr.cell? ⟨gf,i*4+2,none⟩=some d.sv:=a _ _ (fI (k:=2) J (by omega));have q3:wr.cell? ⟨gf,i*4+3,none⟩=some d.lv:=a _ _ (fI (k:=3) J (by omega))
   obtain⟨a1,c1,e1⟩:=ay r1;obtain⟨a2,l3,e2⟩:=ay r2;rw[e1]at q2 Z;rw[e2]at q3 Z;have T:Hid (∀j∈cJ (sl d.fm),j<s.heap.length):=λj H=>(l4 _ ((Cy _ j).1 H)).lt
   have m0:(cJ (sl d.fm)).length<=2000:=by
    have:=oE (sl d.fm);omega
   have i1:Hid (cJ ((ds.take (i+1)).flatMap λd=>sl d.fm)=cJ ((ds.take i).flatMap λd=>sl d.fm)++cJ (sl d.fm)):=by
    show _=_
    obtain⟨hk,he⟩:=bc J;rw[f7 hk,List.flatMap_append,wA,he];simp
   generalize hl:cJ (sl d.fm)=l at*;have e0:(i:Int)<(ds.length:Int):=by omega
   have k4:=dc ((i:Int)+1) (by omega) (by omega);clear hl a b8 r1 r2 r l1 l4 e1 e2 J b7;go_wp2_with fail;refine Z.out.mono ?_;rintro en w1 ⟨f6,lv,rfl,a4⟩;obtain⟨al,cl,rfl⟩:=ay a4;have g1:=b.new f6
   have h6: ∀g,(Value.slice ao F.length cap).ownBlock=some g->(Value.slice al l.length cl).ownBlock≠some g:=λg hg hg'=>by
    have:=aY b.row g hg;have:=aw a4 g hg';omega
   clear Z q0 q1 q2 q3 d2 d3 b f6 g3 M;generalize wr.heap.size=bo at*;clear wr;go_wp2_with fail
   go_loopg [4,7] l.length (λmm vt is wx=> ∃(ao:Option Addr) (cap k:Nat) (G:List Nat),vt= .slice ao G.length cap/\is= .int .i64 k/\k<=l.length/\k+mm<=l.length/\l.length<=k+mm/\pj w wx w.heap.size s.heap.length ao cap G/\wx.ownsRow bo 3 1 (.slice al l.length cl) l.length (dF l)/\Hid (∀g,(Value.slice ao G.length cap).ownBlock=some g->(Value.slice al l.length cl).ownBlock≠some g)/\Hid (G=(l.take k).foldl iO F))
   case atStart=>exact⟨ao,cap,0,F,rfl,rfl,by omega,by omega,by omega,g1,a4,h6,rfl⟩
   case round=>
    clear g1 a4 h6;obtain⟨ao,cap,k,G,rfl,rfl,j5,e3,j7,b,hO,HS,A⟩:=hrel;clear e3
    by_cases hkl:k<l.length
    .obtain⟨j,H⟩: ∃j,l[k]?=some j:=⟨_,aG hkl⟩;have L:=T.out j (bn H);obtain⟨gl,r1,l6,_,a⟩:=aE hO (by omega);subst r1;have q0:wr.cell? ⟨gl,k,none⟩=some (.int .i64 j):=a _ _ (by simp[dF,H]);obtain⟨s0,z0⟩:=b.seen.at L;have j1:=ae b.seen;have k1: ¬w.heap.size=gl:=λe=>bA hO b.seen (by decide) (by rw[e];rfl)
     have k2: ¬gl=w.heap.size:=λe=>k1 e.symm
     have p:Hid ((l.take (k+1)).foldl iO F=iO G j):=by show _=_;rw[AH H,A.out]
     have g0:G.length<=F.length+k:=by
      rw[A.out];have:=uv (l:=l.take k) (F:=F);rw[List.length_take]at this;omega
     have e4:(k:Int)<(l.length:Int):=by omega
     have g7:(j:Int)<(s.heap.length:Int):=by omega
     have k5:=dc ((k:Int)+1) (by omega) (by omega);have k7:=b.but.size;clear a H A
     by_cases hin:j∈G
     .simp only[hin,decide_true]at s0;have f:Hid (G=(l.take (k+1)).foldl iO F):=by show _=_;rw[p.out,iO,if_pos hin]
      clear p hin;go_wp2_with fail
      go_roundg (l.length-(k+1))
      case measure=>omega
      case rel=>exact⟨ao,cap,k+1,G,rfl,by simp,by omega,by omega,by omega,b,hO,HS,f⟩
     .simp only[hin,decide_false]at s0;have f:Hid (G++ [j]=(l.take (k+1)).foldl iO F):=by show _=_;rw[p.out,iO,if_neg hin]
      have P:=ag b.row (aj wr w.heap.size j (.bool true)) (λg hg e=>b.off (e▸hg));have b2:=ag hO (aj wr w.heap.size j (.bool true)) (λg hg e=>bA hO b.seen (by decide) (e▸hg));clear p hin;go_wp2_with (at_builtin;refine fi rfl _ _ rfl (wr.setCell ⟨w.heap.size,j,none⟩ (.bool true)) w.heap.size (.slice ao G.length cap) G j rfl wr.heap.size (by simp) rfl (by exact P) (by omega) (by simp;omega) ?_);intro gg cap3 w2 m D t;have b3:=b.more (gg:=gg) (cap3:=cap3) L (by rw[aN];exact m) D;have i5:=ag b2 D (λg hg e=>HS.out g e hg)
      have i3:Hid (∀g,(Value.slice (some ⟨gg,0,none⟩) (G++ [j]).length cap3).ownBlock=some g->(Value.slice (some ⟨gl,0,none⟩) l.length cl).ownBlock≠some g):=λg hg=>by
       simp only[Value.ownBlock,Option.some.injEq]at hg;subst hg;obtain t|t:=t
       .exact HS.out _ t
       .intro e;have:=aY b2 _ e;simp only[aU]at this t;omega
      clear D t m b hO b2 P;go_wp2_with fail
      go_roundg (l.length-(k+1))
      case measure=>omega
      case rel=>exact⟨some ⟨gg,0,none⟩,cap3,k+1,G++ [j],by rw[aN];rfl,by simp,by omega,by omega,by omega,b3,i5,i3,f⟩
    .have e4: ¬(k:Int)<(l.length:Int):=by omega
     have hG:G=(cJ ((ds.take (i+1)).flatMap λd=>sl d.fm)).foldl iO []:=by
      rw[A.out,i1.out,List.foldl_append,<-HF.out,fd (by omega)]
     have C:=hid hG
     have g0:G.length<=F.length+l.length:=by
      rw[A.out,fd (by omega)];exact uv
     clear hG A HS hO;go_wp2_with fail
     go_roundg (ds.length-(i+1))
     case measure=>omega
     case rel=>exact⟨ao,cap,i+1,G,rfl,by simp,by omega,by omega,by omega,by omega,b,C⟩
  .have g6:ds.take i=ds:=fd (by omega);have hF:=HF.out;rw[g6,ru,List.nil_append]at hF
   have T:Hid (∀u∈ds.flatMap (λd=>sl d.fm),lp s.heap.length u):=λu hu=>by
    obtain⟨d,J,hu⟩:=List.mem_flatMap.1 hu;exact(f2.out d J).2 u hu
   have a6:=hid (qR T.out);rw[<-hF]at a6;have i2:=hid HR.out;generalize ds.flatMap (λd=>sl d.fm)=VS at*;have e0: ¬(i:Int)<(ds.length:Int):=by omega
   clear hF HF T g6 HR c9 g5 i4;go_wp2_with fail
   go_loopg [4,8,9,10,11,12] s.heap.length (λmm vt nv is v10 v11 v12 wx=> ∃(ao:Option Addr) (cap i:Nat) (F:List Nat),vt= .slice ao F.length cap/\nv= .int .i64 ((F.take i).map (lq s.heap)).sum/\is= .int .i64 i/\i<=F.length/\i+mm<=s.heap.length/\s.heap.length<=i+mm/\pj w wx w.heap.size s.heap.length ao cap F/\Hid (vM s.heap VS i F))
   case atStart=>exact⟨ao,cap,0,F,rfl,by simp,rfl,by omega,by omega,by omega,b,a6⟩
   case round=>
    clear b a6 d2 d3 M;obtain⟨ao,cap,i,F,rfl,rfl,rfl,c9,g4,g5,b,HK⟩:=hrel;have l5:=nZ HK.out;have Q:=xS (lq s.heap) 101 (wi f3.out) (F.take i);have h8:(F.take i).length=i:=by rw[List.length_take];omega
    by_cases hlt:i<F.length
    .obtain⟨j,H⟩: ∃j,F[i]?=some j:=⟨_,aG hlt⟩;have j4:=HK.out.lt j (bn H);obtain⟨o,ho⟩: ∃o,s.heap[j]?=some o:=⟨_,aG j4⟩;have r:=HH.out.new b.but;obtain⟨gh,chh,vf,E,j0,c8,x0,x1,c⟩:=r.obj ho;obtain⟨_,m2,h5⟩:=f3.out o (bn ho);have d2:=r.mc.cs.2.2.1;rw[E]at d2;have M:=r.lt;have g2:lq s.heap j=1+o.fs.length:=by unfold lq;rw[ho];rfl
     have f5:Hid (∀G,((((F++G).take (i+1)).map (lq s.heap)).sum=((F.take i).map (lq s.heap)).sum+(1+o.fs.length))):=λG=>by
      rw[List.take_append_of_le_length (by omega),f7 hlt,List.map_append,List.sum_append];have:F[i]=j:=(bc H).2;rw[this,List.map_cons,List.map_nil,List.sum_cons,List.sum_nil,g2];omega
     have S:=hid (sL HK.out H ho h5);rw[<-ru]at S;obtain⟨SM,b6⟩: ∃SM,((F.take i).map (lq s.heap)).sum=SM:=⟨_,rfl⟩;rw[b6]at Q f5;rw[b6];rw[h8]at Q;clear b6 g2;obtain⟨aq,cq,e1⟩:=ay c;rw[e1]at x1 c;obtain⟨gt,r1,h7,_,a⟩:=aE b.row (by omega);subst r1;have q0:wr.cell? ⟨gt,i,none⟩=some (.int .i64 j):=a _ _ (by simp[dF,H]);have e0:(i:Int)<(F.length:Int):=by omega
     have g7:(j:Int)<(s.heap.length:Int):=by omega
     have m4:=dc ((SM:Int)+1) (by omega) (by omega);have k6:=dc ((SM:Int)+1+(o.fs.length:Int)) (by omega) (by omega);have k4:=dc ((i:Int)+1) (by omega) (by omega);have HQ:=hid b;have f4:=hid c;have m5:=b.but.size;clear a H r E j0 Q h8 HK b c e1 ho;generalize m1:s.heap.length=nh at*;go_wp2_with fail;refine aD (B_ wr) 11 ?_;have hS:B_ wr wr.drew:=aA _ _
     iterate 10 (refine aF (v:=?_) rfl hS ?_ ?_;rotate_left;(focus (intro wS h;have Q0:=(h.kc d2 M);have Q1:=(h.kc q0 h7);have Q2:=(h.kc x0 c8);have Q3:=(h.kc x1 c8);clear h;go_simp;try rfl));dsimp only[Act.put];try simp only[bW])
     refine au rfl ?_;intro KS hKS;go_simp;refine hKS.out _ _ (λ_=>(aa _ _ _).trans (aA _ _)) ?_;clear hKS KS;refine au rfl ?_;intro KS hKS;go_simp;refine hKS.out _ _ nofun ?_;clear hKS KS;refine aI rfl ?_;obtain⟨X,hX⟩: ∃X,(wr.alloc (.cells #[.int .i64 o.cls,.slice aq o.fs.length cq] 265)).drew=X:=⟨_,rfl⟩;have b0:B_ wr X:=by rw[<-hX];exact(aa _ _ _).trans (aA _ _)
     have O:X.heap[wr.heap.size]?=some (.cells #[.int .i64 o.cls,.slice aq o.fs.length cq] 265):=by
      rw[<-hX];exact((aA (λ_=>False) _).block _ (by simp) (λh=>h)).trans (aO wr _)
     rw[hX];have b4:=HQ.out.new b0;have a0:=ag f4.out b0 (λ_ _ h=>h);clear hX b0 hS d2 q0 x0 x1 h7 c8 M HQ f4 hlt c9;generalize i6:wr.heap.size=bo at*;have e6:=ae O;have h3:=cz X _ 1 _ _ (0,0) O;simp at h3;have j2: ¬w.heap.size=bo:=λe=>Cv b4.seen O (by decide) e
     clear i6;clear wr;go_wp2_with fail
     go_loopg [4,11,12] o.fs.length (λmm vt is v12 wx=> ∃(ao:Option Addr) (cap k:Nat) (G:List Nat),vt= .slice ao G.length cap/\is= .int .i64 k/\k<=o.fs.length/\k+mm<=o.fs.length/\o.fs.length<=k+mm/\pj w wx w.heap.size nh ao cap G/\wx.heap[bo]?=some (.cells #[.int .i64 o.cls,.slice aq o.fs.length cq] 265)/\wx.ownsRow w0.heap.size 135 2 (.slice aq o.fs.length cq) o.fs.length (aJ o.fs)/\Hid (G=(cJ (o.fs.take k)).foldl iO F))
     case atStart=>exact⟨_,cap,0,F,rfl,rfl,by omega,by omega,by omega,b4,O,a0,rfl⟩
     case round=>
      clear b4 O a0 h3 e6;obtain⟨ao,cap,k,G,rfl,rfl,j5,e3,j7,b,y,c,A⟩:=hrel;clear e3;have o1:=cz wr _ 1 _ _ (0,0) y;simp at o1;have x:=ae y
      have g0:G.length<=F.length+k:=by
       rw[A.out];have h1:=uv (l:=cJ (o.fs.take k)) (F:=F);have h2:=oE (o.fs.take k);rw[List.length_take]at h2;omega
      by_cases hkl:k<o.fs.length
      .obtain⟨u,hu⟩: ∃u,o.fs[k]?=some u:=⟨_,aG hkl⟩;have k3:=h5 u (bn hu);obtain⟨gf,r1,g3,_,a⟩:=aE c (by omega);subst r1;have f0:wr.cell? ⟨gf,k*2,none⟩=some (.int .u8 u.K):=a _ _ (aP (k:=0) hu (by omega));have f1:wr.cell? ⟨gf,k*2+1,none⟩=some (.int .i64 u.N):=a _ _ (aP (k:=1) hu (by omega));have e4:(k:Int)<(o.fs.length:Int):=by omega
       have k5:=dc ((k:Int)+1) (by omega) (by omega)
       have I:Hid (cJ (o.fs.take (k+1))=cJ (o.fs.take k)++cJ [u]):=by
        show _=_
        obtain⟨hk,he⟩:=bc hu;rw[f7 hk,wA,he]
       clear a hu
       have skip:cJ [u]=[]->Hid (G=(cJ (o.fs.take (k+1))).foldl iO F):=λhe=>by
        show _=_
        rw[I.out,he,List.append_nil];exact A.out
       cases u with
       |i n=>
        have C:=skip rfl;simp only[oC,oD]at f0 f1;clear skip I A;go_wp2_with fail
        go_roundg (o.fs.length-(k+1))
        case measure=>omega
        case rel=>exact⟨ao,cap,k+1,G,rfl,by simp,by omega,by omega,by omega,b.new (aa _ _ _),((aa (λ_=>False) _ _).block _ x (λh=>h)).trans y,ag c (aa (λ_=>False) _ _) (λ_ _ h=>h),C⟩
       |z=>
        have C:=skip rfl;simp only[wn,wu]at f0 f1;clear skip I A;go_wp2_with fail
        go_roundg (o.fs.length-(k+1))
        case measure=>omega
        case rel=>exact⟨ao,cap,k+1,G,rfl,by simp,by omega,by omega,by omega,b.new (aa _ _ _),((aa (λ_=>False) _ _).block _ x (λh=>h)).trans y,ag c (aa (λ_=>False) _ _) (λ_ _ h=>h),C⟩
       |o jj=>
        have L:=k3.lt
        have p:Hid ((cJ (o.fs.take (k+1))).foldl iO F=iO G jj):=by
         show _=_
         rw[I.out,List.foldl_append,<-A.out]
         rfl
        simp only[wv,ww]at f0 f1;obtain⟨s0,z0⟩:=b.seen.at L;have j1:=ae b.seen;have g7:(jj:Int)<(nh:Int):=by omega
        have k7:=b.but.size;clear skip I A
        by_cases hin:jj∈G
        .simp only[hin,decide_true]at s0;have f:Hid (G=(cJ (o.fs.take (k+1))).foldl iO F):=by show _=_;rw[p.out,iO,if_pos hin]
         clear p hin;go_wp2_with fail
         go_roundg (o.fs.length-(k+1))
         case measure=>omega
         case rel=>exact⟨ao,cap,k+1,G,rfl,by simp,by omega,by omega,by omega,b.new (aa _ _ _),((aa (λ_=>False) _ _).block _ x (λh=>h)).trans y,ag c (aa (λ_=>False) _ _) (λ_ _ h=>h),f⟩
        .simp only[hin,decide_false]at s0;have f:Hid (G++ [jj]=(cJ (o.fs.take (k+1))).foldl iO F):=by show _=_;rw[p.out,iO,if_neg hin]
         have P:=ag (ag b.row (aj wr w.heap.size jj (.bool true)) (λg hg e=>b.off (e▸hg))) (aa (λ_=>False) _ (.cells #[.int .u8 111,.int .i64 jj] 135)) (λ_ _ h=>h);clear p hin;go_wp2_with (at_builtin;refine fi rfl _ _ rfl ((wr.setCell ⟨w.heap.size,jj,none⟩ (.bool true)).alloc (.cells #[.int .u8 111,.int .i64 jj] 135)) w.heap.size (.slice ao G.length cap) G jj rfl (wr.heap.size+1) (by simp) rfl (by exact P) (by omega) (by simp;omega) ?_);intro gg cap3 w2 m D t;have B:But (λk=>(Value.slice ao G.length cap).ownBlock=some k) (wr.setCell ⟨w.heap.size,jj,none⟩ (.bool true)) w2:=(aa _ _ _).trans D
         have b3:=b.more (gg:=gg) (cap3:=cap3) L (by rw[aN];exact m) B;have e8:=(B.block bo (by rw[aU];exact x) (bA b.row y (by decide))).trans (((aj wr w.heap.size jj (.bool true)).block bo x (λe=>j2 e.symm)).trans y);have e7:=ag (ag c (aj wr w.heap.size jj (.bool true)) (λg hg e=>bA c b.seen (by decide) (e▸hg))) B (λg hg e=>dJ c b.row (by decide) hg e);clear D B t m b y c P;go_wp2_with fail
         go_roundg (o.fs.length-(k+1))
         case measure=>omega
         case rel=>exact⟨some ⟨gg,0,none⟩,cap3,k+1,G++ [jj],by rw[aN];rfl,by simp,by omega,by omega,by omega,b3,e8,e7,f⟩
      .have e4: ¬(k:Int)<(o.fs.length:Int):=by omega
       have hG:G=(cJ o.fs).foldl iO F:=by rw[A.out,fd (by omega)]
       have C:=hid hG;have b1:G=F++vK F o.fs:=by rw[hG,ru]
       have i0:=hid b1;rw[<-hG]at S;have j3:i+1<=G.length:=by rw[b1,aN];omega
       have m3:=nZ S.out;clear hG A b1;go_wp2_with fail
       go_roundg (nh-(i+1))
       case measure=>omega
       case rel=>exact⟨ao,cap,i+1,G,rfl,by rw[i0.out,f5.out];simp[Int.add_assoc],by simp,j3,by omega,by omega,b,S⟩
    .have e0: ¬(i:Int)<(F.length:Int):=by omega
     have a3:((F.take i).map (lq s.heap)).sum=RS:=by rw[<-i2.out,vN HK.out (by omega),fd (by omega)]
     rw[a3];clear a3;go_wp2_with fail;go_ret;exact⟨rfl,b.but⟩
theorem AI (h:DmQ K w0 w val e hv fv fo s ds) (hT:iF w0 base K.tv L) (hLT:L.map (·.2)=T) (hpc: ∀d∈ds,0<=d.pc) (hfs:DI T s.heap.length (ds.map Fd.fm)) (h12:ds.length<=12) (cs:List cd) (hob:pg cs s.heap) (h4:s.heap.length<=4000):
  Calls prog 179 #[.pointer (some ⟨K.mb,0,none⟩)] w λen w'=>en= .returned (.int .i64 (fy s.heap (je T (ds.map Fd.fm))))/\B_ w w':=by
 have l:fy s.heap (λk=>V.o k∈ds.flatMap (λd=>jI T d.fm))=fy s.heap (je T (ds.map Fd.fm)):=kX (λk=>by
  simp only[je,List.mem_flatMap,List.mem_map];exact⟨λ⟨d,b,hk⟩=>⟨_,⟨d,b,rfl⟩,hk⟩,λ⟨f,⟨d,b,e⟩,hk⟩=>⟨d,b,by rw[e];exact hk⟩⟩)
 rw[<-l];refine CA h (λY hY d hdm=> ?_) (λd hdm=> ?_) h12 cs hob h4
 .obtain⟨⟨st,lo,g⟩,l1,l2,z,r⟩:=hfs d.fm (List.mem_map_of_mem hdm);obtain⟨t,ht,c⟩:=uw g
  obtain⟨p,hp,j⟩: ∃p,L[d.q]?=some p/\p.2=t:=by
   have:=ht;rw[<-hLT,cV]at this;exact Option.map_eq_some_iff.1 this
  obtain⟨i,b⟩:=List.mem_iff_getElem?.1 hdm;have a:=h.new hY;have n:=AF a hT hp (by rw[j];exact c) (a.rw.row (1,i) d.sv d.zv (by simp[cT,b])) (a.rw.row (2,i) d.lv d.loc (by simp[cT,b])) (Nat.le_trans l1 (by omega)) (Nat.le_trans l2 (by omega));have m:jI T d.fm=dQ d.zv st++dQ d.loc lo:=by unfold jI;rw[g];rfl
  rw[<-m,show(d.fm.pc:Int)=d.pc from Int.toNat_of_nonneg (hpc d hdm)]at n;exact n
 .obtain⟨_,l1,l2,_,r⟩:=hfs d.fm (List.mem_map_of_mem hdm);have v:d.zv.length<=1000:=l1;have x:d.loc.length<=1000:=l2;have y:(jI T d.fm).length<=d.zv.length+d.loc.length:=xV T d.fm;exact⟨by omega,r⟩
end
end
end Go.Proofs.YtpfkkmacakjmbaaGreatDoor
