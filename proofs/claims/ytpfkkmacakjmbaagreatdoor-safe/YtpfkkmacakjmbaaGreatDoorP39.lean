import Derived.Test.YtpfkkmacakjmbaaGreatDoorP36
import Derived.Test.YtpfkkmacakjmbaaGreatDoorP38
import Derived.Test.YtpfkkmacakjmbaaGreatDoorRows
import Derived.Stop.LaidErr
set_option maxRecDepth 100000
set_option maxHeartbeats 6400000
set_option linter.all false
namespace Go.Proofs.YtpfkkmacakjmbaaGreatDoor
open Proofs.Tryz
section
open Go Go.RowKit Sp
attribute [local go_sem ↓] dG dH
section
variable {K:Dk} {w0 w w':World} {val e:Int} {hv fv:Value} {fo:List Value} {s:Ev} {ds:List Fd}
def gy (k:Nat):L_:=List.replicate k 122
theorem vq (k:Nat):gy k++ [122]=gy (k+1):=by unfold gy;rw[<-List.replicate_succ']
theorem vr (k:Nat):(gy k).length=k:=by simp[gy]
theorem qu (vs:List V):fB vs (gy vs.length)=vs:=by
 unfold fB gy
 induction vs with
 |nil=>rfl
 |cons v vs ih=>simpa[List.replicate_succ]using ih
structure SnQ (w wr:World) (F:Array Value) (i j:Nat):Prop where
 but:B_ w wr
 fr:wr.heap[w.heap.size]?=some (.cells F 121)
 res:wr.heap[w.heap.size+1]?=some (.cells #[.bool false,.string ⟨#[]⟩,.string ⟨#[]⟩] 91)
 at':wr.heap[w.heap.size+1+1]?=some (.cells #[.bool true,.string ⟨(gy i).toArray⟩,.string ⟨(gy j).toArray⟩] 91)
theorem SnQ.set {wr:World} {F:Array Value} {i j i' j' k:Nat} {v:Value} (h:SnQ w wr F i j) (he:(#[.bool true,.string ⟨(gy i).toArray⟩,.string ⟨(gy j).toArray⟩]:Array Value).setIfInBounds k v=#[.bool true,.string ⟨(gy i').toArray⟩,.string ⟨(gy j').toArray⟩]):SnQ w (wr.setCell ⟨w.heap.size+1+1,k,none⟩ v) F i' j':=
 have hB:=au wr (w.heap.size+1+1) k v
 ⟨h.but.next hB (λx hx e=>by have e:x=w.heap.size+1+1:=e;omega),(hB.block _ (ae h.fr) (λe=>by have e:w.heap.size=w.heap.size+1+1:=e;omega)).trans h.fr,(hB.block _ (ae h.res) (λe=>by have e:w.heap.size+1=w.heap.size+1+1:=e;omega)).trans h.res,by rw[<-he];exact bG _ _ _ _ _ _ h.at'⟩
theorem zP (h:DmQ K w0 w val e hv fv fo s ds) (htv:K.tv= S_) (q:Nat) (pc:Int) (a1 a2:Option Addr) (n1 n2 c1 c2:Nat) (h1:n1<=4000) (h2:n2<=4000):
  Calls prog 242 #[.pointer (some ⟨K.mb,0,none⟩),.agg #[.int .i64 q,.int .i64 pc,.slice a1 n1 c1,.slice a2 n2 c2]] w λen w'=>en= .returned (.agg #[.bool true,.string ⟨(gy n1).toArray⟩,.string ⟨(gy n2).toArray⟩])/\B_ w w':=by
 have k1:=h.mc.cs.2.1;have b0:=h.lt;rw[htv]at k1;clear h htv;obtain⟨X,hX⟩: ∃X,(w.alloc (.cells #[.int .i64 q,.int .i64 pc,.slice a1 n1 c1,.slice a2 n2 c2] 121)).alloc (.cells #[.bool false,.string ⟨#[]⟩,.string ⟨#[]⟩] 91)=X:=⟨_,rfl⟩;have hB:B_ w X:=by rw[<-hX];exact(ag _ _ _).trans (ag _ _ _)
 have hb:X.heap[w.heap.size]?=some (.cells #[.int .i64 q,.int .i64 pc,.slice a1 n1 c1,.slice a2 n2 c2] 121):=by rw[<-hX];exact((ag (λ_=>False) _ _).block _ (by simp) (λh=>h)).trans (aO w _)
 have hr:X.heap[w.heap.size+1]?=some (.cells #[.bool false,.string ⟨#[]⟩,.string ⟨#[]⟩] 91):=by rw[<-hX];exact aB (by simp) _
 have hz:X.heap.size=w.heap.size+2:=by rw[<-hX];simp
 have kx:=hB.kc k1 b0;have b9:K.mb<X.heap.size:=by omega
 have HX:=hid hX;clear hX
 go_in
 go_wp2_with fail;rw[HX.out];clear k1;obtain⟨Y,hY⟩: ∃Y,X.alloc (.cells #[.bool true,.string ⟨#[]⟩,.string ⟨#[]⟩] 91)=Y:=⟨_,rfl⟩;have a0:B_ X Y:=by rw[<-hY];exact ag _ _ _
 have a7:SnQ w Y #[.int .i64 q,.int .i64 pc,.slice a1 n1 c1,.slice a2 n2 c2] 0 0:=⟨hB.trans a0,a0.kp hb,a0.kp hr,by rw[<-hY,<-hz];exact aO X _⟩;rw[hY];clear hY HX kx b9 b0 hb hr hB a0 hz
 go_loopg [6] n1 (λmm is wr=> ∃k:Nat,is= .int .i64 k/\k+mm=n1/\Hid (SnQ w wr #[.int .i64 q,.int .i64 pc,.slice a1 n1 c1,.slice a2 n2 c2] k 0))
 case atStart=>exact⟨0,rfl,by omega,a7⟩
 case round=>
  clear a7;obtain⟨k,rfl,hk,HQ⟩:=hrel;have b2:=ce2 HQ.out.fr;have a8:=ae HQ.out.fr
  by_cases hlt:k<n1
  .have a3:(k:Int)<(n1:Int):=by omega
   have r1:=ce1 HQ.out.at';have z1:=b7 wr _ 1 _ _ HQ.out.at';have b4:=ae HQ.out.at';have a5:=gJ (gy k) 122;rw[vq]at a5;have c9:(⟨(gy k).toArray⟩:ByteArray).size+(⟨#[122]⟩:ByteArray).size<=200000000:=by show(gy k).length+1<=_;rw[vr];omega
   have a4:=hid (HQ.out.set (k:=1) (i':=k+1) (j':=0) (v:= .string ⟨(gy (k+1)).toArray⟩) rfl);clear HQ;go_wp2_with fail
   go_roundg (n1-(k+1))
   case measure=>omega
   case rel=>exact⟨k+1,by simp,by omega,a4⟩
  .have a3: ¬(k:Int)<(n1:Int):=by omega
   have b6:k=n1:=by omega
   subst b6;have a6:=HQ;clear hlt hk HQ;go_wp2_with fail;clear a3 b2 a8
   go_loopg [7] n2 (λmm is wr=> ∃j:Nat,is= .int .i64 j/\j+mm=n2/\Hid (SnQ w wr #[.int .i64 q,.int .i64 pc,.slice a1 k c1,.slice a2 n2 c2] k j))
   case atStart=>exact⟨0,rfl,by omega,a6⟩
   case round=>
    clear a6;obtain⟨j,rfl,hj,HQ⟩:=hrel;have b3:=ce3 HQ.out.fr;have a8:=ae HQ.out.fr;have r2:=ce2 HQ.out.at';have b4:=ae HQ.out.at'
    by_cases hlt:j<n2
    .have a3:(j:Int)<(n2:Int):=by omega
     have z2:=b7 wr _ 2 _ _ HQ.out.at';have a5:=gJ (gy j) 122;rw[vq]at a5;have c9:(⟨(gy j).toArray⟩:ByteArray).size+(⟨#[122]⟩:ByteArray).size<=200000000:=by show(gy j).length+1<=_;rw[vr];omega
     have a4:=hid (HQ.out.set (k:=2) (i':=k) (j':=j+1) (v:= .string ⟨(gy (j+1)).toArray⟩) rfl);clear HQ;go_wp2_with fail
     go_roundg (n2-(j+1))
     case measure=>omega
     case rel=>exact⟨j+1,by simp,by omega,a4⟩
    .have a3: ¬(j:Int)<(n2:Int):=by omega
     have b5:j=n2:=by omega
     subst b5;have r0:=ce0 HQ.out.at';have r1:=ce1 HQ.out.at';have s0:=ce0 HQ.out.res;have s1:=ce1 HQ.out.res;have s2:=ce2 HQ.out.res;have z0:=b7 wr _ 0 _ _ HQ.out.res;have z1:=b7 wr _ 1 _ _ HQ.out.res;have z2:=b7 wr _ 2 _ _ HQ.out.res;have c7:=ae HQ.out.res;have b1:=hid (HQ.out.but.next ((au wr (w.heap.size+1) 0 (.bool true)).trans ((au _ _ 1 (.string ⟨(gy k).toArray⟩)).trans (au _ _ 2 (.string ⟨(gy j).toArray⟩)))) (λk hk e=>by have e:k=w.heap.size+1:=e;omega));clear HQ hlt hj;go_wp2_with fail;exact cW (v:= .agg #[.bool true,.string ⟨(gy k).toArray⟩,.string ⟨(gy j).toArray⟩]) (by simp[results,results242,go_sem,s0,s1,s2,c7]) rfl ⟨rfl,b1.out⟩
theorem zQ (h:DmQ K w0 w val e hv fv fo s ds) (htv:K.tv= S_) {q:Nat} {pc:Int} {sv lv:Value} {zx loc:List V} (h1:w.ownsRow w0.heap.size 135 2 sv zx.length (aV zx)) (h2:w.ownsRow w0.heap.size 135 2 lv loc.length (aV loc)) (h4:zx.length<=4000) (h5:loc.length<=4000):
  Calls prog 225 #[.pointer (some ⟨K.mb,0,none⟩),.agg #[.int .i64 q,.int .i64 pc,sv,lv]] w λen w'=>B_ w w'/\ ∃v,en= .returned v/\w'.ownsRow w.heap.size 3 1 v (cM (zx++loc)).length (dD (cM (zx++loc))):=by
 have:=Bw (q:=q) (pc:=pc) (st:=gy zx.length) (lo:=gy loc.length) (hid (λa1 a2 c1 c2 Y hY=>zP (h.new hY) htv q pc a1 a2 _ _ c1 c2 h4 h5)) h1 h2 h4 h5;rw[qu,qu]at this;exact this
def BC (n:Nat) (fs:List Fm):Prop:= ∀f∈fs,f.zx.length<=1000/\f.loc.length<=1000/\ ∀u∈f.zx++f.loc,ig n u
theorem zR (h:DmQ K w0 w val e hv fv fo s ds) (htv:K.tv= S_) (hfs:BC s.heap.length (ds.map Fd.fm)) (h12:ds.length<=12) (cs:List bV) (hob:nW cs s.heap) (h4:s.heap.length<=4000):
  ∃n:Nat,n<=404000/\ ∀Y,B_ w Y->Calls prog 179 #[.pointer (some ⟨K.mb,0,none⟩)] Y λen w'=>en= .returned (.int .i64 n)/\B_ Y w':=by
 have hA: ∀d∈ds,d.zx.length<=1000/\d.loc.length<=1000/\ ∀u∈d.zx++d.loc,ig s.heap.length u:=λd hd=>hfs d.fm (List.mem_map_of_mem hd)
 refine⟨_,zy hob (λu hu=> ?_) h4,λY hY=>Bx (sl:=λf=>f.zx++f.loc) (h.new hY) (λZ hZ d hdm=> ?_) (λd hdm=> ?_) h12 cs hob h4⟩
 .obtain⟨d,hd,hu⟩:=List.mem_flatMap.1 hu;exact(hA d hd).2.2 u hu
 .obtain⟨i,hd⟩:=List.mem_iff_getElem?.1 hdm;have hM:=(h.new hY).new hZ;obtain⟨l1,l2,_⟩:=hA d hdm;exact zQ hM htv (hM.rw.row (1,i) d.sv d.zx (by simp[cU,hd])) (hM.rw.row (2,i) d.lv d.loc (by simp[cU,hd])) (Nat.le_trans l1 (by omega)) (Nat.le_trans l2 (by omega))
 .obtain⟨l1,l2,l3⟩:=hA d hdm;exact⟨by show(d.zx++d.loc).length<=2000;rw[aZ];omega,l3⟩
end
end
section
open Go Go.RowKit Sp
theorem xK {cs:List Cls} {hp:List Ob} {ts:L_} {vs:List V} (h:STk cs hp ts vs): ∀v∈vs,ig hp.length v:=λv hv=>by
 obtain⟨j,hj⟩:=List.mem_iff_getElem?.1 hv;have h1:=h.at' j v hj
 cases v with
 |i n=>exact Or.inl ⟨n,rfl⟩
 |z=>exact Or.inr (Or.inl rfl)
 |o k=>exact Or.inr (Or.inr ⟨k,rfl,h1.lt⟩)
theorem vu {cs:List Cls} {hp:List Ob} {ts us:L_} {vs ws:List V} (h:STk cs hp ts vs) (k:STk cs hp us ws): ∀v∈vs++ws,ig hp.length v:=λv hv=>by
 obtain hv|hv:=List.mem_append.1 hv
 .exact xK h v hv
 .exact xK k v hv
theorem zS {im:Img} {T:de} {hp:List Ob} {b:Bod} {r:List Fm} (h:jQ im T hp b r): ∀f∈r,∀u∈f.zx++f.loc,ig hp.length u:=by
 induction h with
 |main b hb=>exact λf hf=>(by cases hf)
 |call b g r bg x s l hb hg hx ho hm hs h2 hst hlo hr ih=>
  intro f hf;obtain rfl|hf:=List.mem_cons.1 hf
  .exact vu hst hlo
  .exact ih f hf
theorem DY {im:Img} {T:de} (hF:Fit im T) {f:Fm} {rest:List Fm} {s:Ev} (h:MT im T f rest s):BC s.heap.length (f::rest):=λg hg=>by
 obtain⟨_,l1,l2,_⟩:=(xF hF h).1 g hg;obtain⟨b,x,st,l,hT,hC⟩:=h.top;refine⟨l1,l2,?_⟩;obtain rfl|hg:=List.mem_cons.1 hg
 .exact vu hT.zx hT.loc
 .exact zS hC g hg
section
variable {K:Dk} {w0 w w':World} {im:Img} {T:de} {hv fv:Value} {g cap:Nat} {fo:List Value} {s:Ev} {ds:List Fd} {d:Fd} {b:Bod} {x:Ins} {st l:L_}
theorem DZ (h:DAt K w0 w im T hv g cap fo s ds d b x st l) (htv:K.tv= S_) (hce:K.cells<=100) (ho:x.op.toNat=110): ∃c,Calls prog 67 #[.pointer (some ⟨K.mb,0,none⟩)] w λen w'=>en= .returned (.tuple #[])/\oF K w0 (Sp.stepX im K.inp T c x d.fm (ds.map Fd.fm).reverse s) w':=by
 have hs:=h.sml;have a2:=h.wx.cls (by omega);have a3:=h.fit.wf.nc;have a7:=uS a3 a2;have a8:=mT h.fit.wf.cls a3 (UInt8.ofNat (65+x.a));have a5:=DY h.fit h.mt;have b0:=zA h.fit.wf h.mt.ht;have b2:bH im.zz x.a=(bJ im.zz x.a).length:=rfl;rw[a7]at a8;have a4:BC s.heap.length ((ds++ [d]).map Fd.fm):=λf hf=>a5 f (by simp at hf⊢;rcases hf with⟨a,ha,rfl⟩ |rfl;exact Or.inr ⟨a,ha,rfl⟩;exact Or.inl rfl)
 obtain⟨RS,b1,a6⟩:=zR h.dm htv a4 (by simp;omega) (im.zz.map toX) b0 h.hh;have a1:lu (bz im x) d.zx:=by rw[show bz im x=[]from by simp[bz,ho]];exact sQ
 have a0:=λY (hY:B_ w Y)=>EG (h.dm.new hY) (by omega) h.img a2 (by omega) (λZ hZ=>a6 Z (hY.trans hZ)) h.hh hce b1 ho
 by_cases hc:RS+1+(cr im.zz x.a).length>K.cells
 .refine⟨0,h.step a1 _ (Or.inr (Or.inr (Or.inr (Or.inl ⟨by omega,λY hY=>(a0 Y hY).mono ?_⟩))))⟩;rintro en w' ⟨e,⟨_,hP⟩ | ⟨hn,_⟩⟩
  .exact⟨e,_,_,_,_,_,by omega,by omega,hP,Or.inr ⟨9,rfl,by simp only[Sp.stepX,ho];simp⟩⟩
  .exact absurd hc hn
 .refine⟨md s.heap (Ac T (d.fm::(ds.map Fd.fm).reverse))+1+(cr im.zz x.a).length,h.step a1 _ (Or.inr (Or.inr (Or.inr (Or.inl ⟨by omega,λY hY=>(a0 Y hY).mono ?_⟩))))⟩;rintro en w' ⟨e,⟨hn,_⟩ | ⟨_,hP⟩⟩
  .exact absurd hn hc
  .exact⟨e,_,_,_,_,_,by omega,by omega,hP,Or.inl ⟨rfl,by rw[<-h.on];simp only[Sp.stepX,ho];simp;rfl⟩⟩
theorem CS {n:Nat} (hM:DmQ K w0 w 0 12 hv fv fo s (ds++ [d])) (hpc: ∀d'∈ds++ [d],0<=d'.pc) (hI:dX w0 K.bi im) (hF:Fit im T) (hm:MTn im T d.fm (ds.map Fd.fm).reverse s (n+1)) (ht:fj w0) (htv:K.tv= S_) (hce:K.cells<=100):
  ∃c,Calls prog 67 #[.pointer (some ⟨K.mb,0,none⟩)] w (λen w'=>en= .returned (.tuple #[])/\oF K w0 (jh im K.inp T c ⟨d.fm::(ds.map Fd.fm).reverse,s⟩) w'):=by
 obtain⟨b,x,st,l,a0,hC,_,hR⟩:=xu K.inp K.cells hF hm;have a2:xf im d.fm.q d.fm.pc=some x:=by unfold xf;rw[a0.bd];exact a0.ins
 simp only[jh,a2];obtain⟨g,cap,rfl,a1⟩:=hM.fs;have h:DAt K w0 w im T hv g cap fo s ds d b x st l:=⟨hM,a1,hI,hF,hm.mt,a0,hpc,by have:=hm.hn;omega⟩;have a3:=h.wx.op;simp[cV]at a3
 by_cases h110:x.op.toNat=110
 .exact DZ h htv hce h110
 refine⟨K.cells,?_⟩
 by_cases h107:x.op.toNat=107
 .exact EH h h107
 by_cases h114:x.op.toNat=114
 .exact EI h (by have:=hm.rn;omega) h114
 by_cases h119:x.op.toNat=119
 .exact EK h ht (by have:=hm.on;omega) h119
 by_cases h122:x.op.toNat=122
 .exact EJ h h122
 by_cases h100:x.op.toNat=100
 .exact EM h h100
 by_cases h108:x.op.toNat=108
 .exact EO h h108
 by_cases h115:x.op.toNat=115
 .exact EN h h115
 by_cases h106:x.op.toNat=106
 .exact EP h h106
 by_cases h102:x.op.toNat=102
 .exact EL h h102
 by_cases h101:x.op.toNat=101
 .exact ES h h101
 by_cases h120:x.op.toNat=120
 .exact ET h h120
 by_cases h103:x.op.toNat=103
 .exact EU h h103
 by_cases h112:x.op.toNat=112
 .exact EV h h112
 by_cases h99:x.op.toNat=99
 .exact EX h h99
 by_cases h116:x.op.toNat=116
 .refine EW h (λe=> ?_) h116;subst e;have e1:Sp.stepX im K.inp T K.cells x d.fm (([]:List Fd).map Fd.fm).reverse s= .fin (bE d.zx) s.out:=by simp[Sp.stepX,h116];rfl
  rw[e1]at hR;obtain⟨⟨n,hn,_⟩,_⟩:=hR;exact⟨n,hn⟩
 exact ER h (by omega)
def D0 (K:Dk) (w0:World) (im:Img) (T:de) (n:Nat) (w:World):Prop:=
 (∃hv fv fo s ds d,DmQ K w0 w 0 12 hv fv fo s (ds++ [d])/\(∀d'∈ds++ [d],0<=d'.pc)/\MTn im T d.fm (ds.map Fd.fm).reverse s n)\/
 (∃hv fv fo s ds,∃val:Int,∃e:Nat,(e=0\/(6<=e/\e<=10))/\DmQ K w0 w val e hv fv fo s ds)
theorem BD {n:Nat} (hM:DmQ K w0 w 0 12 hv fv fo s (ds++ [d])) (hpc: ∀d'∈ds++ [d],0<=d'.pc) (hI:dX w0 K.bi im) (hF:Fit im T) (hm:MTn im T d.fm (ds.map Fd.fm).reverse s (n+1)) (ht:fj w0) (htv:K.tv= S_) (hce:K.cells<=100):
  Calls prog 67 #[.pointer (some ⟨K.mb,0,none⟩)] w (λen w'=>en= .returned (.tuple #[])/\D0 K w0 im T n w'):=by
 obtain⟨c,hS⟩:=CS hM hpc hI hF hm ht htv hce;refine hS.mono ?_;rintro en w1 ⟨rfl,hQ⟩;refine⟨rfl,?_⟩;obtain⟨b,x,st,l,_,_,he,hO⟩:=xu K.inp c hF hm;rw[he]at hQ
 cases hsr:Sp.stepX im K.inp T c x d.fm (ds.map Fd.fm).reverse s with
 |go m=>
  rw[hsr]at hQ hO;obtain⟨hv',fv',fo',ds',d',a0,a1,hp'⟩:=hQ;obtain⟨f',r',e,a2⟩:=hO;rw[a1]at e
  cases e
  exact Or.inl ⟨_,_,_,_,_,_,a0,hp',a2⟩
 |bad m o=>
  rw[hsr]at hQ hO;obtain⟨hv',fv',fo',s',ds',ho,a0⟩:=hQ;exact Or.inr ⟨_,_,_,_,_,0,m,Or.inr ⟨hO.1,hO.2.1⟩,a0⟩
 |fin v o=>
  rw[hsr]at hQ hO;obtain⟨hv',fv',fo',s',ho,a0⟩:=hQ;exact Or.inr ⟨_,_,_,_,_,v.N,0,Or.inl rfl,a0⟩
end
end
section
open Go Go.RowKit Sp
attribute [local go_sem ↓] dG dH
def EZ (w w':World) (mb:Nat):Prop:=mb<w'.heap.size/\B_ w w'/\ ∃e:Nat,e<=10/\w'.cell? ⟨mb,9,none⟩=some (.int .i64 e)
theorem DmQ.safQ {K:Dk} {w0 w:World} {val:Int} {e:Nat} {hv fv:Value} {fo:List Value} {s:Ev} {ds:List Fd} (h:DmQ K w0 w val e hv fv fo s ds) (he:e<=10):EZ w0 w K.mb:=⟨h.lt,h.old,e,he,h.mc.cs.2.2.2.2.2.2.2.2.2⟩
section
variable {w:World} {im:Img} {T:de} {bi:Nat} {cells fuel:Nat} {inp:ByteArray}
theorem CT (hI:dX w bi im) (hF:Fit im T) (ht:fj w) (hce:cells<=100) (hfu:fuel<=4000):
  Calls prog 38 #[.pointer (some ⟨bi,0,none⟩),S_,.string inp,.int .i64 cells,.int .i64 fuel] w (λen w'=> ∃mb,en= .returned (.pointer (some ⟨mb,0,none⟩))/\EZ w w' mb):=by
 obtain⟨bs,m,d6,g6⟩:=hF.main;have a0:im.zq.length=bs.length+1:=by rw[d6];simp
 have hq:im.zq[bs.length]?=some m:=by rw[d6];simp
 obtain⟨gb,cb,ak,capk,e2,h4,h6,h5,_,f0,f1,f2,f3,f4⟩:=hI.body hq;rw[a0]at e2;have g3:=(hF.wf.bod m (bp hq)).loc.1;have g7:=hF.wf.nb;have b5:=hid (ru m S_ (.slice ak m.code.length capk) ⟨_,_,_,rfl⟩ [] none 0 w g3 (by simp) 0 (df _ _ _ _));have f6:MTn im T ⟨bs.length,0,[],bn m []⟩ [] ⟨[],0,0,[]⟩ fuel:=⟨AP hF a0 hq,by simp;omega,by simp;omega,by simp;omega⟩;have HS:=hid (λK w' hv fv fo s ds d n hM b1 hm (hK:K.bi=bi/\K.tv= S_/\K.cells=cells)=> @BD K w w' im T hv fv fo s ds d n hM b1 (by rw[hK.1];exact hI) hF hm ht hK.2.1 (by rw[hK.2.2];exact hce));have e3:=hid f6;rw[a0]at g7
 clear f6 hI hF ht d6 g6 a0 hq;generalize bs.length=q at*;obtain⟨i0,g2,h1,h2,h3⟩:=info_parts By;simp only[List.length_nil]at b5
 go_in
 go_wp2_with fail;refine b5.out.mono ?_;rintro en w1 ⟨vl,rfl,c7,a6⟩;obtain⟨al,cl,rfl⟩:=aw c7;clear b5 e2 f0 f1 f2 f3 f4;generalize f8:bn m []=LL at*;clear f8;obtain⟨w2,b2⟩: ∃w2,w1.alloc (.cells #[.pointer (some ⟨bi,0,none⟩),S_,S_,S_,.string inp,.int .i64 0,.int .i64 cells,.string ⟨#[]⟩,.int .i64 0,.int .i64 12] 72)=w2:=⟨_,rfl⟩;have a7:B_ w1 w2:=by rw[<-b2];exact ag _ _ _
 have a3:DmQ ⟨w1.heap.size,bi,S_,inp,cells⟩ w w2 0 12 S_ S_ [] ⟨[],0,0,[]⟩ []:=zJ (a6.trans a7) (by rw[<-b2];exact aO _ _) a6.size;have e4:=hid b2;clear b2;have c3:=a3.mc.cs.2.2.2.1;have z3:=a3.mc.fz 3;have a8:=a3.lt;have e5:=aj c7 a7 (λ_ _ h=>h);have h9:=a6.size;have h8:=a7.size;have b6:=hid a3;have e1:=hid e5;clear a3 c7 e5 a6 a7;generalize f5:LL.length=nl at*;have f7:=hid f5;clear f5;generalize e9:w1.heap.size=mb at*;have e0:=b6.out.fr
 have b3:=hid (λw6 fv'=>b6.out.call (w1:=w6) (fv':=fv') (q:=q) (vl:= .slice al nl cl) (l:=LL) (by rw[f7.out];exact iI e1.out (b8 _)) (λg hg a v l ha=>by
  obtain⟨a,k⟩:=a
  match a with
  |0=>simp[cU]at ha
  |1=>simp[cU]at ha
  |2=>simp[cU]at ha
  |_+3=>simp[cU]at ha))
 rw[<-e4.out]at e0 b3 c3 z3 a8;clear b6 e1 e4;go_wp2_with (at_builtin;refine wpList_append_lies _ rfl _ _ _ rfl w.heap.size 121 i0 _ 4 64 (by kernel_rfl) g2 h1 h2 h3 rfl (by omega) _ 0 [] rfl (e0.alloc _) ⟨mb+1,0,none⟩ 1 1 [.int .i64 q,.int .i64 0,S_,.slice al nl cl] rfl rfl (fX (cs:=#[.int .i64 q,.int .i64 0,S_,.slice al nl cl]) (t:=121) (fr:=(0,0)) (aB (by simp[e9]) _)) (by simp[Value.oneCell']) (by omega) (by unfold maxLen;omega) (by omega) (by simp;omega) (mb+1+1) (by simp[e9]) ?_);intro gg cap3 w6 a2 a1 g1 g4;have a4:=(ag (λk=>(Value.slice none 0 0).ownBlock=some k) _ _).trans (bc a1)
 have y0:=(a4.cell (p:=⟨mb,3,none⟩) a8 (λe=>by cases e)).trans c3;have y1:=(a4.frozen (p:=⟨mb,3,none⟩) a8 (λe=>by cases e)).trans z3;have g5:mb<w6.heap.size:=bq a8 a4.size;have hM:=b3.out w6 (.slice (some ⟨gg,0,none⟩) 1 cap3) a4 (by simpa[d9,fdC]using a2)
 have hJ:D0 ⟨mb,bi,S_,inp,cells⟩ w im T fuel (w6.setCell ⟨mb,3,none⟩ (.slice (some ⟨gg,0,none⟩) 1 cap3)):=
  Or.inl ⟨_,_,_,_,[],_,hM,λd' hd=>by simp at hd;subst hd;exact Int.le_refl 0,e3.out⟩
 have HJ:=hid hJ;clear hJ hM b3 a2 a1 g1 a4 c3 z3 e0 e3;go_wp2_with fail;generalize (w6.setCell ⟨mb,3,none⟩ (.slice (some ⟨gg,0,none⟩) 1 cap3))=w7 at*
 go_loopg [14] fuel (λmm is wr=> ∃k:Nat,is= .int .i64 k/\k+mm<=fuel/\fuel<=k+mm/\Hid (D0 ⟨mb,bi,S_,inp,cells⟩ w im T mm wr))
 case atStart=>exact⟨0,rfl,by omega,by omega,HJ⟩
 case round=>
  clear HJ y0 y1 g5;obtain⟨k,rfl,e6,e7,hJ⟩:=hrel;obtain⟨hv,fv,fo,s,ds,d,hM,b1,hm⟩ | ⟨hv,fv,fo,s,ds,val,e,he,hM⟩:=hJ.out
  .have c9:=hM.mc.cs.2.2.2.2.2.2.2.2.2;have z9:=hM.mc.fz 9;have b0:=hM.lt;have HM:=hid hM;have HP:=hid b1;have a5:=hid hm;simp only at c9 z9 b0;clear hJ hM b1 hm;obtain h0|h0:=Nat.eq_zero_or_pos gk
   .have e8: ¬(k:Int)<(fuel:Int):=by omega
    clear h0 e6 e7 a5 HP;go_wp2_with fail;go_ret;have g0:=HM.out.own (val':=0) (e':=5) (s':=s) (au wr mb 9 (.int .i64 5)) rfl (HM.out.mc.set9 5);refine⟨mb,rfl,?_⟩;exact g0.safQ (e:=5) (by omega)
   .obtain⟨n,hn⟩: ∃n,gk=n+1:=⟨gk-1,by omega⟩;have b4:=hid hn;rw[hn]at a5;have e8:(k:Int)<(fuel:Int):=by omega
    have h7:=er ((k:Int)+1) (by omega) (by omega);clear hn;have HC:=hid (HS.out ⟨mb,bi,S_,inp,cells⟩ wr _ _ _ _ _ _ n HM.out HP.out a5.out ⟨rfl,rfl,rfl⟩);simp only at HC;clear HM HP a5;go_wp2_with fail;refine HC.out.mono ?_;rintro en w8 ⟨rfl,hJ⟩;have HJ:=hid hJ;clear hJ HC c9 z9 b0;go_wp2_with fail
    go_roundg n
    case measure=>have:=b4.out;omega
    case rel=>exact⟨k+1,by simp,by have:=b4.out;omega,by have:=b4.out;omega,HJ⟩
  .have c9:=hM.mc.cs.2.2.2.2.2.2.2.2.2;have b0:=hM.lt;have HM:=hid hM;have b9:=tf e 12 (by omega);simp only at c9 b0;clear hJ hM e6 e7
   by_cases e8:(k:Int)<(fuel:Int)
   all_goals
    go_wp2_with fail;go_ret;refine⟨mb,rfl,?_⟩;exact HM.out.safQ (by omega)
end
theorem BE (x y z k:Int) (s t u:ByteArray) (w:World) (hmax:s.size<=maxLen) (hw:fj w):
  Calls prog 22 #[.agg #[.int .i64 k,.int .i64 x,.int .i64 y,.int .i64 z,.string s,.string t,.string u]] w λen w'=>en= .returned (.bool true)/\B_ w w':=by
 obtain⟨B,hB⟩: ∃B,w.alloc (.cells #[.int .i64 k,.int .i64 x,.int .i64 y,.int .i64 z,.string s,.string t,.string u] 27)=B:=⟨_,rfl⟩;have a6:B_ w B:=by rw[<-hB];exact ag _ _ _
 have hg:B.heap[w.heap.size]?=some (.cells #[.int .i64 k,.int .i64 x,.int .i64 y,.int .i64 z,.string s,.string t,.string u] 27):=by rw[<-hB];exact aO _ _
 have HB:=hid hB;have HC:=hid (p7 s B hmax);obtain⟨e,he⟩: ∃e,(jw s).1=e:=⟨_,rfl⟩;rw[he]at HC;generalize (jw s).2=p at HC;have a0:=a6.size
 have cells: ∀w1,B_ B w1->w.heap.size<w1.heap.size/\w1.cell? ⟨w.heap.size,1,none⟩=some (.int .i64 x)/\w1.cell? ⟨w.heap.size,2,none⟩=some (.int .i64 y)/\w1.cell? ⟨w.heap.size,4,none⟩=some (.string s)/\w1.cell? ⟨w.heap.size,5,none⟩=some (.string t):=λw1 h1=>by
  have h:=h1.kp hg;refine⟨ae h,?_,?_,?_,?_⟩<;>(rw[aX w1 _ _ _ _ (0,0) h];rfl)
 have HL:=hid cells;have a1: ¬(e:Int)=0\/((e:Int)=0/\x<0)\/((e:Int)=0/\ ¬x<0/\100<x)\/((e:Int)=0/\ ¬x<0/\ ¬100<x/\y<0)\/((e:Int)=0/\ ¬x<0/\ ¬100<x/\ ¬y<0/\4000<y)\/((e:Int)=0/\ ¬x<0/\ ¬100<x/\ ¬y<0/\ ¬4000<y/\40<(t.size:Int))\/((e:Int)=0/\ ¬x<0/\ ¬100<x/\ ¬y<0/\ ¬4000<y/\ ¬40<(t.size:Int)):=by omega
 have HE:=hid he;clear hB hg cells he
 go_in
 go_wp2_with fail;rw[HB.out];refine HC.out.mono ?_;rintro en w1 ⟨rfl,a5⟩;obtain⟨l0,c1,c2,c4,c5⟩:=HL.out w1 a5;have a4:=a6.trans a5;clear HC HB;go_wp2_with fail;refine(jZ _ _).mono ?_;rintro en w2 ⟨rfl,rfl⟩;obtain h1| ⟨h1,h2⟩ | ⟨h1,h2,h3⟩ | ⟨h1,h2,h3,h4⟩ | ⟨h1,h2,h3,h4,h5⟩ | ⟨h1,h2,h3,h4,h5,h6⟩ | ⟨h1,h2,h3,h4,h5,h6⟩:=a1
 .have b1:((e:Int)!=0)=true:=by rw[bne_iff_ne];exact h1
  clear h1;go_wp2_with fail
  all_goals go_ret
  all_goals exact⟨rfl,a4⟩
 rotate_right 1
 .obtain⟨im,hl,ht⟩: ∃im,dQ s= .ok im/\ ∃ts,ff im 0 im.zq= .ok ts:=by
   have he:=HE.out;unfold jw at he
   cases hl:dQ s with
   |error q=>
    obtain⟨q,r⟩:=q;rw[hl]at he;have:=yk hl;simp only at he;omega
   |ok im=>
    rw[hl]at he
    cases ht:ff im 0 im.zq with
    |error q=>simp only[ht]at he;omega
    |ok ts=>exact⟨im,rfl,ts,ht⟩
  obtain⟨ts,ht⟩:=ht;have HF:=hid (Ds hl (AR ht));have a2:=hid (vL s w2 hmax);rw[hl]at a2;dsimp only[CZ,tU]at a2;obtain⟨ce,rfl⟩: ∃n:Nat,x=n:=⟨x.toNat,by omega⟩;obtain⟨fu,rfl⟩: ∃n:Nat,y=n:=⟨y.toNat,by omega⟩;have b3:ce<=100:=by omega
  have b4:fu<=4000:=by omega
  have a7:=hid hw;have b1:((e:Int)!=0)=false:=by rw[h1];rfl
  clear hl ht h1 hw;go_wp2_with fail;refine a2.out.mono ?_;rintro en w3 ⟨rfl,a3,hI,_⟩;obtain⟨k0,k1,k2,_,k5⟩:=HL.out w3 (a5.trans a3);have HR:=hid (CT (inp:=t) hI HF.out (a7.out.but (a4.trans a3)) b3 b4);have b0:=a4.trans a3;clear c1 c2 c4 c5 l0 a2 hI a3;go_wp2_with fail;refine HR.out.mono ?_;rintro en w4 ⟨mb,rfl,b5,a8,q,hq,c9⟩;have b2:((q:Int)!=11)=true:=by rw[bne_iff_ne];omega
  clear k0 k1 k2 k5 HR;go_wp2_with fail
  all_goals go_ret
  all_goals exact⟨rfl,b0.trans a8⟩
 all_goals
  have b1:((e:Int)!=0)=false:=by rw[h1];rfl
  clear h1;go_wp2_with fail
  all_goals go_ret
  all_goals exact⟨rfl,a4⟩
def vv (f:Nat) (args:Array Value) (r:Value):Prop:= ∀w,fj w->Calls prog f args w λen w'=>en= .returned r/\B_ w w'
theorem BF {p q:Int}
  (h1:vv 18 #[.string ⟨#[59,59,59,58,107,49,107,50,43,116,46]⟩] (.tuple #[.int .i64 0,.int .i64 p]))
  (h2:vv 19 #[.string ⟨#[59,59,59,58,107,49,107,50,43,116,46]⟩] (.tuple #[.string ⟨#[124,44,105,124,44,105,105,124,44,105,124,44,59]⟩,.int .i64 0]))
  (h3:vv 32 #[.string ⟨#[59,59,59,58,107,49,119,107,50,119,107,51,116,46]⟩,.string ⟨#[]⟩,.int .i64 0,.int .i64 9] (.tuple #[.string ⟨#[49,32,50,32]⟩,.int .i64 3,.int .i64 0]))
  (h4:vv 33 #[.string ⟨#[45,46,65,46,65,46,59,59,59,65,58,115,48,105,49,110,66,110,67,46]⟩] (.tuple #[.int .i64 0,.int .i64 q]))
  (h5:vv 34 #[.string ⟨#[59,59,59,105,58,44,111,60,108,48,53,44,119,108,48,115,48,43,108,48,49,108,48,46]⟩,.string ⟨#[]⟩,.int .i64 200] (.tuple #[.string ⟨#[48,32,49,32,50,32,51,32,52,32]⟩,.int .i64 5,.int .i64 0]))
  (h6: ∀w,fj w->Calls prog 35 #[.string ⟨#[59,59,59,58,43,51,52,46]⟩] w λen w'=>(∃s:ByteArray,en= .returned (.tuple #[.string s,.int .i64 0])/\0<s.size)/\B_ w w')
  (w:World) (ht:fj w):Calls prog 17 #[] w λen w'=>en= .returned (.bool true)/\B_ w w':=by
 have H2:=hid (λw1 h=>h2 w1 (ht.but h));have H3:=hid (λw1 h=>h3 w1 (ht.but h));have H4:=hid (λw1 h=>h4 w1 (ht.but h));have H5:=hid (λw1 h=>h5 w1 (ht.but h));have H6:=hid (λw1 h=>h6 w1 (ht.but h));have H1:=hid (h1 w ht);clear h1 h2 h3 h4 h5 h6 ht
 go_in
 go_wp2_with fail;refine H1.out.mono ?_;rintro en w1 ⟨rfl,a4⟩;go_wp2_with fail;refine(H2.out _ a4).mono ?_;rintro en w2 ⟨rfl,a0⟩;replace a0:=a4.trans a0;go_wp2_with fail;refine(H3.out _ a0).mono ?_;rintro en w3 ⟨rfl,a1⟩;replace a1:=a0.trans a1;go_wp2_with fail;refine(H4.out _ a1).mono ?_;rintro en w4 ⟨rfl,a2⟩;replace a2:=a1.trans a2;go_wp2_with fail;refine(H5.out _ a2).mono ?_;rintro en w5 ⟨rfl,a3⟩;replace a3:=a2.trans a3;go_wp2_with fail;refine(H6.out _ a3).mono ?_;rintro en w6 ⟨⟨s,rfl,hs⟩,a5⟩;replace a5:=a3.trans a5
 have a6:s.toList.isEmpty=false:=by
  obtain⟨d⟩:=s;rw[ByteArray.toList_eq]
  show d.toList.isEmpty=false
  have:0<d.size:=hs
  cases h:d.toList with
  |nil=>rw[<-Array.length_toList,h]at this;cases this
  |cons=>rfl
 clear H1 H2 H3 H4 H5 H6 a4 a0 a1 a2 a3 hs;go_wp2_with fail;refine(jZ _ _).mono ?_;rintro en w7 ⟨rfl,rfl⟩;go_wp2_with fail;refine(jZ _ _).mono ?_;rintro en w7 ⟨rfl,rfl⟩;go_wp2_with fail;refine(jZ _ _).mono ?_;rintro en w7 ⟨rfl,rfl⟩;go_wp2_with fail;refine(jZ _ _).mono ?_;rintro en w7 ⟨rfl,rfl⟩;go_wp2_with fail;refine(jZ _ _).mono ?_;rintro en w7 ⟨rfl,rfl⟩;go_wp2_with fail;refine(jZ _ _).mono ?_;rintro en w7 ⟨rfl,rfl⟩;go_wp2_with fail
 all_goals go_ret
 all_goals exact⟨rfl,a5⟩
end
section
open Go Sp
theorem BG:jw ⟨#[59,59,59,58,107,49,107,50,43,116,46]⟩=(0,0):=by decide+kernel
theorem BH:rU ⟨#[59,59,59,58,107,49,107,50,43,116,46]⟩=([124,44,105,124,44,105,105,124,44,105,124,44,59],0):=by decide+kernel
theorem CU:gD ⟨#[45,46,65,46,65,46,59,59,59,65,58,115,48,105,49,110,66,110,67,46]⟩=(0,0):=by decide+kernel
theorem CV:gD ⟨#[59,59,59,58,43,51,52,46]⟩=(0,0):=by decide+kernel
end
section
open Go Go.RowKit Sp
attribute [local go_sem ↓] dG dH
def bR:Bod:=⟨-1,-1,[],[⟨107,0,1,4⟩,⟨119,0,0,6⟩,⟨107,0,2,7⟩,⟨119,0,0,9⟩,⟨107,0,3,10⟩,⟨116,0,0,12⟩]⟩
def imR:Img:=⟨[],[],[bR]⟩
def tR:de:=[[some ([],[]),some ([105],[]),some ([],[]),some ([105],[]),some ([],[]),some ([105],[])]]
def fR (i:Nat):Fm:=⟨0,i,if i % 2=1 then [.i ((i / 2+1:Nat):Int)]else [],[]⟩
def oR (i:Nat):L_:=if i<=1 then []else if i<=3 then [49,32]else [49,32,50,32]
def JR (f:Fm) (fs:List Fm) (s:Ev) (_:Nat):Prop:=fs=[]/\ ∃i,i<=5/\f=fR i/\s=⟨[],0,0,oR i⟩
section
variable {w0 w:World} {mb tx:Nat} {tv:Value} {bw cells:Nat} {inp:ByteArray}
theorem zT (hT:eS w0 tx imR) (ht:fj w0):Bt JR w0 imR tR mb tx tv bw cells inp:=by
 rintro w r rs f fs s vo vb gs fv cn sn ans n hM ⟨rfl,i,hi,rfl,rfl⟩ b0
 have hb:r.b=bR:=by
  have:=hM.fr.1.hb;exact(Option.some.inj this).symm
 have a7:rs=[]:=by
  cases rs with
  |nil=>rfl
  |cons q rs=>exact hM.fr.2.1.elim
 subst a7;have a2:(imR.zz.map toX).length<=100:=by decide
 have a3:imR.zj.length<=100:=by decide
 have a1:(bu imR.zj r.b).items.length<=100:=by rw[hb];decide
 have a4:(fR i).zx.length<=4000:=by unfold fR;dsimp only;split<;>simp
 have K: ∀(x:Ins),bR.code[i]?=some x->x.op.toNat=107->x.b<100->(fR i).zx=[]->Calls prog 88 #[.pointer (some ⟨mb,0,none⟩)] w (λen w'=> ∃e,en= .returned (.int .i64 e)/\xH w0 imR tR mb tx tv bw cells ans inp cn (.go ⟨[⟨0,i+1,[.i x.b],[]⟩],⟨[],0,0,oR i⟩⟩) e w'):=by
  intro x hx ho a8 hk;refine(xG true hM hT a2 a3 a4 (by show i<=1000;omega) a1 (bP x) (by rw[hb];show(bR.code.map bP)[i]?=_;rw[cg,hx];rfl) 0 (by simp[aE,bP,ho]) (by omega) (by omega) (by simp only[bP];omega) (by simp[aM,bP,ho]) (.ok (.i x.b) [] ⟨[],0,0,oR i⟩) (λP' X hX=> ?_)).mono ?_
  .rw[u7 ho];exact C1 hX _ _ _ _ _ _ _ _ a8
  .rintro en w1 ⟨e,rfl,u,e',s',vo',vb',gs',fv',sn',r',h1,a0,h3⟩;refine⟨e,rfl,?_⟩;injection a0 with a0;injection a0 with _ a0;subst a0;obtain⟨rfl,rfl,rfl⟩:=h1;simp only[tkR,hk]at h3;exact⟨rfl,_,vo',vb',gs',fv',cn,sn',by omega,h3⟩
 have Wr: ∀(x:Ins) (m:Nat),bR.code[i]?=some x->x.op.toNat=119->m<=9->(fR i).zx=[.i (m:Int)]->oR i++Lib.itoa (m:Int)++ [32]=oR (i+1)->Calls prog 88 #[.pointer (some ⟨mb,0,none⟩)] w (λen w'=> ∃e,en= .returned (.int .i64 e)/\xH w0 imR tR mb tx tv bw cells ans inp cn (.go ⟨[⟨0,i+1,[],[]⟩],⟨[],0,0,oR (i+1)⟩⟩) e w'):=by
  intro x m hx ho hm hk he;rw[<-he];refine(xG false hM hT a2 a3 a4 (by show i<=1000;omega) a1 (bP x) (by rw[hb];show(bR.code.map bP)[i]?=_;rw[cg,hx];rfl) 1 (by simp[aE,bP,ho]) (by omega) (by rw[hk];simp) (by simp only[bP];omega) (by simp[aM,bP,ho]) (.ok (.i 0) [] (Ev.say ⟨[],0,0,oR i⟩ m)) (λP' X hX=> ?_)).mono ?_
  .rw[u7 ho];simp only[tkA,tkB,hk,bE];exact C2 hX ht m (by omega) (by omega) (by show(oR i).length<=90000;unfold oR;split;simp;split<;>simp) _ _ _ _ _ _ _
  .rintro en w1 ⟨e,rfl,u,e',s',vo',vb',gs',fv',sn',r',h1,a0,h3⟩;refine⟨e,rfl,?_⟩;injection a0 with a0;injection a0 with _ a0;subst a0;obtain⟨rfl,rfl,rfl⟩:=h1;simp only[tkR,hk,bB]at h3;exact⟨rfl,_,vo',vb',gs',fv',cn,sn',by omega,h3⟩
 have h6:i=0\/i=1\/i=2\/i=3\/i=4\/i=5:=by omega
 obtain rfl|rfl|rfl|rfl|rfl|rfl:=h6
 .have e:jh imR inp tR cells ⟨[fR 0],⟨[],0,0,oR 0⟩⟩= .go ⟨[fR 1],⟨[],0,0,oR 1⟩⟩:=by kernel_rfl
  rw[e];exact⟨K _ rfl rfl (by decide) rfl,_,[],rfl,rfl,1,by omega,rfl,rfl⟩
 .have e:jh imR inp tR cells ⟨[fR 1],⟨[],0,0,oR 1⟩⟩= .go ⟨[fR 2],⟨[],0,0,oR 2⟩⟩:=by kernel_rfl
  rw[e];exact⟨Wr _ 1 rfl rfl (by omega) rfl (by kernel_rfl),_,[],rfl,rfl,2,by omega,rfl,rfl⟩
 .have e:jh imR inp tR cells ⟨[fR 2],⟨[],0,0,oR 2⟩⟩= .go ⟨[fR 3],⟨[],0,0,oR 3⟩⟩:=by kernel_rfl
  rw[e];exact⟨K _ rfl rfl (by decide) rfl,_,[],rfl,rfl,3,by omega,rfl,rfl⟩
 .have e:jh imR inp tR cells ⟨[fR 3],⟨[],0,0,oR 3⟩⟩= .go ⟨[fR 4],⟨[],0,0,oR 4⟩⟩:=by kernel_rfl
  rw[e];exact⟨Wr _ 2 rfl rfl (by omega) rfl (by kernel_rfl),_,[],rfl,rfl,4,by omega,rfl,rfl⟩
 .have e:jh imR inp tR cells ⟨[fR 4],⟨[],0,0,oR 4⟩⟩= .go ⟨[fR 5],⟨[],0,0,oR 5⟩⟩:=by kernel_rfl
  rw[e];exact⟨K _ rfl rfl (by decide) rfl,_,[],rfl,rfl,5,by omega,rfl,rfl⟩
 .have e:jh imR inp tR cells ⟨[fR 5],⟨[],0,0,oR 5⟩⟩= .fin (.i 3) (oR 5):=by kernel_rfl
  rw[e];refine⟨?_,⟨3,rfl,by decide,by decide⟩,rfl⟩;have hx:(bu imR.zj r.b).items[5]?=some (bP ⟨116,0,0,12⟩):=by rw[hb];rfl
  have a5:(aE (imR.zz.map toX) imR.zj (bP ⟨116,0,0,12⟩).op (bP ⟨116,0,0,12⟩).cls (bP ⟨116,0,0,12⟩).num (bu imR.zj r.b).ans).length=1:=by rw[hb];rfl
  refine xE (λe w'=>xH w0 imR tR mb tx tv bw cells ans inp cn (.fin (.i 3) (oR 5)) e w') hM hT a2 a3 a4 a1 _ hx (by omega) (by rw[a5];decide) (λY sv' hM=> .inr (.inr (.inl ⟨rfl,?_⟩)));rw[a5]at hM⊢;refine(DL hM _).mono ?_;rintro en w1 ⟨rfl,a6⟩;exact⟨rfl,rfl,_,_,_,_,_,_,_,rfl,a6⟩
end
theorem lR:dQ ⟨#[59,59,59,58,107,49,119,107,50,119,107,51,116,46]⟩= .ok imR:=by kernel_rfl
theorem Ff:ff imR 0 imR.zq= .ok tR:=by kernel_rfl
theorem Fg:vE imR ⟨#[]⟩ tR 0 9=([49,32,50,32],3,0):=by kernel_rfl
theorem Fh (w:World) (htab:fj w):
  Calls prog 32 #[.string ⟨#[59,59,59,58,107,49,119,107,50,119,107,51,116,46]⟩,.string ⟨#[]⟩,.int .i64 0,.int .i64 9] w λen w'=>en= .returned (.tuple #[.string ⟨#[49,32,50,32]⟩,.int .i64 3,.int .i64 0])/\B_ w w':=by
 have key:Calls prog 36 #[.string ⟨#[59,59,59,58,107,49,119,107,50,119,107,51,116,46]⟩] w λen w'=>B_ w w'/\ ∃g ao n cap,en= .returned (.agg #[.int .i64 0,.int .i64 0,.pointer (some ⟨g,0,none⟩),.slice ao n cap])/\eS w' g imR/\ ∃l,l.length=n/\l.map (·.2)=tR/\iu w' w.heap.size (.slice ao n cap) l:=by
  refine(kr _ w (by unfold maxLen;decide)).mono ?_;rintro en w' ⟨hB,hE⟩;refine⟨hB,?_⟩;unfold kJ at hE;rw[lR]at hE;simp only at hE;rw[Ff]at hE;obtain⟨g,ao,cap,l,h1,h2,h3,h4⟩:=hE;exact⟨g,ao,l.length,cap,h1,h4,l,rfl,h2,h3⟩
 have HK:=hid key;clear key
 go_in
 go_wp2_with fail;refine HK.out.mono ?_;rintro en w1 ⟨a1,g,ao,n,cap,rfl,a0,l,hl,a3,hX⟩
 have HE:Hid (∀ob,Calls prog 58 #[.pointer (some ⟨g,0,none⟩),.slice ao n cap,.string ⟨#[]⟩,.int .i64 0,.int .i64 9] (w1.alloc ob) λen w'=>en= .returned (.tuple #[.string ⟨#[49,32,50,32]⟩,.int .i64 3,.int .i64 0])/\B_ (w1.alloc ob) w'):=λob=>by
  have hA:B_ w1 (w1.alloc ob):=ag _ _ _;have:=CB (J:=JR) (inp:=⟨#[]⟩) (cells:=0) (fuel:=9) (a0.but hA) (uN lR) rfl (bs:=[]) (m:=bR) rfl ⟨rfl,0,by omega,rfl,rfl⟩ (λmb bw=>zT (a0.but hA) ((htab.but a1).but hA)) (hX.but hA) a3 (by omega);rw[Fg]at this;exact this
 clear a0 hX HK;go_wp2_with fail;refine(HE.out _).mono ?_;rintro en w2 ⟨rfl,a2⟩;clear HE;go_wp2_with fail;refine(sM 0 (Or.inl rfl) w2).mono ?_;rintro en w3 ⟨rfl,rfl⟩;go_wp2_with fail;exact cW (v:= .tuple #[.string ⟨#[49,32,50,32]⟩,.int .i64 3,.int .i64 0]) (by simp[results,results32,go_sem]) rfl ⟨rfl,(a1.trans (ag _ _ _)).trans a2⟩
def D1 (c:UInt8):Bool:=cd c|| [108,115,119,44,43,60,111].contains c.toNat
section
variable {P:Nat->Prop} {w0 w:World} {be bw tx bl:Nat} {inp:ByteArray} {s:Ev} {lv vo vb:Value} {l:List V} {gs:List Nat} {fv:List Value} {im:Img} {b:Bod} {bf d:Nat} {Xb:bM} {vl vi:Value}
theorem CW {f:Nat} (htab:fj w0) (hR:eT im) (hfew: ∀b∈im.zq,∀x∈b.code,D1 x.op=true):DoC im inp w0 be bw tx f:=by
 intro P w s bl lv l vo vb gs fv b bf d Xb vl vi B ts tt h hF a6 hs c7 hd x a8 a7 b3 a3 a4 u v hu hv a0 pl pn pc pa;have hW:=hR.wf;have a5:=hW.nc;have hx:=(hW.bod b a6).code x a8;have hf:=hfew b a6 x a8;simp only[D1,Bool.or_eq_true]at hf;unfold doV itN;obtain h1|h1:=hf
 .obtain⟨e1,e2⟩:=uT h1;have b9:48<=x.op.toNat/\x.op.toNat<=57:=by simpa[cd]using h1
  have h0:aA x.op=0:=by
   unfold aA;rw[if_neg a3,if_neg (by simp;omega),if_neg (by simp;omega)]
  rw[if_pos h0,e1,e2,show og im inp x l s= .ok (.i x.b) l s from by unfold og;rw[if_neg (by omega),if_neg (by omega),if_neg (by omega),if_neg (by omega)]];exact qd h u v pl 107 x.b pn pc _ pa _ (by decide) (by decide) (by decide) (by decide) (λX hX=>DF (h.grown hX) ⟨rfl,rfl⟩ (C1 (h.grown hX).wq u v pl x.b pn pc _ pa hx.num))
 have h2:x.op.toNat=108\/x.op.toNat=115\/x.op.toNat=119\/x.op.toNat=44\/x.op.toNat=43\/x.op.toNat=60:=by simp at h1;omega
 obtain⟨e1,e2,_⟩:=ny (x:=x) (by omega);rw[e1,e2];have hA: ∀n,aA x.op=n->ts.length=n:=λn e=>by rw[a4,e]
 obtain h1|h1|h1|h1|h1:=h2
 .rw[if_pos (by simp[aA,h1]),h1,show og im inp x l s= .ok (l.getD x.b .z) l s from by unfold og;rw[if_neg (by omega),if_neg (by omega),if_pos h1]];have hb:=hx.loc (Or.inl h1);rw[<-a7.len]at hb;exact Eo h hF u v pl x.b pn pc _ pa _ (by simp[hb])
 .rw[if_neg (by simp[aA,h1]),if_pos (by simp[aA,h1]),h1,show tj im x u l s= .ok (.i 0) (l.set x.b u) s from by unfold tj;rw[if_pos h1]];exact Ep h hF u v pl x.b pn pc _ pa (by rw[a7.len];exact hx.loc (Or.inr h1))
 .have b4:=hA 1 (by simp[aA,h1])
  match ts,b4,hu,a0 with
  | [ta],_,hu,a0=>
   simp[bT,dJ,cj,Sp.arith,h1]at a0;obtain⟨m,rfl,m1,m2⟩:=((hu ta rfl).sub hW.cls a5 hs.ht (t':=105) (xp (by simpa using a0.1)) (by decide)).int (by decide);rw[if_neg (by simp[aA,h1]),if_pos (by simp[aA,h1]),h1,show tj im x (.i m) l s= .ok (.i 0) l (s.say m)from by unfold tj;simp[h1,V.N]];exact qd h (.i m) v pl 119 x.b pn pc _ pa _ (by decide) (by decide) (by decide) (by decide) (λX hX=>DF (h.grown hX) ⟨rfl,rfl⟩ (C2 (h.grown hX).wq htab m m1 m2 (by have:=hs.o;omega) v pl x.b pn pc _ pa))
 .rw[if_neg (by simp[aA,h1]),if_neg (by simp[aA,h1]),h1,show tk im (λb' l'=>cL im inp f b' (d+1) 0 l' s) d x u v l s= .ok v l s from by unfold tk;rw[if_pos h1]];exact zn h hF u v pl x.b pn pc _ pa
 .have b0:x.op.toNat=43\/x.op.toNat=45\/x.op.toNat=42\/x.op.toNat=60\/x.op.toNat=61\/x.op.toNat=47:=by omega
  have b5:=hA 2 (by rcases h1 with h1|h1<;>simp[aA,h1]);have b6:arith x.op.toNat=true:=by rcases h1 with h1|h1<;>simp[Sp.arith,h1]
  match ts,b5,hu,hv,a0 with
  | [ta,tc],_,hu,hv,a0=>
   have hf:eG im.zz [ta,tc] [105,105]=true:=by
    obtain h1|h1:=h1<;>simp[bT,dJ,Sp.arith,h1]at a0<;>simpa using a0.1
   obtain⟨q1,q2⟩:=AM hf;obtain⟨a,rfl,a1,a2⟩:=((hu ta rfl).sub hW.cls a5 hs.ht (t':=105) q1 (by decide)).int (by decide);obtain⟨c,rfl,b1,b2⟩:=((hv tc rfl).sub hW.cls a5 hs.ht (t':=105) q2 (by decide)).int (by decide);rw[if_neg (by rcases h1 with h1|h1<;>simp[aA,h1]),if_neg (by rcases h1 with h1|h1<;>simp[aA,h1]),show tk im (λb' l'=>cL im inp f b' (d+1) 0 l' s) d x (.i a) (.i c) l s=eP x.op.toNat (V.i a).N (V.i c).N l s from by unfold tk;rw[if_neg (by omega),if_neg (by omega),if_neg (by omega),if_neg (by omega)]];exact qd h (.i a) (.i c) pl x.op.toNat x.b pn pc _ pa _ (by omega) (by omega) (by omega) (by omega) (λX hX=>DF (h.grown hX) (sN _ _ _ _ _) (En (h.grown hX).wq x.op.toNat b0 a c a1 a2 b1 b2 pl x.b pn pc _ pa))
end
def imE:Img:=⟨[],[],[⟨-1,-1,[105],[⟨44,0,0,5⟩,⟨111,0,0,6⟩,⟨60,0,0,7⟩,⟨108,0,0,8⟩,⟨53,0,5,10⟩,⟨44,0,0,11⟩,⟨119,0,0,12⟩,⟨108,0,0,13⟩,⟨115,0,0,15⟩,⟨43,0,0,17⟩,⟨108,0,0,18⟩,⟨49,0,1,20⟩,⟨108,0,0,21⟩]⟩]⟩
def zU:ByteArray:=⟨#[59,59,59,105,58,44,111,60,108,48,53,44,119,108,48,115,48,43,108,48,49,108,48,46]⟩
theorem lE:fY zU= .ok imE:=by kernel_rfl
theorem scE:gD zU=(0,0):=by decide+kernel
theorem tyE:imE.zq.findIdx? (λb=> !fe imE b)=none:=by decide+kernel
theorem evE:oh imE ⟨#[]⟩ 200=([48,32,49,32,50,32,51,32,52,32],5,0):=by decide+kernel
theorem Fi: ∀b∈imE.zq,∀x∈b.code,D1 x.op=true:=by
 intro b hb x hx;have hb:b=_:=List.mem_singleton.1 hb;subst hb;revert x
 decide
theorem E0 (w:World) (htab:fj w):
  Calls prog 34 #[.string zU,.string ⟨#[]⟩,.int .i64 200] w λen w'=>en= .returned (.tuple #[.string ⟨#[48,32,49,32,50,32,51,32,52,32]⟩,.int .i64 5,.int .i64 0])/\B_ w w':=by
 have key:Calls prog 60 #[.string zU] w λen w'=>B_ w w'/\ ∃g,en= .returned (.agg #[.int .i64 0,.int .i64 0,.pointer (some ⟨g,0,none⟩),S_])/\ii w' g imE:=by
  refine(jA zU w (by unfold maxLen;decide)).mono ?_;rintro en w' ⟨hB,hE⟩;refine⟨hB,?_⟩;unfold lV at hE;rw[lE]at hE;simp only at hE;rw[tyE]at hE;obtain⟨g,h1,h2,h3⟩:=hE;exact⟨g,h1,h3⟩
 have HK:=hid key;have hR:eT imE:=ut (by decide) lE (by rw[scE]);generalize zU=src at*;clear key
 go_in
 go_wp2_with fail;refine HK.out.mono ?_;rintro en w1 ⟨a0,g,rfl,a1⟩
 have HE:Hid (∀ob,Calls prog 61 #[.pointer (some ⟨g,0,none⟩),.string ⟨#[]⟩,.int .i64 200] (w1.alloc ob) λen w'=>en= .returned (.tuple #[.string ⟨#[48,32,49,32,50,32,51,32,52,32]⟩,.int .i64 5,.int .i64 0])/\B_ (w1.alloc ob) w'):=λob=>by
  have hA:B_ w1 (w1.alloc ob):=ag _ _ _;have:=Bn (w1.alloc ob) g ⟨#[]⟩ 200 (by omega) imE (a1.but hA) hR (λbe bw f _=>CW ((htab.but a0).but hA) hR Fi);rw[evE]at this;exact this
 clear a1 HK;go_wp2_with fail;refine(HE.out _).mono ?_;rintro en w2 ⟨rfl,a2⟩;clear HE;go_wp2_with fail;refine(uY 0 (Or.inl rfl) w2).mono ?_;rintro en w3 ⟨rfl,rfl⟩;go_wp2_with fail;exact cW (v:= .tuple #[.string ⟨#[48,32,49,32,50,32,51,32,52,32]⟩,.int .i64 5,.int .i64 0]) (by simp[results,results34,go_sem]) rfl ⟨rfl,(a0.trans (ag _ _ _)).trans a2⟩
end
section
open Go Go.RowKit Sp
theorem zV (w:World) (ht:fj w):Calls prog 17 #[] w λen w'=>en= .returned (.bool true)/\B_ w w':=by
 have m: ∀n:Nat,n<=100->n<=maxLen:=λn h=>by unfold maxLen;omega
 have h1:=λw (_:fj w)=>p7 ⟨#[59,59,59,58,107,49,107,50,43,116,46]⟩ w (m _ (by decide))
 have h2:=λw (_:fj w)=>wF ⟨#[59,59,59,58,107,49,107,50,43,116,46]⟩ w (m _ (by decide))
 have h3:=Fh;have h4:=λw (_:fj w)=>yX ⟨#[45,46,65,46,65,46,59,59,59,65,58,115,48,105,49,110,66,110,67,46]⟩ w (m _ (by decide))
 have h5:=E0;have h6:=λw (h:fj w)=>sV ⟨#[59,59,59,58,43,51,52,46]⟩ w (m _ (by decide)) h
 rw[BG]at h1;rw[BH]at h2;rw[CU]at h4;rw[CV]at h6;refine BF h1 h2 h3 h4 h5 (λw h=>(h6 w h).mono ?_) w ht;rintro en w' ⟨⟨r,e,hr⟩,hB⟩;exact⟨⟨r,e,hr rfl⟩,hB⟩
end
section
open Go Go.RowKit Sp
attribute [local go_sem ↓] dG dH
theorem BI (ao:Option Addr) (n cap:Nat) (w:World) (hw:fj w) (hO:CX w ao n):
  Calls prog 7 #[.slice ao n cap] w λen w'=>en= .returned (.bool true)/\B_ w w':=by
 have HA:=hid (λw1 (hB:B_ w w1)=>zV w1 (hw.but hB));have HW:=hid hw;clear hw
 go_in
 go_wp2_with fail;have hn:n<=9223372036854775807:=hO.1
 go_loopg [3] n (λmm is wr=> ∃(k:Nat),is= .int .i64 k/\k<=n/\k+mm<=n/\n<=k+mm/\B_ w wr)
 case atStart=>exact⟨0,rfl,by omega,by omega,by omega,But.refl _ _⟩
 case round=>
  obtain⟨k,rfl,a6,a4,a7,a0⟩:=hrel;clear a4
  by_cases a2:k<n/\(k:Int)<1152921504606846976
  .obtain⟨a2,b0⟩:=a2;have a8:(k:Int)<(n:Int):=by omega
   obtain⟨b,o,rfl,hb,hA⟩:=hO.2 (by omega);obtain⟨kd,s,⟨x,y,z,t,u,q0,q1,q2,q3,q4,q5,q6⟩,hs⟩:=hA k a2;have a5:b<wr.heap.size:=bq hb a0.size;rw[<-a0.cell (p:=⟨b,_,none⟩) hb (λh=>h)]at q0 q1 q2 q3 q4 q5 q6;clear hA;have b1:IntKind.i64.wrap ((k:Int)+1)=(k:Int)+1:=(IntWalk.i64_left _).trans (IntWalk.wrap64_in _ ⟨by omega,by omega⟩);have HS:=hid (BE x y z kd s t u wr hs (HW.out.but a0));go_wp2_with fail;refine HS.out.mono ?_;rintro en w1 ⟨rfl,a1⟩;replace a1:=a0.trans a1;clear q0 q1 q2 q3 q4 q5 q6 HS;go_wp2_with fail
   go_roundg (n-(k+1))
   case measure=>omega
   case rel=>exact⟨k+1,by simp,by omega,by omega,by omega,a1⟩
  .have h2: ¬((k:Int)<(n:Int))\/((k:Int)<(n:Int)/\ ¬(k:Int)<1152921504606846976):=by omega
   obtain h2| ⟨h1,h2⟩:=h2
   all_goals
    go_wp2_with fail;refine(HA.out _ a0).mono ?_;rintro en w1 ⟨rfl,a1⟩;have a3:=a0.trans a1;go_wp2_with fail;exact du (.bool true) results7 rfl rfl ⟨rfl,a3⟩
end
section
open Go
theorem sW {W:World} (h:laidMet prog Rows.safeRow.laid W):fj W:=
 Lib.tabIs_of_head (rest:=[]) (g:=0) (t:=329) (e:=323) (n:=20) (by kernel_rfl) (by kernel_rfl) (by kernel_rfl) (by kernel_rfl) (by kernel_rfl) (by kernel_rfl) h.tail.tail
end
end Go.Proofs.YtpfkkmacakjmbaaGreatDoor
