import Derived.Test.YtpfkkmacakjmbaaGreatDoorP27
set_option maxRecDepth 100000
set_option maxHeartbeats 6400000
set_option linter.unusedSimpArgs false
set_option linter.unusedVariables false
namespace Go.Proofs.YtpfkkmacakjmbaaGreatDoor
section
open Go Go.RowKit Sp
attribute [local go_sem ↓] Go.wp_at_zero Go.wp_at_succ
theorem py {fn:Func} {R:Ending→World→Prop} {a:Act} {w:World} {c g:Nat} {a0 a1 a2 a3 x0 x1 x2 x3:Value} (hf:fn.results=#[.cell c 60]) (hd:a.defers=[]) (hc:a.tmps.getD c undef= .pointer (some ⟨g,0,none⟩)) (h:w.heap[g]?=some (.cells #[a0,a1,a2,a3] 60)) (hR: ∀w9,w9.heap[g]?=some (.cells #[x0,x1,x2,x3] 60)→But (· =g) w w9→R (.returned (.agg #[x0,x1,x2,x3])) w9):bodyPost Tryz.prog fn R .ret a ((((w.setCell ⟨g,0,none⟩ x0).setCell ⟨g,1,none⟩ x1).setCell ⟨g,2,none⟩ x2).setCell ⟨g,3,none⟩ x3):=by
 have h9:=dW h x0 x1 x2 x3;have r0:=ce0 h9;have r1:=ce1 h9;have r2:=ce2 h9;have r3:=ce3 h9;refine bodyPost_ret (v:= .agg #[x0,x1,x2,x3]) ?_ hd (hR _ h9 (eJ w g x0 x1 x2 x3));have a4:a.tmps[c]?.getD undef= .pointer (some ⟨g,0,none⟩):=by simpa using hc
 unfold nB at r0 r1 r2 r3;simp[results,hf,a4,go_sem,r0,r1,r2,r3]
def iu (l:List (Nat×List St)):List Value:=l.map fun p=> .slice (some ⟨p.1,0,none⟩) p.2.length p.2.length
def ei (w:World) (base:Nat) (v:Value) (l:List (Nat×List St)):Prop:=
 w.ownsRow base 65 1 v l.length (iu l)∧ ∀p∈l,StB w p.1 p.2
theorem ei.but {w w':World} {base:Nat} {v:Value} {l:List (Nat×List St)} (h:ei w base v l) (hb:But (fun _=>False) w w'):ei w' base v l:=
 ⟨ah h.1 hb (fun _ _ h=>h),fun p hp=>(h.2 p hp).off hb (fun h=>h) (fun _ _ _ h=>h)⟩
theorem ei.aside {w w':World} {base g:Nat} {v:Value} {l:List (Nat×List St)} {cur:Array Value} (h:ei w base v l) (hb:But (· =g) w w') (hg:w.heap[g]?=some (.cells cur 60)):ei w' base v l:=by
 have a0: ∀k c e,w.heap[k]?=some (.cells c e)→e≠60→ ¬k=g:=by
  intro k c e hk he h9;rw[h9,hg]at hk;injection hk with hk;injection hk with _ h2;exact he h2.symm
 refine⟨aY h.1 hb (fun k c hk _=>a0 k c _ hk (by decide)),fun p hp=>(h.2 p hp).off hb ?_ (fun k c hk=>a0 k c _ hk (by decide))⟩;obtain⟨l',a1,_⟩:=h.2 p hp;exact a0 _ _ _ a1 (by decide)
theorem wE:(Tryz.prog.info? 65).map (fun i=>(i.zero,i.size,i.bytes))=some (some (.agg #[.slice none 0 0]),1,24):=by kernel_rfl
def ja (s:ByteArray) (w:World) (en:Ending) (w':World):Prop:=
 match dN s with
 | .error (e,p)=>en= .returned (.agg #[.int .i64 e,.int .i64 p,.pointer none,.slice none 0 0])
 | .ok im=>
  match dS im 0 im.bodies with
  | .error k=>en= .returned (.agg #[.int .i64 4,.int .i64 k,.pointer none,.slice none 0 0])
  | .ok ts=> ∃g ao cap l,en= .returned (.agg #[.int .i64 0,.int .i64 0,.pointer (some ⟨g,0,none⟩),.slice ao (List.length l) cap])∧l.map (·.2)=ts∧ei w' w.heap.size (.slice ao l.length cap) l∧dn w' g im
theorem dn.but {w w':World} {g:Nat} {im:Img} (h:dn w g im) (hb:But (fun _=>False) w w'):dn w' g im:=⟨h.cls.but hb,h.met.but hb,h.bod.but hb⟩
theorem dn.off {F:Nat→Prop} {w w':World} {g:Nat} {im:Img} (h:dn w g im) (hb:But F w w') (hg: ¬F g) (hf: ∀k cur e,w.heap[k]?=some (.cells cur e)→(e=240∨e=243∨e=115∨e=219∨e=5)→ ¬F k):dn w' g im:=by
 obtain⟨⟨v0,l,h0,hl,hO,hm,a1⟩,⟨v1,h1,_,a0⟩,⟨v2,h2,_,hT⟩⟩:=h;refine⟨⟨v0,l,(hb.cell (p:=⟨g,0,none⟩) hl hg).trans h0,Nat.lt_of_lt_of_le hl hb.size,aY hO hb (fun k cur hh _=>hf k cur _ hh (by simp)),hm,fun x hx=>aY (a1 x hx) hb (fun k cur hh _=>hf k cur _ hh (by simp))⟩,⟨v1,(hb.cell (p:=⟨g,1,none⟩) hl hg).trans h1,Nat.lt_of_lt_of_le hl hb.size,aY a0 hb (fun k cur hh _=>hf k cur _ hh (by simp))⟩,⟨v2,(hb.cell (p:=⟨g,2,none⟩) hl hg).trans h2,Nat.lt_of_lt_of_le hl hb.size,hT.but hb (fun k e cur hh he _=>hf k cur e hh (by rcases he with h|h|h<;>simp[h]))⟩⟩
theorem yx (g:Nat) (im:Img) (w:World) (hW:WfI im) (hTX:dn w g im):
  Calls Tryz.prog 64 #[.pointer (some ⟨g,0,none⟩),.int .i64 (-1)] w fun en w'=>But (fun _=>False) w w'∧en= .returned (eR g im):=by
 have a4:But (fun _=>False) w (w.alloc (.cells #[.int .i64 0,.int .i64 0,.pointer none,.slice none 0 0] 60)):=But.alloc _ _ _;have a0:=heap_alloc_new w (.cells #[.int .i64 0,.int .i64 0,.pointer none,.slice none 0 0] 60)
 cases hfs:im.bodies.findSome? (fun b=>unl im.classes im.bodies b.code)with
 |some q=>
  have e1:((q:Int)== -1)=false:=by rw[beq_eq_false_iff_ne];omega
  have e2:((q:Int)!= -1)=true:=by simp[bne,e1]
  have a9: ¬(q:Int)= -1:=by omega
  have a3:=pg g im (w.alloc (.cells #[.int .i64 0,.int .i64 0,.pointer none,.slice none 0 0] 60)) hW (hTX.but a4);rw[hfs]at a3;simp only[ky]at a3;rw[show eR g im= .agg #[.int .i64 3,.int .i64 q,.pointer none,.slice none 0 0]from by unfold eR;rw[hfs]];have a1:=hid a3;clear a3 hfs
  go_in
  go_wp2_with fail;revert a4 a0 a1;generalize (w.alloc (.cells #[.int .i64 0,.int .i64 0,.pointer none,.slice none 0 0] 60))=W;intro a4 a0 a1;have a8:=ae a0;refine a1.out.mono ?_;rintro en w2 ⟨rfl,a6⟩;have a5:=a4.trans a6;have a2:=(a6.block w.heap.size a8 (fun h=>h)).trans a0;have a7:=hid a2;obtain⟨q0,q1,q2,q3⟩:=dT a2;obtain⟨f0,f1,f2,f3⟩:=gK a2;clear a2 a0 a1;go_wp2_with fail;refine py Tryz.results64 rfl rfl a7.out (fun w9 h9 h9b=> ?_);exact⟨a5.next h9b (fun k hk h=>by omega),rfl⟩
 |none=>
  have a3:=pg g im (w.alloc (.cells #[.int .i64 0,.int .i64 0,.pointer none,.slice none 0 0] 60)) hW (hTX.but a4);rw[hfs]at a3;simp only[ky]at a3;rw[show eR g im= .agg #[.int .i64 0,.int .i64 0,.pointer (some ⟨g,0,none⟩),.slice none 0 0]from by unfold eR;rw[hfs]];have a1:=hid a3;clear a3 hfs
  go_in
  go_wp2_with fail;revert a4 a0 a1;generalize (w.alloc (.cells #[.int .i64 0,.int .i64 0,.pointer none,.slice none 0 0] 60))=W;intro a4 a0 a1;have a8:=ae a0;refine a1.out.mono ?_;rintro en w2 ⟨rfl,a6⟩;have a5:=a4.trans a6;have a2:=(a6.block w.heap.size a8 (fun h=>h)).trans a0;have a7:=hid a2;obtain⟨q0,q1,q2,q3⟩:=dT a2;obtain⟨f0,f1,f2,f3⟩:=gK a2;clear a2 a0 a1;go_wp2_with fail;refine py Tryz.results64 rfl rfl a7.out (fun w9 h9 h9b=> ?_);exact⟨a5.next h9b (fun k hk h=>by omega),rfl⟩
def Fnd (w:World) (g:Nat) (e p t l:Value):Prop:=w.heap[g]?=some (.cells #[e,p,t,l] 60)
theorem iN (s:ByteArray) (w:World) (hmax:s.size≤maxLen):
  Calls Tryz.prog 36 #[.string s] w fun en w'=>But (fun _=>False) w w'∧ja s w en w':=by
 obtain⟨i0,r4,s6,s9,t3⟩:=info_parts wE;have j0:But (fun _=>False) w (w.alloc (.cells #[.int .i64 0,.int .i64 0,.pointer none,.slice none 0 0] 60)):=But.alloc _ _ _;have g1:=heap_alloc_new w (.cells #[.int .i64 0,.int .i64 0,.pointer none,.slice none 0 0] 60)
 by_cases hbig:2000<s.size
 ·have p8:2000<(s.size:Int):=by omega
  have hL:dN s= .error (1,0):=by unfold dN;rw[if_pos hbig]
  have HL:=hid hL;clear hbig hL
  go_in
  go_wp2_with fail;have h9:=heap_alloc_new w (.cells #[.int .i64 1,.int .i64 0,.pointer none,.slice none 0 0] 60);have a3:But (fun _=>False) w (w.alloc (.cells #[.int .i64 1,.int .i64 0,.pointer none,.slice none 0 0] 60)):=But.alloc _ _ _;revert h9 a3;generalize (w.alloc (.cells #[.int .i64 1,.int .i64 0,.pointer none,.slice none 0 0] 60))=w9;intro h9 a3;obtain⟨r0,r1,r2,r3⟩:=dT h9;exact bodyPost_ret (v:= .agg #[.int .i64 1,.int .i64 0,.pointer none,.slice none 0 0]) (by simp[results,Tryz.results36,go_sem,r0,r1,r2,r3]) rfl ⟨a3,by unfold ja;rw[HL.out];rfl⟩
 ·have p8: ¬2000<(s.size:Int):=by omega
  go_in
  go_wp2_with fail;revert j0 g1;generalize (w.alloc (.cells #[.int .i64 0,.int .i64 0,.pointer none,.slice none 0 0] 60))=W;intro j0 g1;have q8:=ae g1;have i5:=hid g1;clear g1;refine(vK s W (by omega)).mono ?_;rintro en w1 ⟨n2,g,p,rfl,hg,q4⟩;have b9:=j0.trans n2;have e2:=hid ((n2.block w.heap.size q8 (fun h=>h)).trans i5.out);rcases q4 with⟨j,e6,rfl,n8⟩ | ⟨rfl,im,e6,j4⟩
  ·have HL:Hid (dN s= .error (2,j)):=hid (by unfold dN;rw[if_neg hbig,e6]);clear e6 hbig i5;have l6:=ae n8;go_wp2_with fail;refine(ph g j w1).mono ?_;rintro en w2 ⟨a8,rfl⟩;have a7:=b9.trans a8;have g3:=(a8.block g l6 (fun h=>h)).trans n8;obtain⟨t0,t1,t2⟩:=fm g3;have m0:=ae g3;have b1:=hid (a8.kp e2.out);go_wp2_with fail;have a1:But (fun _=>False) w2 (w2.alloc (.cells #[.int .i64 2,.int .i64 j,.pointer none,.slice none 0 0] 60)):=But.alloc _ _ _;have a4:=heap_alloc_new w2 (.cells #[.int .i64 2,.int .i64 j,.pointer none,.slice none 0 0] 60);revert a1 a4;generalize (w2.alloc (.cells #[.int .i64 2,.int .i64 j,.pointer none,.slice none 0 0] 60))=w3
   intro a1 a4;have a9:=a1.kp b1.out;have u2:=a1.kc t2 m0;clear t0 t1 t2;obtain⟨k0,k1,k2,k3⟩:=dT a4;obtain⟨q0,q1,q2,q3⟩:=dT a9;obtain⟨f0,f1,f2,f3⟩:=gK a9;have b5:=hid a9;clear a9 b1 e2 a4
   go_loopg [6] 0 (fun mm is wr=>is= .int .i64 0∧wr=w3)
   case atStart=>exact⟨rfl,rfl⟩
   case round=>
    obtain⟨rfl,n0⟩:=hrel;subst n0;go_wp2_with fail;refine py Tryz.results36 rfl rfl b5.out (fun w9 h9 a3=> ?_);exact⟨(a7.trans a1).next a3 (fun k hk h=>by omega),by unfold ja;rw[HL.out];rfl⟩
  ·have hW:=mO (by omega) e6;have h4:=hid e6;clear e6 i5;have e4:=yx g im w1 hW j4;obtain⟨vb,m5,i3,lb,hO,hm,hf⟩:=j4.bod;obtain⟨a2,o4,rfl⟩:=aw hO;have v1:lb.length=im.bodies.length:=by have:=congrArg List.length hm;simpa using this
   have v2:=hW.nb;have HM:=hid hm;clear hm
   cases hfs:im.bodies.findSome? (fun b=>unl im.classes im.bodies b.code)with
   |some q=>
    have HL:Hid (dN s= .error (3,q)):=hid (by unfold dN;rw[if_neg hbig,h4.out];simp only[hfs]);rw[show eR g im= .agg #[.int .i64 3,.int .i64 q,.pointer none,.slice none 0 0]from by unfold eR;rw[hfs]]at e4;have e7:=hid e4;clear e4 hfs hbig h4;go_wp2_with fail;refine e7.out.mono ?_;rintro en w2 ⟨a8,rfl⟩;have a7:=b9.trans a8;have b1:=hid (a8.kp e2.out);clear e7;go_wp2_with fail;have a1:But (fun _=>False) w2 (w2.alloc (.cells #[.int .i64 3,.int .i64 q,.pointer none,.slice none 0 0] 60)):=But.alloc _ _ _;have a4:=heap_alloc_new w2 (.cells #[.int .i64 3,.int .i64 q,.pointer none,.slice none 0 0] 60)
    revert a1 a4;generalize (w2.alloc (.cells #[.int .i64 3,.int .i64 q,.pointer none,.slice none 0 0] 60))=w3;intro a1 a4;have a9:=a1.kp b1.out;have u2:=((a8.trans a1).cell (p:=⟨g,2,none⟩) i3 (fun h=>h)).trans m5;have d6:0<(lb.length:Int)∨ ¬0<(lb.length:Int):=Decidable.em _;obtain⟨k0,k1,k2,k3⟩:=dT a4;obtain⟨q0,q1,q2,q3⟩:=dT a9;obtain⟨f0,f1,f2,f3⟩:=gK a9;have b5:=hid a9;clear a9 b1 e2 a4
    go_loopg [6] 0 (fun mm is wr=>is= .int .i64 0∧wr=w3)
    case atStart=>exact⟨rfl,rfl⟩
    case round=>
     obtain⟨rfl,n0⟩:=hrel;subst n0;rcases d6 with d6|d6
     ·go_wp2_with fail;refine py Tryz.results36 rfl rfl b5.out (fun w9 h9 a3=> ?_);exact⟨(a7.trans a1).next a3 (fun k hk h=>by omega),by unfold ja;rw[HL.out];rfl⟩
     ·go_wp2_with fail;refine py Tryz.results36 rfl rfl b5.out (fun w9 h9 a3=> ?_);exact⟨(a7.trans a1).next a3 (fun k hk h=>by omega),by unfold ja;rw[HL.out];rfl⟩
   |none=>
    have HL:Hid (dN s= .ok im):=hid (by unfold dN;rw[if_neg hbig,h4.out];simp only[hfs]);rw[show eR g im= .agg #[.int .i64 0,.int .i64 0,.pointer (some ⟨g,0,none⟩),.slice none 0 0]from by unfold eR;rw[hfs]]at e4;have e7:=hid e4;clear e4 hfs hbig h4;go_wp2_with fail;refine e7.out.mono ?_;rintro en w2 ⟨a8,rfl⟩;have a7:=b9.trans a8;have b1:=hid (a8.kp e2.out);clear e7;go_wp2_with fail;have a1:But (fun _=>False) w2 (w2.alloc (.cells #[.int .i64 0,.int .i64 0,.pointer (some ⟨g,0,none⟩),.slice none 0 0] 60)):=But.alloc _ _ _;have a4:=heap_alloc_new w2 (.cells #[.int .i64 0,.int .i64 0,.pointer (some ⟨g,0,none⟩),.slice none 0 0] 60)
    revert a1 a4;generalize (w2.alloc (.cells #[.int .i64 0,.int .i64 0,.pointer (some ⟨g,0,none⟩),.slice none 0 0] 60))=w3;intro a1 a4;have a9:=a1.kp b1.out;have a6:=a8.trans a1;have f4:=a7.trans a1;have g2:g<w3.heap.size:=Nat.lt_of_lt_of_le i3 a6.size;have t4:w.heap.size<w2.heap.size:=ae b1.out;have t5:=ae a4;have b5:=hid a9;have f7:=j4.but a6;have o6:=ah hO a6 (fun _ _ h=>h);have s4:=a6.kc m5 i3;have e0:g≠w2.heap.size:=by have:=Nat.lt_of_lt_of_le i3 a8.size;omega
    have HF:Hid (∀x∈lb,BtB w3 0 x.2.1 x.1.locals∧ItB w3 0 x.2.2 x.1.items):=hid (fun x hx=>⟨(hf x hx).1.but a6 (fun _ _ h=>h),ah (hf x hx).2 a6 (fun _ _ h=>h)⟩);clear a9 b1 e2 hf m5 hO
    go_loopg [6] lb.length (fun mm ks wr=> ∃(k:Nat) (ao:Option Addr) (cap:Nat) (l:List (Nat×List St)),l.length=k∧ks= .int .i64 k∧k≤lb.length∧k+mm≤lb.length∧lb.length≤k+mm∧But (· =w2.heap.size) w3 wr∧Fnd wr w2.heap.size (.int .i64 0) (.int .i64 0) (.pointer (some ⟨g,0,none⟩)) (.slice ao k cap)∧ei wr w3.heap.size (.slice ao k cap) l∧Hid ((im.bodies.take k).map (de im)=(l.map (·.2)).map some))
    case atStart=>exact⟨0,none,0,[],rfl,rfl,by omega,by omega,by omega,But.refl _ _,a4,⟨fN _ _ _ _,by simp⟩,hid rfl⟩
    case round=>
     obtain⟨k,ao,cap,l,n9,rfl,t9,r5,v0,b0,h6,n4,HA⟩:=hrel;have e8:=hid n9;clear n9 r5;have o1:=hid h6;have m2:=(b0.block w.heap.size (ae b5.out) (by omega)).trans b5.out;have e3:=hid m2;have m1:=ae m2;have j3:=ae h6;have m4:=(b0.cell (p:=⟨g,2,none⟩) g2 e0).trans s4;have q7:g<wr.heap.size:=Nat.lt_of_lt_of_le g2 b0.size;obtain⟨k0,k1,k2,k3⟩:=dT h6;clear m2 h6
     by_cases hlt:k<lb.length
     ·have s0:(k:Int)<(lb.length:Int):=by omega
      have hx:=List.getElem?_eq_getElem hlt
      have i4: ∀g' cur e,w3.heap[g']?=some (.cells cur e)→e≠60→ ¬g'=w2.heap.size:=by
       intro g' cur e hh he h9;rw[h9,a4]at hh;injection hh with hh;injection hh with _ h2;exact he h2.symm
      have p5:=aY o6 b0 (fun g' cur hh _=>i4 g' cur _ hh (by decide));obtain⟨gB,q5,q6,_,a0⟩:=aI p5 (by omega);obtain⟨bd,i2⟩: ∃bd,im.bodies[k]?=some bd:=⟨_,List.getElem?_eq_getElem (by omega)⟩
      have n7:lb[k].1=aN im.sigs bd:=by
       have h1:(lb.map (·.1))[k]?=some (aN im.sigs bd):=by rw[HM.out,List.getElem?_map,i2];rfl
       rw[List.getElem?_map,hx]at h1;exact Option.some.inj h1
      obtain⟨g7,g5⟩:=HF.out _ (List.getElem_mem hlt);have e5:BtB wr 0 lb[k].2.1 lb[k].1.locals:=aY g7 b0 (fun g' cur hh _=>i4 g' cur _ hh (by decide));have e1:ItB wr 0 lb[k].2.2 lb[k].1.items:=aY g5 b0 (fun g' cur hh _=>i4 g' cur _ hh (by decide));clear g7 g5;have p0:wr.cell? ⟨gB,k*5,none⟩=some (.int .u8 lb[k].1.cls.toNat):=a0 _ _ (aV (k:=0) hx (by omega));have p1:wr.cell? ⟨gB,k*5+1,none⟩=some (.int .i64 lb[k].1.meth):=a0 _ _ (aV (k:=1) hx (by omega));have p2:wr.cell? ⟨gB,k*5+2,none⟩=some (.int .u8 lb[k].1.ans.toNat):=a0 _ _ (aV (k:=2) hx (by omega));have p3:wr.cell? ⟨gB,k*5+3,none⟩=some lb[k].2.1:=a0 _ _ (aV (k:=3) hx (by omega))
      have p4:wr.cell? ⟨gB,k*5+4,none⟩=some lb[k].2.2:=a0 _ _ (aV (k:=4) hx (by omega));rw[n7]at p0 p1 p2 e5 e1;obtain⟨al,capl,n6⟩:=aw e5;obtain⟨ai,capi,n5⟩:=aw e1;rw[n6]at p3 e5;rw[n5]at p4 e1;have h0:(aN im.sigs bd).locals=bd.locals:=rfl;have g6:(aN im.sigs bd).items=bd.code.map aL:=rfl;rw[h0]at p3 e5;rw[g6]at p4 e1;simp only[List.length_map]at p4 e1;have s5:WfB im.classes im.sigs bd:=hW.bod _ (List.mem_of_getElem? i2);have i7:Hid (dn wr g im):=hid (f7.off b0 e0 (fun k' cur e hh he=>i4 k' cur e hh (by rcases he with h|h|h|h|h<;>(rw[h];decide))));have h3:=hid (fun(wx:World) (h:But (fun _=>False) wr wx)=>t8 g im bd (aN im.sigs bd).cls (aN im.sigs bd).meth al ai capl capi wx hW s5 (i7.out.but h) (e5.but h (fun _ _ h=>h)) (ah e1 h (fun _ _ h=>h)))
      have n1:=hid i2;subst q5;obtain⟨X,hX⟩: ∃X,aN im.sigs bd=X:=⟨_,rfl⟩;rw[hX]at p0 p1 p2 h3;clear hX n7 a0 hx n6 n5 h0 g6 i2 e5 e1;unfold hdV at h3;go_wp2_with fail;refine(h3.out wr (But.refl _ _)).mono ?_;rintro en w4 ⟨e9,m3⟩;have f8:=n4.but e9;have g0:=(e9.block w.heap.size m1 (fun h=>h)).trans e3.out;have f6:=(e9.block w2.heap.size j3 (fun h=>h)).trans o1.out;have o2:=hid g0;have q9:=ae g0;clear k0 k1 k2 k3;obtain⟨q0,q1,q2,q3⟩:=dT g0;obtain⟨f0,f1,f2,f3⟩:=gK g0;obtain⟨k0,k1,k2,k3⟩:=dT f6;obtain⟨l0,l1,l2,l3⟩:=gK f6;have o0:=hid f6;have j2:=ae f6;clear h3 p0 p1 p2 p3 p4 m4 g0 f6;rcases m3 with⟨hN,rfl⟩ | ⟨tb,gt,hN,rfl,s3,t6⟩
      ·have i6:Hid (dS im 0 im.bodies= .error k):=by
        have:=vr (i:=0) HA.out n1.out hN;refine hid ?_;rw[this];simp
       clear hN HA;go_wp2_with fail;have h9:=dW o2.out (.int .i64 4) (.int .i64 k) (.pointer none) (.slice none 0 0);have a3:=eJ w4 w.heap.size (.int .i64 4) (.int .i64 k) (.pointer none) (.slice none 0 0);unfold nB at h9 a3;have b6:But (· =w.heap.size) w4 (((((w4.setCell ⟨w.heap.size,0,none⟩ (.int .i64 4)).setCell ⟨w.heap.size,1,none⟩ (.int .i64 k)).setCell ⟨w.heap.size,2,none⟩ (.pointer none)).setCell ⟨w.heap.size,3,none⟩ (.slice none 0 0)).alloc (.cells #[.slice none 0 0] 65)):=a3.trans (But.alloc _ _ _);have i9:=((But.alloc (fun _=>False) ((((w4.setCell ⟨w.heap.size,0,none⟩ (.int .i64 4)).setCell ⟨w.heap.size,1,none⟩ (.int .i64 k)).setCell ⟨w.heap.size,2,none⟩ (.pointer none)).setCell ⟨w.heap.size,3,none⟩ (.slice none 0 0)) (.cells #[.slice none 0 0] 65)).block w.heap.size (ae h9) (fun h=>h)).trans h9
       clear h9 a3;revert i9 b6;generalize (((((w4.setCell ⟨w.heap.size,0,none⟩ (.int .i64 4)).setCell ⟨w.heap.size,1,none⟩ (.int .i64 k)).setCell ⟨w.heap.size,2,none⟩ (.pointer none)).setCell ⟨w.heap.size,3,none⟩ (.slice none 0 0)).alloc (.cells #[.slice none 0 0] 65))=w9;intro b6 i9;obtain⟨r0,r1,r2,r3⟩:=dT i9;have c6:But (fun _=>False) w w9:=(((f4.next b0 (fun k' hk' h=>by omega)).trans e9).next b6 (fun k' hk' h=>by omega));exact bodyPost_ret (v:= .agg #[.int .i64 4,.int .i64 k,.pointer none,.slice none 0 0]) (by simp[results,Tryz.results36,go_sem,r0,r1,r2,r3]) rfl ⟨c6,by unfold ja;rw[HL.out];simp only[i6.out]⟩
      ·have HN:=hid hN;clear hN;have h7:w4.ownsRow w3.heap.size 65 1 (.slice ao k cap) k (iu l):=by have:=f8.1;rw[e8.out]at this;exact this
       have g4:=aA h7;have f5:But (· =w2.heap.size) w3 w4:=b0.next e9 (fun _ _ h=>h.elim);have v3:=f5.size;go_wp2_with (at_builtin;refine wpList_append_lies _ rfl _ _ _ rfl w3.heap.size 65 i0 _ 1 24 (by kernel_rfl) r4 s6 s9 t3 rfl (by omega) _ k (iu l) rfl ((h7.alloc _).alloc _) ⟨w4.heap.size+1,0,none⟩ 1 1 [.slice (some ⟨gt,0,none⟩) tb.length tb.length] rfl rfl (World.news_of_block (cs:=#[.slice (some ⟨gt,0,none⟩) tb.length tb.length]) (t:=65) (fr:=(0,0)) (aq (by simp) _)) (by simp[Value.oneCell']) (by omega) (by unfold maxLen;omega) (by omega) (by simp;omega) (w4.heap.size+2) (by simp) ?_);intro gg a5 w5 b3 b2 p6 s1
       have i1:But (fun k'=>(Value.slice ao k cap).ownBlock=some k') w4 w5:=((But.alloc _ _ _).trans (But.alloc _ _ _)).trans (ba b2);have h5:Fnd w5 w2.heap.size (.int .i64 0) (.int .i64 0) (.pointer (some ⟨g,0,none⟩)) (.slice ao k cap):=(i1.block w2.heap.size j2 (fun h=>by have:=g4 _ h;omega)).trans o0.out;have j1:But (· =w2.heap.size) w3 w5:=f5.next i1 (fun k' hk' h=>absurd (g4 k' h) (by omega))
       have b4: ∀p:Nat×List St,StB w4 p.1 p.2→StB w5 p.1 p.2:=by
        intro p hp;refine hp.off i1 ?_ (fun k' cur hk' e=>et h7 hk' (by decide) e);obtain⟨l',s2,_⟩:=hp;exact et h7 s2 (by decide)
       have k9:ei w5 w3.heap.size (.slice (some ⟨gg,0,none⟩) (k+1) a5) (l++ [(gt,tb)]):=by
        refine⟨?_,fun p hp=> ?_⟩
        ·unfold iu;rw[List.length_append,e8.out,List.map_append];exact b3
        ·rcases List.mem_append.1 hp with hp|hp
         ·exact b4 p (f8.2 p hp)
         ·simp at hp;subst hp;exact b4 (gt,tb) s3
       have o3:Hid ((im.bodies.take (k+1)).map (de im)=((l++ [(gt,tb)]).map (·.2)).map some):=by
        show _=_
        obtain⟨r8,r6⟩:=List.getElem?_eq_some_iff.1 n1.out;rw[List.take_succ_eq_append_getElem r8,List.map_append,HA.out,r6];simp[HN.out]
       clear q0 q1 q2 q3 f0 f1 f2 f3 k0 k1 k2 k3 l0 l1 l2 l3 i1 b2 b3 p6;obtain⟨k0,k1,k2,k3⟩:=dT h5;obtain⟨l0,l1,l2,l3⟩:=gK h5;go_wp2_with fail;have n3:=But.setB w5 w2.heap.size 3 (.slice (some ⟨gg,0,none⟩) (k+1) a5);have o5:Fnd (w5.setCell ⟨w2.heap.size,3,none⟩ (.slice (some ⟨gg,0,none⟩) (k+1) a5)) w2.heap.size (.int .i64 0) (.int .i64 0) (.pointer (some ⟨g,0,none⟩)) (.slice (some ⟨gg,0,none⟩) (k+1) a5):=heap_setCell_same w5 w2.heap.size 3 _ _ _ h5;have l4:ei (w5.setCell ⟨w2.heap.size,3,none⟩ (.slice (some ⟨gg,0,none⟩) (k+1) a5)) w3.heap.size (.slice (some ⟨gg,0,none⟩) (k+1) a5) (l++ [(gt,tb)]):=k9.aside n3 h5
       go_roundg (lb.length-(k+1))
       case measure=>omega
       case rel=>exact⟨k+1,_,a5,l++ [(gt,tb)],by rw[List.length_append,e8.out];rfl,by simp,by omega,by omega,by omega,j1.trans n3,o5,l4,o3⟩
     ·have s0: ¬(k:Int)<(lb.length:Int):=by omega
      have hk:k=im.bodies.length:=by omega
      have i6:Hid (dS im 0 im.bodies= .ok (l.map (·.2))):=hid (xE (by
       have:=HA.out;rw[List.take_of_length_le (by omega)]at this;exact this))
      clear HA hk;obtain⟨q0,q1,q2,q3⟩:=dT e3.out;obtain⟨f0,f1,f2,f3⟩:=gK e3.out
      have j7:=f7.off b0 e0 (fun k' cur e hh he h9=>by
       rw[h9,a4]at hh;injection hh with hh;injection hh with _ h2;rw[←h2]at he;revert he
       decide)
      go_wp2_with fail;refine py Tryz.results36 rfl rfl e3.out (fun w9 h9 a3=> ?_)
      have j5:dn w9 g im:=j7.off a3 (by omega) (fun k' cur e hh he h8=>by
       rw[h8,e3.out]at hh;injection hh with hh;injection hh with _ h2;rw[←h2]at he;revert he
       decide)
      have l5:ei w9 w.heap.size (.slice ao l.length cap) l:=by
       have h1:=n4.aside a3 e3.out;rw[e8.out];exact⟨h1.1.mono (by omega),h1.2⟩
      have c6:But (fun _=>False) w w9:=((f4.next b0 (fun k' hk' h=>by omega)).next a3 (fun k' hk' h=>by omega));exact⟨c6,by unfold ja;rw[HL.out];simp only[i6.out];exact⟨g,ao,cap,l,by rw[e8.out],rfl,l5,j5⟩⟩
theorem nW (s:ByteArray) (w:World) (hmax:s.size≤maxLen):
  Calls Tryz.prog 18 #[.string s] w fun en w'=>en= .returned (.tuple #[.int .i64 (eV s).1,.int .i64 (eV s).2])∧But (fun _=>False) w w':=by
 have key:Calls Tryz.prog 36 #[.string s] w fun en w'=>But (fun _=>False) w w'∧ ∃p ao cap n,en= .returned (.agg #[.int .i64 (eV s).1,.int .i64 (eV s).2,.pointer p,.slice ao n cap]):=by
  refine(iN s w hmax).mono ?_;rintro en w' ⟨hB,hE⟩;refine⟨hB,?_⟩;unfold ja at hE;unfold eV
  cases hl:dN s with
  |error e=>
   rw[hl]at hE;obtain⟨e,p⟩:=e;exact⟨_,_,_,_,hE⟩
  |ok im=>
   rw[hl]at hE;simp only at hE⊢
   cases ht:dS im 0 im.bodies with
   |error k=>rw[ht]at hE;exact⟨_,_,_,_,hE⟩
   |ok ts=>
    rw[ht]at hE;obtain⟨g,ao,cap,l,h1,_⟩:=hE;exact⟨_,_,_,_,h1⟩
 have HK:=hid key;clear key;obtain⟨E,hE⟩: ∃E,eV s=E:=⟨_,rfl⟩;rw[hE]at HK;rw[hE];clear hE;obtain⟨e,p⟩:=E;dsimp only at HK⊢
 go_in
 go_wp2_with fail;refine HK.out.mono ?_;rintro en w1 ⟨a4,p1,ao,cap,n,rfl⟩;go_wp2_with fail;have a2:But (fun _=>False) w1 (w1.alloc (.cells #[.int .i64 e,.int .i64 p,.pointer p1,.slice ao n cap] 60)):=But.alloc _ _ _;have a1:=heap_alloc_new w1 (.cells #[.int .i64 e,.int .i64 p,.pointer p1,.slice ao n cap] 60);revert a2 a1;generalize (w1.alloc (.cells #[.int .i64 e,.int .i64 p,.pointer p1,.slice ao n cap] 60))=W;intro a2 a1;obtain⟨k0,k1,k2,k3⟩:=dT a1;have a3:=ae a1;have a0:But (fun _=>False) W W.drew:=But.drew _ _;refine cA (But (fun _=>False) W) 5 (by kernel_rfl) ?_;have fSA:=hid (fun wS (h:(But (fun _=>False) W) wS)=>(And.intro (h.kc k0 a3) (h.kc k1 a3)))
 refine aB (k:=2) (v:= ?vA2) rfl (by decide) (by kernel_rfl) (fun _ _ _ h=>h) rfl a0 ?yA2 ?rA2
 case yA2=>intro wS h;obtain⟨q0,q1⟩:=fSA.out wS h;clear h;go_simp;try rfl
 dsimp only[Act.put]
 try simp only[aK]
 refine aB (k:=3) (v:= ?vA3) rfl (by decide) (by kernel_rfl) (fun _ _ _ h=>h) rfl a0 ?yA3 ?rA3
 case yA3=>intro wS h;obtain⟨q0,q1⟩:=fSA.out wS h;clear h;go_simp;try rfl
 dsimp only[Act.put]
 try simp only[aK]
 refine aB (k:=0) (v:= ?vA0) rfl (by decide) (by kernel_rfl) (fun _ _ _ h=>h) rfl a0 ?yA0 ?rA0
 case yA0=>intro wS h;obtain⟨q0,q1⟩:=fSA.out wS h;clear h;go_simp;try rfl
 dsimp only[Act.put]
 try simp only[aK]
 refine aB (k:=1) (v:= ?vA1) rfl (by decide) (by kernel_rfl) (fun _ _ _ h=>h) rfl a0 ?yA1 ?rA1
 case yA1=>intro wS h;obtain⟨q0,q1⟩:=fSA.out wS h;clear h;go_simp;try rfl
 dsimp only[Act.put]
 try simp only[aK]
 try clear fSA
 refine aE (k:=4) rfl (by decide) (by kernel_rfl) ?_;intro KS hKS;go_simp;refine hKS.out _ _ (fun _=>a0) ?_;clear hKS KS;refine aE (k:=5) rfl (by decide) (by kernel_rfl) ?_;intro KS hKS;go_simp;refine hKS.out _ _ nofun ?_;clear hKS KS;refine ck rfl (by kernel_rfl) ?_;go_wp2_with fail;exact bodyPost_ret (v:= .tuple #[.int .i64 e,.int .i64 p]) (by simp[results,Tryz.results18,go_sem]) rfl ⟨rfl,(a4.trans a2).trans a0⟩
theorem yy {s:ByteArray} {im:Img} (h:dN s= .ok im):WfI im:=by
 unfold dN at h
 by_cases hb:2000<s.size
 ·rw[if_pos hb]at h;cases h
 rw[if_neg hb]at h
 cases hr:fM s with
 |error j=>rw[hr]at h;cases h
 |ok im'=>
  rw[hr]at h;simp only at h
  split at h
  ·cases h
  ·cases h
   exact mO (by omega) hr
theorem nX (s:ByteArray) (w:World) (hmax:s.size≤maxLen) (e p:Nat) (h: ∀w,Calls Tryz.prog 36 #[.string s] w fun en w'=>But (fun _=>False) w w'∧en= .returned (.agg #[.int .i64 e,.int .i64 p,.pointer none,.slice none 0 0])):
  Calls Tryz.prog 19 #[.string s] w fun en w'=>en= .returned (.tuple #[.string ⟨#[]⟩,.int .i64 e])∧But (fun _=>False) w w':=by
 have HK:=hid h;clear h
 go_in
 go_wp2_with fail;refine(HK.out w).mono ?_;rintro en w1 ⟨a4,rfl⟩;go_wp2_with fail;have a2:But (fun _=>False) w1 (w1.alloc (.cells #[.int .i64 e,.int .i64 p,.pointer none,.slice none 0 0] 60)):=But.alloc _ _ _;have a1:=heap_alloc_new w1 (.cells #[.int .i64 e,.int .i64 p,.pointer none,.slice none 0 0] 60);revert a2 a1;generalize (w1.alloc (.cells #[.int .i64 e,.int .i64 p,.pointer none,.slice none 0 0] 60))=W;intro a2 a1;obtain⟨k0,k1,k2,k3⟩:=dT a1;have a3:=ae a1;have a5:=a4.trans a2
 go_loopg [5,6] 0 (fun mm ss is wr=>ss= .string ⟨#[]⟩∧is= .int .i64 0∧wr=W)
 case atStart=>exact⟨rfl,rfl,rfl⟩
 case round=>
  obtain⟨rfl,rfl,a6⟩:=hrel;subst a6;go_wp2_with fail;have a0:But (fun _=>False) wr wr.drew:=But.drew _ _;refine cA (But (fun _=>False) wr) 4 (by kernel_rfl) ?_;refine aB (k:=1) (v:= ?vA1) rfl (by decide) (by kernel_rfl) (fun _ _ _ h=>h) rfl a0 ?yA1 ?rA1
  case yA1=>intro wS h;have q0:=(h.kc k0 a3);clear h;go_simp;try rfl
  dsimp only[Act.put]
  try simp only[aK]
  refine aB (k:=2) (v:= ?vA2) rfl (by decide) (by kernel_rfl) (fun _ _ _ h=>h) rfl a0 ?yA2 ?rA2
  case yA2=>intro wS h;have q0:=(h.kc k0 a3);clear h;go_simp;try rfl
  dsimp only[Act.put]
  try simp only[aK]
  refine aB (k:=0) (v:= ?vA0) rfl (by decide) (by kernel_rfl) (fun _ _ _ h=>h) rfl a0 ?yA0 ?rA0
  case yA0=>intro wS h;have q0:=(h.kc k0 a3);clear h;go_simp;try rfl
  dsimp only[Act.put]
  try simp only[aK]
  refine aE (k:=3) rfl (by decide) (by kernel_rfl) ?_;intro KS hKS;go_simp;refine hKS.out _ _ (fun _=>a0) ?_;clear hKS KS;refine aE (k:=4) rfl (by decide) (by kernel_rfl) ?_;intro KS hKS;go_simp;refine hKS.out _ _ nofun ?_;clear hKS KS;refine ck rfl (by kernel_rfl) ?_;go_wp2_with fail;exact bodyPost_ret (v:= .tuple #[.string ⟨#[]⟩,.int .i64 e]) (by simp[results,Tryz.results19,go_sem]) rfl ⟨rfl,a5.trans a0⟩
theorem wF (s:ByteArray) (w:World) (hmax:s.size≤maxLen) (ts:List (List St)) (hsh: ∀t∈ts,m6 t) (hl7:ts.length≤7)
  (h: ∀w,Calls Tryz.prog 36 #[.string s] w fun en w'=>But (fun _=>False) w w'∧ ∃g ao cap l,en= .returned (.agg #[.int .i64 0,.int .i64 0,.pointer (some ⟨g,0,none⟩),.slice ao (List.length l) cap])∧l.map (·.2)=ts∧ei w' w.heap.size (.slice ao l.length cap) l):
  Calls Tryz.prog 19 #[.string s] w fun en w'=>en= .returned (.tuple #[.string ⟨(ts.flatMap dl).toArray⟩,.int .i64 0])∧But (fun _=>False) w w':=by
 have HK:=hid h;clear h
 go_in
 go_wp2_with fail;refine(HK.out w).mono ?_;rintro en w1 ⟨e0,g,ao,cap,l,rfl,a2,e7⟩
 have f2:l.length≤7:=by
  have:l.length=ts.length:=by rw[←a2];simp
  omega
 have d6:Hid (∀p∈l,m6 p.2):=hid (fun p hp=>hsh p.2 (by rw[←a2];exact List.mem_map_of_mem hp));have b2:Hid ((l.map (·.2)).flatMap dl=ts.flatMap dl):=hid (by rw[a2]);obtain⟨R,b0⟩: ∃R,ts.flatMap dl=R:=⟨_,rfl⟩;clear hsh a2 HK hl7;go_wp2_with fail;have a7:But (fun _=>False) w1 (w1.alloc (.cells #[.int .i64 0,.int .i64 0,.pointer (some ⟨g,0,none⟩),.slice ao l.length cap] 60)):=But.alloc _ _ _;have b1:=heap_alloc_new w1 (.cells #[.int .i64 0,.int .i64 0,.pointer (some ⟨g,0,none⟩),.slice ao l.length cap] 60);revert a7 b1;generalize (w1.alloc (.cells #[.int .i64 0,.int .i64 0,.pointer (some ⟨g,0,none⟩),.slice ao l.length cap] 60))=W
 intro a7 b1;have b9:=e7.but a7;have e2:=e0.trans a7
 go_loopg [5,6] l.length (fun mm ss ks wr=> ∃(k:Nat) (s:List UInt8),ss= .string ⟨s.toArray⟩∧s.length≤20001*k∧ks= .int .i64 k∧k≤l.length∧k+mm≤l.length∧l.length≤k+mm∧But (fun _=>False) W wr∧Hid (((l.take k).map (·.2)).flatMap dl=s))
 case atStart=>exact⟨0,[],rfl,by simp,rfl,by omega,by omega,by omega,But.refl _ _,rfl⟩
 case round=>
  obtain⟨k,s',rfl,f3,rfl,f0,e5,f1,a5,HA⟩:=hrel;clear e5;have b4:=a5.kp b1;obtain⟨k0,k1,k2,k3⟩:=dT b4;have a1:=ae b4
  by_cases a2:k<l.length
  ·have e6:(k:Int)<(l.length:Int):=by omega
   have a8:=List.getElem?_eq_getElem a2;obtain⟨p,b5⟩: ∃p,l[k]=p:=⟨_,rfl⟩;have a3:l[k]∈l:=List.getElem_mem a2;rw[b5]at a8 a3;obtain⟨gp,tp⟩:=p;obtain⟨gq,e4,e8,e9,a0⟩:=aI (ah b9.1 a5 (fun _ _ h=>h)) (by omega);subst e4;have q0:wr.cell? ⟨gq,k,none⟩=some (.slice (some ⟨gp,0,none⟩) tp.length tp.length):=a0 _ _ (by simp[iu,a8]);have e3:StB wr gp tp:=(b9.2 _ a3).off a5 (fun h=>h) (fun _ _ _ h=>h);have b6:=d6.out _ a3;have c6:=p7 b6
   have HT:Hid (((l.take (k+1)).map (·.2)).flatMap dl=s'++dl tp):=by
    show _=_
    rw[List.take_add_one,a8,List.map_append,List.flatMap_append,HA.out];simp
   clear a0 a8 b5 HA;have b3:=hid (fun(wx:World) (h:But (fun _=>False) wr wx)=>tY gp tp wx (e3.off h (fun h=>h) (fun _ _ _ h=>h)) b6);go_wp2_with fail;refine(b3.out wr (But.refl _ _)).mono ?_;rintro en w3 ⟨rfl,e1⟩;revert HT c6;generalize dl tp=wt;intro c6 HT;have n1: ¬9223372036854775807<s'.length+wt.length:=by omega
   clear q0 k0 k1 k2 k3 b3;go_wp2_with fail
   go_roundg (l.length-(k+1))
   case measure=>omega
   case rel=>exact⟨k+1,s'++wt,congrArg Value.string (pN _ _),by simp;omega,by simp,by omega,by omega,by omega,a5.trans e1,HT.out⟩
  ·have e6: ¬(k:Int)<(l.length:Int):=by omega
   have a4:s'=R:=by rw[←b0,←b2.out,←HA.out,List.take_of_length_le (by omega)]
   rw[←b0]at a4;have a9:=hid a4;clear HA b2 a4 b0;go_wp2_with fail;have a6:But (fun _=>False) wr wr.drew:=But.drew _ _;refine cA (But (fun _=>False) wr) 4 (by kernel_rfl) ?_;refine aB (k:=1) (v:= ?vA1) rfl (by decide) (by kernel_rfl) (fun _ _ _ h=>h) rfl a6 ?yA1 ?rA1
   case yA1=>intro wS h;have q0:=(h.kc k0 a1);clear h;go_simp;try rfl
   dsimp only[Act.put]
   try simp only[aK]
   refine aB (k:=2) (v:= ?vA2) rfl (by decide) (by kernel_rfl) (fun _ _ _ h=>h) rfl a6 ?yA2 ?rA2
   case yA2=>intro wS h;have q0:=(h.kc k0 a1);clear h;go_simp;try rfl
   dsimp only[Act.put]
   try simp only[aK]
   refine aB (k:=0) (v:= ?vA0) rfl (by decide) (by kernel_rfl) (fun _ _ _ h=>h) rfl a6 ?yA0 ?rA0
   case yA0=>intro wS h;have q0:=(h.kc k0 a1);clear h;go_simp;try rfl
   dsimp only[Act.put]
   try simp only[aK]
   refine aE (k:=3) rfl (by decide) (by kernel_rfl) ?_;intro KS hKS;go_simp;refine hKS.out _ _ (fun _=>a6) ?_;clear hKS KS;refine aE (k:=4) rfl (by decide) (by kernel_rfl) ?_;intro KS hKS;go_simp;refine hKS.out _ _ nofun ?_;clear hKS KS;refine ck rfl (by kernel_rfl) ?_;go_wp2_with fail;exact bodyPost_ret (v:= .tuple #[.string ⟨s'.toArray⟩,.int .i64 0]) (by simp[results,Tryz.results19,go_sem]) rfl ⟨by rw[a9.out],(e2.trans a5).trans a6⟩
theorem nY (s:ByteArray) (w:World) (hmax:s.size≤maxLen):
  Calls Tryz.prog 19 #[.string s] w fun en w'=>en= .returned (.tuple #[.string ⟨(lI s).1.toArray⟩,.int .i64 (lI s).2])∧But (fun _=>False) w w':=by
 have a0:=fun w=>iN s w hmax
 unfold lI
 cases hl:dN s with
 |error e=>
  obtain⟨e,p⟩:=e;exact nX s w hmax e p (fun w=>(a0 w).mono (fun en w' h=>⟨h.1,by have:=h.2;unfold ja at this;rw[hl]at this;exact this⟩))
 |ok im=>
  simp only
  cases ht:dS im 0 im.bodies with
  |error k=>exact nX s w hmax 4 k (fun w=>(a0 w).mono (fun en w' h=>⟨h.1,by have:=h.2;unfold ja at this;rw[hl]at this;simp only[ht]at this;exact this⟩))
  |ok ts=>
   have hW:WfI im:=yy hl;have hm:=vu ht;refine wF s w hmax ts (fun t htt=> ?_) (by rw[hm.1];exact hW.nb) (fun w=>(a0 w).mono (fun en w' h=>⟨h.1,?_⟩))
   ·obtain⟨b,a2,a3⟩:=hm.2 t htt;have a1:=hW.bod b a2;exact(lD hW a1 a3).short a1.len.2 a1.loc.1
   ·have:=h.2;unfold ja at this;rw[hl]at this;simp only[ht]at this;obtain⟨g,ao,cap,l,h1,h2,h3,_⟩:=this;exact⟨g,ao,cap,l,h1,h2,h3⟩
end
end Go.Proofs.YtpfkkmacakjmbaaGreatDoor
