import Derived.Test.YtpfkkmacakjmbaaGreatDoorP19
import Derived.Test.YtpfkkmacakjmbaaGreatDoorP05
set_option maxRecDepth 100000
set_option maxHeartbeats 6400000
set_option linter.unusedSimpArgs false
set_option linter.unusedVariables false
namespace Go.Proofs.YtpfkkmacakjmbaaGreatDoor
section
open Go Go.RowKit Sp
attribute [local go_sem ↓] Go.wp_at_zero Go.wp_at_succ
theorem pM {fn:Func} {R:Ending→World→Prop} {a:Act} {w:World} {c g:Nat} {a0 a1 a2 a3 x0 x1 x2 x3:Value} (hf:fn.results=#[.cell c 60]) (hd:a.defers=[]) (hc:a.tmps.getD c undef= .pointer (some ⟨g,0,none⟩)) (h:w.heap[g]?=some (.cells #[a0,a1,a2,a3] 60)) (hR: ∀w9,w9.heap[g]?=some (.cells #[x0,x1,x2,x3] 60)→But (· =g) w w9→R (.returned (.agg #[x0,x1,x2,x3])) w9):bodyPost Tryz.prog fn R .ret a ((((w.setCell ⟨g,0,none⟩ x0).setCell ⟨g,1,none⟩ x1).setCell ⟨g,2,none⟩ x2).setCell ⟨g,3,none⟩ x3):=by
 have h9:=dV h x0 x1 x2 x3;have r0:=ce0 h9;have r1:=ce1 h9;have r2:=ce2 h9;have r3:=ce3 h9;refine bodyPost_ret (v:= .agg #[x0,x1,x2,x3]) ?_ hd (hR _ h9 (eP w g x0 x1 x2 x3));have a4:a.tmps[c]?.getD undef= .pointer (some ⟨g,0,none⟩):=by simpa using hc
 unfold nQ at r0 r1 r2 r3;simp[results,hf,a4,go_sem,r0,r1,r2,r3]
def iF (l:List (Nat×List St)):List Value:=l.map fun p=> .slice (some ⟨p.1,0,none⟩) p.2.length p.2.length
def el (w:World) (base:Nat) (v:Value) (l:List (Nat×List St)):Prop:=
 w.ownsRow base 65 1 v l.length (iF l)∧ ∀p∈l,StB w p.1 p.2
theorem el.but {w w':World} {base:Nat} {v:Value} {l:List (Nat×List St)} (h:el w base v l) (hb:But (fun _=>False) w w'):el w' base v l:=
 ⟨ag h.1 hb (fun _ _ h=>h),fun p hp=>(h.2 p hp).off hb (fun h=>h) (fun _ _ _ h=>h)⟩
theorem el.aside {w w':World} {base g:Nat} {v:Value} {l:List (Nat×List St)} {cur:Array Value} (h:el w base v l) (hb:But (· =g) w w') (hg:w.heap[g]?=some (.cells cur 60)):el w' base v l:=by
 have a0: ∀k c e,w.heap[k]?=some (.cells c e)→e≠60→ ¬k=g:=by
  intro k c e hk he h9;rw[h9,hg]at hk;injection hk with hk;injection hk with _ h2;exact he h2.symm
 refine⟨aY h.1 hb (fun k c hk _=>a0 k c _ hk (by decide)),fun p hp=>(h.2 p hp).off hb ?_ (fun k c hk=>a0 k c _ hk (by decide))⟩;obtain⟨l',a1,_⟩:=h.2 p hp;exact a0 _ _ _ a1 (by decide)
theorem xx:(Tryz.prog.info? 65).map (fun i=>(i.zero,i.size,i.bytes))=some (some (.agg #[.slice none 0 0]),1,24):=by kernel_rfl
def jn (s:ByteArray) (w:World) (en:Ending) (w':World):Prop:=
 match ee s with
 | .error (e,p)=>en= .returned (.agg #[.int .i64 e,.int .i64 p,.pointer none,.slice none 0 0])
 | .ok im=>
  match eh im 0 im.bodies with
  | .error k=>en= .returned (.agg #[.int .i64 4,.int .i64 k,.pointer none,.slice none 0 0])
  | .ok ts=> ∃g ao cap l,en= .returned (.agg #[.int .i64 0,.int .i64 0,.pointer (some ⟨g,0,none⟩),.slice ao (List.length l) cap])∧l.map (·.2)=ts∧el w' w.heap.size (.slice ao l.length cap) l∧dk w' g im
theorem dk.but {w w':World} {g:Nat} {im:Img} (h:dk w g im) (hb:But (fun _=>False) w w'):dk w' g im:=⟨h.cls.but hb,h.met.but hb,h.bod.but hb⟩
theorem dk.off {F:Nat→Prop} {w w':World} {g:Nat} {im:Img} (h:dk w g im) (hb:But F w w') (hg: ¬F g) (hf: ∀k cur e,w.heap[k]?=some (.cells cur e)→(e=240∨e=243∨e=115∨e=219∨e=5)→ ¬F k):dk w' g im:=by
 obtain⟨⟨v0,l,h0,hl,hO,hm,a1⟩,⟨v1,h1,_,a0⟩,⟨v2,h2,_,hT⟩⟩:=h;refine⟨⟨v0,l,(hb.cell (p:=⟨g,0,none⟩) hl hg).trans h0,Nat.lt_of_lt_of_le hl hb.size,aY hO hb (fun k cur hh _=>hf k cur _ hh (by simp)),hm,fun x hx=>aY (a1 x hx) hb (fun k cur hh _=>hf k cur _ hh (by simp))⟩,⟨v1,(hb.cell (p:=⟨g,1,none⟩) hl hg).trans h1,Nat.lt_of_lt_of_le hl hb.size,aY a0 hb (fun k cur hh _=>hf k cur _ hh (by simp))⟩,⟨v2,(hb.cell (p:=⟨g,2,none⟩) hl hg).trans h2,Nat.lt_of_lt_of_le hl hb.size,hT.but hb (fun k e cur hh he _=>hf k cur e hh (by rcases he with h|h|h<;>simp[h]))⟩⟩
theorem zg (g:Nat) (im:Img) (w:World) (hW:WfI im) (hTX:dk w g im):
  Calls Tryz.prog 64 #[.pointer (some ⟨g,0,none⟩),.int .i64 (-1)] w fun en w'=>But (fun _=>False) w w'∧en= .returned (eX g im):=by
 have a4:But (fun _=>False) w (w.alloc (.cells #[.int .i64 0,.int .i64 0,.pointer none,.slice none 0 0] 60)):=But.alloc _ _ _;have a0:=heap_alloc_new w (.cells #[.int .i64 0,.int .i64 0,.pointer none,.slice none 0 0] 60)
 cases hfs:im.bodies.findSome? (fun b=>unl im.classes im.bodies b.code)with
 |some q=>
  have e1:((q:Int)== -1)=false:=by rw[beq_eq_false_iff_ne];omega
  have e2:((q:Int)!= -1)=true:=by simp[bne,e1]
  have b0: ¬(q:Int)= -1:=by omega
  have a3:=pB g im (w.alloc (.cells #[.int .i64 0,.int .i64 0,.pointer none,.slice none 0 0] 60)) hW (hTX.but a4);rw[hfs]at a3;simp only[kJ]at a3;rw[show eX g im= .agg #[.int .i64 3,.int .i64 q,.pointer none,.slice none 0 0]from by unfold eX;rw[hfs]];have a1:=hid a3;clear a3 hfs
  go_in
  go_wp2_with fail;revert a4 a0 a1;generalize (w.alloc (.cells #[.int .i64 0,.int .i64 0,.pointer none,.slice none 0 0] 60))=W;intro a4 a0 a1;have a8:=ae a0;refine a1.out.mono ?_;rintro en w2 ⟨rfl,a6⟩;have a5:=a4.trans a6;have a2:=(a6.block w.heap.size a8 (fun h=>h)).trans a0;have a7:=hid a2;obtain⟨q0,q1,q2,q3⟩:=dS a2;obtain⟨f0,f1,f2,f3⟩:=gT a2;clear a2 a0 a1;go_wp2_with fail;refine pM Tryz.results64 rfl rfl a7.out (fun w9 h9 h9b=> ?_);exact⟨a5.next h9b (fun k hk h=>by omega),rfl⟩
 |none=>
  have a3:=pB g im (w.alloc (.cells #[.int .i64 0,.int .i64 0,.pointer none,.slice none 0 0] 60)) hW (hTX.but a4);rw[hfs]at a3;simp only[kJ]at a3;rw[show eX g im= .agg #[.int .i64 0,.int .i64 0,.pointer (some ⟨g,0,none⟩),.slice none 0 0]from by unfold eX;rw[hfs]];have a1:=hid a3;clear a3 hfs
  go_in
  go_wp2_with fail;revert a4 a0 a1;generalize (w.alloc (.cells #[.int .i64 0,.int .i64 0,.pointer none,.slice none 0 0] 60))=W;intro a4 a0 a1;have a8:=ae a0;refine a1.out.mono ?_;rintro en w2 ⟨rfl,a6⟩;have a5:=a4.trans a6;have a2:=(a6.block w.heap.size a8 (fun h=>h)).trans a0;have a7:=hid a2;obtain⟨q0,q1,q2,q3⟩:=dS a2;obtain⟨f0,f1,f2,f3⟩:=gT a2;clear a2 a0 a1;go_wp2_with fail;refine pM Tryz.results64 rfl rfl a7.out (fun w9 h9 h9b=> ?_);exact⟨a5.next h9b (fun k hk h=>by omega),rfl⟩
def Fnd (w:World) (g:Nat) (e p t l:Value):Prop:=w.heap[g]?=some (.cells #[e,p,t,l] 60)
theorem iX (s:ByteArray) (w:World) (hmax:s.size≤maxLen):
  Calls Tryz.prog 36 #[.string s] w fun en w'=>But (fun _=>False) w w'∧jn s w en w':=by
 obtain⟨i0,r5,s9,t3,t4⟩:=info_parts xx;have j1:But (fun _=>False) w (w.alloc (.cells #[.int .i64 0,.int .i64 0,.pointer none,.slice none 0 0] 60)):=But.alloc _ _ _;have g1:=heap_alloc_new w (.cells #[.int .i64 0,.int .i64 0,.pointer none,.slice none 0 0] 60)
 by_cases hbig:2000<s.size
 ·have q4:2000<(s.size:Int):=by omega
  have hL:ee s= .error (1,0):=by unfold ee;rw[if_pos hbig]
  have HL:=hid hL;clear hbig hL
  go_in
  go_wp2_with fail;have h9:=heap_alloc_new w (.cells #[.int .i64 1,.int .i64 0,.pointer none,.slice none 0 0] 60);have a3:But (fun _=>False) w (w.alloc (.cells #[.int .i64 1,.int .i64 0,.pointer none,.slice none 0 0] 60)):=But.alloc _ _ _;revert h9 a3;generalize (w.alloc (.cells #[.int .i64 1,.int .i64 0,.pointer none,.slice none 0 0] 60))=w9;intro h9 a3;obtain⟨r0,r1,r2,r3⟩:=dS h9;exact bodyPost_ret (v:= .agg #[.int .i64 1,.int .i64 0,.pointer none,.slice none 0 0]) (by simp[results,Tryz.results36,go_sem,r0,r1,r2,r3]) rfl ⟨a3,by unfold jn;rw[HL.out];rfl⟩
 ·have q4: ¬2000<(s.size:Int):=by omega
  go_in
  go_wp2_with fail;revert j1 g1;generalize (w.alloc (.cells #[.int .i64 0,.int .i64 0,.pointer none,.slice none 0 0] 60))=W;intro j1 g1;have q9:=ae g1;have i5:=hid g1;clear g1;refine(wG s W (by omega)).mono ?_;rintro en w1 ⟨n3,g,p,rfl,hg,q5⟩;have c6:=j1.trans n3;have e3:=hid ((n3.block w.heap.size q9 (fun h=>h)).trans i5.out);rcases q5 with⟨j,e7,rfl,n9⟩ | ⟨rfl,im,e7,j5⟩
  ·have HL:Hid (ee s= .error (2,j)):=hid (by unfold ee;rw[if_neg hbig,e7]);clear e7 hbig i5;have m0:=ae n9;go_wp2_with fail;refine(pC g j w1).mono ?_;rintro en w2 ⟨a8,rfl⟩;have a7:=c6.trans a8;have g3:=(a8.block g m0 (fun h=>h)).trans n9;obtain⟨t0,t1,t2⟩:=fw g3;have m1:=ae g3;have b2:=hid (a8.kp e3.out);go_wp2_with fail;have a1:But (fun _=>False) w2 (w2.alloc (.cells #[.int .i64 2,.int .i64 j,.pointer none,.slice none 0 0] 60)):=But.alloc _ _ _;have a4:=heap_alloc_new w2 (.cells #[.int .i64 2,.int .i64 j,.pointer none,.slice none 0 0] 60);revert a1 a4;generalize (w2.alloc (.cells #[.int .i64 2,.int .i64 j,.pointer none,.slice none 0 0] 60))=w3
   intro a1 a4;have b0:=a1.kp b2.out;have u2:=a1.kc t2 m1;clear t0 t1 t2;obtain⟨k0,k1,k2,k3⟩:=dS a4;obtain⟨q0,q1,q2,q3⟩:=dS b0;obtain⟨f0,f1,f2,f3⟩:=gT b0;have b6:=hid b0;clear b0 b2 e3 a4
   go_loopg [6] 0 (fun mm is wr=>is= .int .i64 0∧wr=w3)
   case atStart=>exact⟨rfl,rfl⟩
   case round=>
    obtain⟨rfl,n1⟩:=hrel;subst n1;go_wp2_with fail;refine pM Tryz.results36 rfl rfl b6.out (fun w9 h9 a3=> ?_);exact⟨(a7.trans a1).next a3 (fun k hk h=>by omega),by unfold jn;rw[HL.out];rfl⟩
  ·have hW:=m6 (by omega) e7;have h4:=hid e7;clear e7 i5;have e5:=zg g im w1 hW j5;obtain⟨vb,n0,i3,lb,hO,hm,hf⟩:=j5.bod;obtain⟨a2,o5,rfl⟩:=aw hO;have v2:lb.length=im.bodies.length:=by have:=congrArg List.length hm;simpa using this
   have v3:=hW.nb;have HM:=hid hm;clear hm
   cases hfs:im.bodies.findSome? (fun b=>unl im.classes im.bodies b.code)with
   |some q=>
    have HL:Hid (ee s= .error (3,q)):=hid (by unfold ee;rw[if_neg hbig,h4.out];simp only[hfs]);rw[show eX g im= .agg #[.int .i64 3,.int .i64 q,.pointer none,.slice none 0 0]from by unfold eX;rw[hfs]]at e5;have e8:=hid e5;clear e5 hfs hbig h4;go_wp2_with fail;refine e8.out.mono ?_;rintro en w2 ⟨a8,rfl⟩;have a7:=c6.trans a8;have b2:=hid (a8.kp e3.out);clear e8;go_wp2_with fail;have a1:But (fun _=>False) w2 (w2.alloc (.cells #[.int .i64 3,.int .i64 q,.pointer none,.slice none 0 0] 60)):=But.alloc _ _ _;have a4:=heap_alloc_new w2 (.cells #[.int .i64 3,.int .i64 q,.pointer none,.slice none 0 0] 60)
    revert a1 a4;generalize (w2.alloc (.cells #[.int .i64 3,.int .i64 q,.pointer none,.slice none 0 0] 60))=w3;intro a1 a4;have b0:=a1.kp b2.out;have u2:=((a8.trans a1).cell (p:=⟨g,2,none⟩) i3 (fun h=>h)).trans n0;have e0:0<(lb.length:Int)∨ ¬0<(lb.length:Int):=Decidable.em _;obtain⟨k0,k1,k2,k3⟩:=dS a4;obtain⟨q0,q1,q2,q3⟩:=dS b0;obtain⟨f0,f1,f2,f3⟩:=gT b0;have b6:=hid b0;clear b0 b2 e3 a4
    go_loopg [6] 0 (fun mm is wr=>is= .int .i64 0∧wr=w3)
    case atStart=>exact⟨rfl,rfl⟩
    case round=>
     obtain⟨rfl,n1⟩:=hrel;subst n1;rcases e0 with e0|e0
     ·go_wp2_with fail;refine pM Tryz.results36 rfl rfl b6.out (fun w9 h9 a3=> ?_);exact⟨(a7.trans a1).next a3 (fun k hk h=>by omega),by unfold jn;rw[HL.out];rfl⟩
     ·go_wp2_with fail;refine pM Tryz.results36 rfl rfl b6.out (fun w9 h9 a3=> ?_);exact⟨(a7.trans a1).next a3 (fun k hk h=>by omega),by unfold jn;rw[HL.out];rfl⟩
   |none=>
    have HL:Hid (ee s= .ok im):=hid (by unfold ee;rw[if_neg hbig,h4.out];simp only[hfs]);rw[show eX g im= .agg #[.int .i64 0,.int .i64 0,.pointer (some ⟨g,0,none⟩),.slice none 0 0]from by unfold eX;rw[hfs]]at e5;have e8:=hid e5;clear e5 hfs hbig h4;go_wp2_with fail;refine e8.out.mono ?_;rintro en w2 ⟨a8,rfl⟩;have a7:=c6.trans a8;have b2:=hid (a8.kp e3.out);clear e8;go_wp2_with fail;have a1:But (fun _=>False) w2 (w2.alloc (.cells #[.int .i64 0,.int .i64 0,.pointer (some ⟨g,0,none⟩),.slice none 0 0] 60)):=But.alloc _ _ _;have a4:=heap_alloc_new w2 (.cells #[.int .i64 0,.int .i64 0,.pointer (some ⟨g,0,none⟩),.slice none 0 0] 60)
    revert a1 a4;generalize (w2.alloc (.cells #[.int .i64 0,.int .i64 0,.pointer (some ⟨g,0,none⟩),.slice none 0 0] 60))=w3;intro a1 a4;have b0:=a1.kp b2.out;have a6:=a8.trans a1;have f5:=a7.trans a1;have g2:g<w3.heap.size:=Nat.lt_of_lt_of_le i3 a6.size;have t5:w.heap.size<w2.heap.size:=ae b2.out;have t6:=ae a4;have b6:=hid b0;have f8:=j5.but a6;have p5:=ag hO a6 (fun _ _ h=>h);have s5:=a6.kc n0 i3;have e1:g≠w2.heap.size:=by have:=Nat.lt_of_lt_of_le i3 a8.size;omega
    have HF:Hid (∀x∈lb,BtB w3 0 x.2.1 x.1.locals∧ItB w3 0 x.2.2 x.1.items):=hid (fun x hx=>⟨(hf x hx).1.but a6 (fun _ _ h=>h),ag (hf x hx).2 a6 (fun _ _ h=>h)⟩);clear b0 b2 e3 hf n0 hO
    go_loopg [6] lb.length (fun mm ks wr=> ∃(k:Nat) (ao:Option Addr) (cap:Nat) (l:List (Nat×List St)),l.length=k∧ks= .int .i64 k∧k≤lb.length∧k+mm≤lb.length∧lb.length≤k+mm∧But (· =w2.heap.size) w3 wr∧Fnd wr w2.heap.size (.int .i64 0) (.int .i64 0) (.pointer (some ⟨g,0,none⟩)) (.slice ao k cap)∧el wr w3.heap.size (.slice ao k cap) l∧Hid ((im.bodies.take k).map (db im)=(l.map (·.2)).map some))
    case atStart=>exact⟨0,none,0,[],rfl,rfl,by omega,by omega,by omega,But.refl _ _,a4,⟨fT _ _ _ _,by simp⟩,hid rfl⟩
    case round=>
     obtain⟨k,ao,cap,l,o0,rfl,v0,r6,v1,b1,h6,n5,HA⟩:=hrel;have e9:=hid o0;clear o0 r6;have o2:=hid h6;have m3:=(b1.block w.heap.size (ae b6.out) (by omega)).trans b6.out;have e4:=hid m3;have m2:=ae m3;have j4:=ae h6;have m5:=(b1.cell (p:=⟨g,2,none⟩) g2 e1).trans s5;have q8:g<wr.heap.size:=Nat.lt_of_lt_of_le g2 b1.size;obtain⟨k0,k1,k2,k3⟩:=dS h6;clear m3 h6
     by_cases hlt:k<lb.length
     ·have s1:(k:Int)<(lb.length:Int):=by omega
      have hx:=List.getElem?_eq_getElem hlt
      have i4: ∀g' cur e,w3.heap[g']?=some (.cells cur e)→e≠60→ ¬g'=w2.heap.size:=by
       intro g' cur e hh he h9;rw[h9,a4]at hh;injection hh with hh;injection hh with _ h2;exact he h2.symm
      have p6:=aY p5 b1 (fun g' cur hh _=>i4 g' cur _ hh (by decide));obtain⟨gB,q6,q7,_,a0⟩:=aI p6 (by omega);obtain⟨bd,i2⟩: ∃bd,im.bodies[k]?=some bd:=⟨_,List.getElem?_eq_getElem (by omega)⟩
      have n8:lb[k].1=aN im.sigs bd:=by
       have h1:(lb.map (·.1))[k]?=some (aN im.sigs bd):=by rw[HM.out,List.getElem?_map,i2];rfl
       rw[List.getElem?_map,hx]at h1;exact Option.some.inj h1
      obtain⟨g7,g5⟩:=HF.out _ (List.getElem_mem hlt);have e6:BtB wr 0 lb[k].2.1 lb[k].1.locals:=aY g7 b1 (fun g' cur hh _=>i4 g' cur _ hh (by decide));have e2:ItB wr 0 lb[k].2.2 lb[k].1.items:=aY g5 b1 (fun g' cur hh _=>i4 g' cur _ hh (by decide));clear g7 g5;have p0:wr.cell? ⟨gB,k*5,none⟩=some (.int .u8 lb[k].1.cls.toNat):=a0 _ _ (aW (k:=0) hx (by omega));have p1:wr.cell? ⟨gB,k*5+1,none⟩=some (.int .i64 lb[k].1.meth):=a0 _ _ (aW (k:=1) hx (by omega));have p2:wr.cell? ⟨gB,k*5+2,none⟩=some (.int .u8 lb[k].1.ans.toNat):=a0 _ _ (aW (k:=2) hx (by omega));have p3:wr.cell? ⟨gB,k*5+3,none⟩=some lb[k].2.1:=a0 _ _ (aW (k:=3) hx (by omega))
      have p4:wr.cell? ⟨gB,k*5+4,none⟩=some lb[k].2.2:=a0 _ _ (aW (k:=4) hx (by omega));rw[n8]at p0 p1 p2 e6 e2;obtain⟨al,capl,n7⟩:=aw e6;obtain⟨ai,capi,n6⟩:=aw e2;rw[n7]at p3 e6;rw[n6]at p4 e2;have h0:(aN im.sigs bd).locals=bd.locals:=rfl;have g6:(aN im.sigs bd).items=bd.code.map aK:=rfl;rw[h0]at p3 e6;rw[g6]at p4 e2;simp only[List.length_map]at p4 e2;have s6:WfB im.classes im.sigs bd:=hW.bod _ (List.mem_of_getElem? i2);have i7:Hid (dk wr g im):=hid (f8.off b1 e1 (fun k' cur e hh he=>i4 k' cur e hh (by rcases he with h|h|h|h|h<;>(rw[h];decide))));have h3:=hid (fun(wx:World) (h:But (fun _=>False) wr wx)=>uy g im bd (aN im.sigs bd).cls (aN im.sigs bd).meth al ai capl capi wx hW s6 (i7.out.but h) (e6.but h (fun _ _ h=>h)) (ag e2 h (fun _ _ h=>h)))
      have n2:=hid i2;subst q6;obtain⟨X,hX⟩: ∃X,aN im.sigs bd=X:=⟨_,rfl⟩;rw[hX]at p0 p1 p2 h3;clear hX n8 a0 hx n7 n6 h0 g6 i2 e6 e2;unfold hdV at h3;go_wp2_with fail;refine(h3.out wr (But.refl _ _)).mono ?_;rintro en w4 ⟨f4,m4⟩;have f9:=n5.but f4;have g0:=(f4.block w.heap.size m2 (fun h=>h)).trans e4.out;have f7:=(f4.block w2.heap.size j4 (fun h=>h)).trans o2.out;have o3:=hid g0;have r4:=ae g0;clear k0 k1 k2 k3;obtain⟨q0,q1,q2,q3⟩:=dS g0;obtain⟨f0,f1,f2,f3⟩:=gT g0;obtain⟨k0,k1,k2,k3⟩:=dS f7;obtain⟨l0,l1,l2,l3⟩:=gT f7;have o1:=hid f7;have j3:=ae f7;clear h3 p0 p1 p2 p3 p4 m5 g0 f7;rcases m4 with⟨hN,rfl⟩ | ⟨tb,gt,hN,rfl,s4,t9⟩
      ·have i6:Hid (eh im 0 im.bodies= .error k):=by
        have:=wg (i:=0) HA.out n2.out hN;refine hid ?_;rw[this];simp
       clear hN HA;go_wp2_with fail;have h9:=dV o3.out (.int .i64 4) (.int .i64 k) (.pointer none) (.slice none 0 0);have a3:=eP w4 w.heap.size (.int .i64 4) (.int .i64 k) (.pointer none) (.slice none 0 0);unfold nQ at h9 a3;have b9:But (· =w.heap.size) w4 (((((w4.setCell ⟨w.heap.size,0,none⟩ (.int .i64 4)).setCell ⟨w.heap.size,1,none⟩ (.int .i64 k)).setCell ⟨w.heap.size,2,none⟩ (.pointer none)).setCell ⟨w.heap.size,3,none⟩ (.slice none 0 0)).alloc (.cells #[.slice none 0 0] 65)):=a3.trans (But.alloc _ _ _);have j0:=((But.alloc (fun _=>False) ((((w4.setCell ⟨w.heap.size,0,none⟩ (.int .i64 4)).setCell ⟨w.heap.size,1,none⟩ (.int .i64 k)).setCell ⟨w.heap.size,2,none⟩ (.pointer none)).setCell ⟨w.heap.size,3,none⟩ (.slice none 0 0)) (.cells #[.slice none 0 0] 65)).block w.heap.size (ae h9) (fun h=>h)).trans h9
       clear h9 a3;revert j0 b9;generalize (((((w4.setCell ⟨w.heap.size,0,none⟩ (.int .i64 4)).setCell ⟨w.heap.size,1,none⟩ (.int .i64 k)).setCell ⟨w.heap.size,2,none⟩ (.pointer none)).setCell ⟨w.heap.size,3,none⟩ (.slice none 0 0)).alloc (.cells #[.slice none 0 0] 65))=w9;intro b9 j0;obtain⟨r0,r1,r2,r3⟩:=dS j0;have d6:But (fun _=>False) w w9:=(((f5.next b1 (fun k' hk' h=>by omega)).trans f4).next b9 (fun k' hk' h=>by omega));exact bodyPost_ret (v:= .agg #[.int .i64 4,.int .i64 k,.pointer none,.slice none 0 0]) (by simp[results,Tryz.results36,go_sem,r0,r1,r2,r3]) rfl ⟨d6,by unfold jn;rw[HL.out];simp only[i6.out]⟩
      ·have HN:=hid hN;clear hN;have h7:w4.ownsRow w3.heap.size 65 1 (.slice ao k cap) k (iF l):=by have:=f9.1;rw[e9.out]at this;exact this
       have g4:=aA h7;have f6:But (· =w2.heap.size) w3 w4:=b1.next f4 (fun _ _ h=>h.elim);have v4:=f6.size;go_wp2_with (at_builtin;refine wpList_append_lies _ rfl _ _ _ rfl w3.heap.size 65 i0 _ 1 24 (by kernel_rfl) r5 s9 t3 t4 rfl (by omega) _ k (iF l) rfl ((h7.alloc _).alloc _) ⟨w4.heap.size+1,0,none⟩ 1 1 [.slice (some ⟨gt,0,none⟩) tb.length tb.length] rfl rfl (World.news_of_block (cs:=#[.slice (some ⟨gt,0,none⟩) tb.length tb.length]) (t:=65) (fr:=(0,0)) (aq (by simp) _)) (by simp[Value.oneCell']) (by omega) (by unfold maxLen;omega) (by omega) (by simp;omega) (w4.heap.size+2) (by simp) ?_);intro gg a5 w5 b4 b3 p8 s2
       have i1:But (fun k'=>(Value.slice ao k cap).ownBlock=some k') w4 w5:=((But.alloc _ _ _).trans (But.alloc _ _ _)).trans (bc b3);have h5:Fnd w5 w2.heap.size (.int .i64 0) (.int .i64 0) (.pointer (some ⟨g,0,none⟩)) (.slice ao k cap):=(i1.block w2.heap.size j3 (fun h=>by have:=g4 _ h;omega)).trans o1.out;have j2:But (· =w2.heap.size) w3 w5:=f6.next i1 (fun k' hk' h=>absurd (g4 k' h) (by omega))
       have b5: ∀p:Nat×List St,StB w4 p.1 p.2→StB w5 p.1 p.2:=by
        intro p hp;refine hp.off i1 ?_ (fun k' cur hk' e=>ex h7 hk' (by decide) e);obtain⟨l',s3,_⟩:=hp;exact ex h7 s3 (by decide)
       have l4:el w5 w3.heap.size (.slice (some ⟨gg,0,none⟩) (k+1) a5) (l++ [(gt,tb)]):=by
        refine⟨?_,fun p hp=> ?_⟩
        ·unfold iF;rw[List.length_append,e9.out,List.map_append];exact b4
        ·rcases List.mem_append.1 hp with hp|hp
         ·exact b5 p (f9.2 p hp)
         ·simp at hp;subst hp;exact b5 (gt,tb) s4
       have o4:Hid ((im.bodies.take (k+1)).map (db im)=((l++ [(gt,tb)]).map (·.2)).map some):=by
        show _=_
        obtain⟨s0,r8⟩:=List.getElem?_eq_some_iff.1 n2.out;rw[List.take_succ_eq_append_getElem s0,List.map_append,HA.out,r8];simp[HN.out]
       clear q0 q1 q2 q3 f0 f1 f2 f3 k0 k1 k2 k3 l0 l1 l2 l3 i1 b3 b4 p8;obtain⟨k0,k1,k2,k3⟩:=dS h5;obtain⟨l0,l1,l2,l3⟩:=gT h5;go_wp2_with fail;have n4:=But.setB w5 w2.heap.size 3 (.slice (some ⟨gg,0,none⟩) (k+1) a5);have o6:Fnd (w5.setCell ⟨w2.heap.size,3,none⟩ (.slice (some ⟨gg,0,none⟩) (k+1) a5)) w2.heap.size (.int .i64 0) (.int .i64 0) (.pointer (some ⟨g,0,none⟩)) (.slice (some ⟨gg,0,none⟩) (k+1) a5):=heap_setCell_same w5 w2.heap.size 3 _ _ _ h5;have l5:el (w5.setCell ⟨w2.heap.size,3,none⟩ (.slice (some ⟨gg,0,none⟩) (k+1) a5)) w3.heap.size (.slice (some ⟨gg,0,none⟩) (k+1) a5) (l++ [(gt,tb)]):=l4.aside n4 h5
       go_roundg (lb.length-(k+1))
       case measure=>omega
       case rel=>exact⟨k+1,_,a5,l++ [(gt,tb)],by rw[List.length_append,e9.out];rfl,by simp,by omega,by omega,by omega,j2.trans n4,o6,l5,o4⟩
     ·have s1: ¬(k:Int)<(lb.length:Int):=by omega
      have hk:k=im.bodies.length:=by omega
      have i6:Hid (eh im 0 im.bodies= .ok (l.map (·.2))):=hid (yp (by
       have:=HA.out;rw[List.take_of_length_le (by omega)]at this;exact this))
      clear HA hk;obtain⟨q0,q1,q2,q3⟩:=dS e4.out;obtain⟨f0,f1,f2,f3⟩:=gT e4.out
      have k9:=f8.off b1 e1 (fun k' cur e hh he h9=>by
       rw[h9,a4]at hh;injection hh with hh;injection hh with _ h2;rw[←h2]at he;revert he
       decide)
      go_wp2_with fail;refine pM Tryz.results36 rfl rfl e4.out (fun w9 h9 a3=> ?_)
      have j7:dk w9 g im:=k9.off a3 (by omega) (fun k' cur e hh he h8=>by
       rw[h8,e4.out]at hh;injection hh with hh;injection hh with _ h2;rw[←h2]at he;revert he
       decide)
      have l6:el w9 w.heap.size (.slice ao l.length cap) l:=by
       have h1:=n5.aside a3 e4.out;rw[e9.out];exact⟨h1.1.mono (by omega),h1.2⟩
      have d6:But (fun _=>False) w w9:=((f5.next b1 (fun k' hk' h=>by omega)).next a3 (fun k' hk' h=>by omega));exact⟨d6,by unfold jn;rw[HL.out];simp only[i6.out];exact⟨g,ao,cap,l,by rw[e9.out],rfl,l6,j7⟩⟩
theorem StB.known {w:World} {gs:Nat} {tab:List St} (h:StB w gs tab) {k:Nat} {s lo:List UInt8} (hk:tab[k]?=some (some (s,lo))):
  ∃a1 c1 a2 c2,w.cell? ⟨gs,k*3,none⟩=some (.bool true)∧w.cell? ⟨gs,k*3+1,none⟩=some (.slice a1 s.length c1)∧w.cell? ⟨gs,k*3+2,none⟩=some (.slice a2 lo.length c2)∧BtB w 0 (.slice a1 s.length c1) s∧BtB w 0 (.slice a2 lo.length c2) lo:=by
 obtain⟨l,hs,hm,hf⟩:=h;rw[←hm,List.getElem?_map]at hk;obtain⟨x,hx,a0⟩:=Option.map_eq_some_iff.1 hk;obtain⟨h1,h2⟩:=hf x (List.mem_of_getElem? hx) s lo a0;obtain⟨a1,c1,e1⟩:=aw h1;obtain⟨a2,c2,e2⟩:=aw h2;have hc:stC x=[.bool true,x.2.1,x.2.2]:=by unfold stC;rw[a0]
 rw[e1]at h1;rw[e2]at h2;refine⟨a1,c1,a2,c2,?_,?_,?_,h1,h2⟩
 ·rw[cell_of_row w gs (k*3) _ _ (0,0) hs];have:=bZ (k:=0) hx (by omega);rw[hc]at this;simpa using this
 ·rw[cell_of_row w gs (k*3+1) _ _ (0,0) hs];have:=bZ (k:=1) hx (by omega);rw[hc,e1]at this;simpa using this
 ·rw[cell_of_row w gs (k*3+2) _ _ (0,0) hs];have:=bZ (k:=2) hx (by omega);rw[hc,e2]at this;simpa using this
theorem StB.unk {w:World} {gs:Nat} {tab:List St} (h:StB w gs tab) {k:Nat} (hk:tab[k]?= .some .none):
  w.cell? ⟨gs,k*3,none⟩= .some (.bool false)∧w.cell? ⟨gs,k*3+1,none⟩= .some (.slice none 0 0)∧w.cell? ⟨gs,k*3+2,none⟩= .some (.slice none 0 0):=by
 obtain⟨l,hs,hm,hf⟩:=h;rw[←hm,List.getElem?_map]at hk;obtain⟨x,hx,a0⟩:=Option.map_eq_some_iff.1 hk;have hc:stC x=[.bool false,.slice none 0 0,.slice none 0 0]:=by unfold stC;rw[a0]
 refine⟨?_,?_,?_⟩
 ·rw[cell_of_row w gs (k*3) _ _ (0,0) hs];have:=bZ (k:=0) hx (by omega);rw[hc]at this;simpa using this
 ·rw[cell_of_row w gs (k*3+1) _ _ (0,0) hs];have:=bZ (k:=1) hx (by omega);rw[hc]at this;simpa using this
 ·rw[cell_of_row w gs (k*3+2) _ _ (0,0) hs];have:=bZ (k:=2) hx (by omega);rw[hc]at this;simpa using this
theorem iY (W:World) (n:Int) (c:UInt8) (hc:(c.toNat:Int)=n) (g:Nat) (hg:W.heap.size=g):BtB (W.alloc (.cells #[.int .u8 n] 5)) 0 (.slice (some ⟨g,0,none⟩) 1 1) [c]:=by
 subst hg;have h:=BtB.lit W 0 (Nat.zero_le _) [c] (by simp);simp only[aM,List.map_cons,List.map_nil,List.length_singleton,hc]at h;exact h
theorem uz (gA:Nat) (t:List St) (w:World) (hA:StB w gA t) (ht:nE t):
  Calls Tryz.prog 37 #[.agg #[.slice (some ⟨gA,0,none⟩) t.length t.length]] w fun en w'=>en= .returned (.string ⟨(di t).toArray⟩)∧But (fun _=>False) w w':=by
 have hl:=ht.1;have h1:=heap_alloc_new w (.cells #[.slice (some ⟨gA,0,none⟩) t.length t.length] 65);have h9:But (fun _=>False) w (w.alloc (.cells #[.slice (some ⟨gA,0,none⟩) t.length t.length] 65)):=But.alloc _ _ _
 go_in
 go_wp2_with fail;have hE:=BtB.empty (w.alloc (.cells #[.slice (some ⟨gA,0,none⟩) t.length t.length] 65));have f8:=(But.alloc (fun _=>False) (w.alloc (.cells #[.slice (some ⟨gA,0,none⟩) t.length t.length] 65)) (.cells #[] 5)).block w.heap.size (ae h1) (fun h=>h);have g6:=h9.trans (But.alloc (fun _=>False) (w.alloc (.cells #[.slice (some ⟨gA,0,none⟩) t.length t.length] 65)) (.cells #[] 5));rw[h1]at f8;have j0:((w.alloc (.cells #[.slice (some ⟨gA,0,none⟩) t.length t.length] 65))).heap.size=w.heap.size+1:=by simp
 rw[j0]at hE;revert hE f8 g6;generalize ((w.alloc (.cells #[.slice (some ⟨gA,0,none⟩) t.length t.length] 65)).alloc (.cells #[] 5))=W;intro hE f8 g6;clear h1 h9 j0
 go_loopg [3,4] t.length (fun mm ss ks wr=> ∃(k:Nat) (ao:Option Addr) (cap:Nat) (s:List UInt8),ss= .slice ao s.length cap∧BtB wr (w.heap.size+1) (.slice ao s.length cap) s∧s.length≤200*k∧ks= .int .i64 k∧k≤t.length∧k+mm≤t.length∧t.length≤k+mm∧But (fun _=>False) w wr∧wr.heap[w.heap.size]?=some (.cells #[.slice (some ⟨gA,0,none⟩) t.length t.length] 65)∧Hid ((t.take k).flatMap qn=s))
 case atStart=>exact⟨0,_,0,[],rfl,hE,by simp,rfl,by omega,by omega,by omega,g6,f8,rfl⟩
 case round=>
  obtain⟨k,ao,cap,s,rfl,hO,n2,rfl,m5,k9,n0,b0,f9,HA⟩:=hrel;clear k9;have i2:=hA.off b0 (fun h=>h) (fun _ _ _ h=>h);have i5:=ae f9;have l6:=b0.size;have c0:=ce0 f9
  by_cases hlt:k<t.length
  ·have l0:(k:Int)<(t.length:Int):=by omega
   obtain⟨o,ho⟩: ∃o,t[k]=o:=⟨_,rfl⟩;have a4:=List.getElem?_eq_getElem hlt;rw[ho]at a4;have alt:gA<wr.heap.size:=by obtain⟨l,h,_⟩:=i2;exact ae h
   have HT:Hid ((t.take (k+1)).flatMap qn=s++qn o):=by
    show _=_
    rw[List.take_add_one,a4,List.flatMap_append,HA.out];simp
   cases o with
   |none=>
    obtain⟨q0,q1,q2⟩:=i2.unk a4;clear a4 ho HA;have c6:But (fun _=>False) wr (wr.alloc (.cells #[.bool false,.slice none 0 0,.slice none 0 0] 117)):=But.alloc _ _ _;have b2:=(hO.but c6 (fun _ _ h=>h)).but (But.alloc (fun _=>False) _ (.cells #[.int .u8 63] 5)) (fun _ _ h=>h);have e8:=iY (wr.alloc (.cells #[.bool false,.slice none 0 0,.slice none 0 0] 117)) 63 63 rfl (wr.heap.size+1) (by simp);have b3:=aA hO;have f0:=aX hO;obtain⟨S2,a7⟩: ∃S2,s++ [63]=S2:=⟨_,rfl⟩;have f2:S2.length≤200*k+1:=by rw[←a7];simp;omega
    have b4:=hid a7;clear a7;go_wp2_with (at_builtin;refine bk rfl _ _ rfl (w.heap.size+1) 0 _ _ s [63] S2 b4 rfl rfl b2 e8 (by omega) (by simp;omega) ?_);intro g0 b5 w2 d6 a6 _;have a3:But (fun k'=>(Value.slice ao s.length cap).ownBlock=some k') wr w2:=((But.alloc _ _ _).trans (But.alloc _ _ _)).trans a6;have g4:But (fun _=>False) w w2:=b0.next a3 (fun k' hk' h=>absurd (b3 k' h) (by omega));have e4:=(a3.block w.heap.size i5 (fun h=>by have:=b3 _ h;omega)).trans f9;have m3:=a3.size;clear c6 b2 e8 a6 q0 q1 q2;have e9:=iY w2 44 44 rfl w2.heap.size rfl;have e3:=d6.but (But.alloc (fun _=>False) _ (.cells #[.int .u8 44] 5)) (fun _ _ h=>h)
    have a5:=aA d6;obtain⟨S3,b9⟩: ∃S3,S2++ [44]=S3:=⟨_,rfl⟩;have h4:S3.length≤200*k+2:=by rw[←b9];simp;omega
    have e1:=hid b9;clear b9;go_wp2_with (at_builtin;refine bk rfl _ _ rfl (w.heap.size+1) 0 _ _ S2 [44] S3 e1 rfl rfl e3 e9 (by omega) (by simp;omega) ?_);intro g1 b6 w3 e0 a8 _;have a0:But (fun k'=>(Value.slice g0 S2.length b5).ownBlock=some k') w2 w3:=(But.alloc _ _ _).trans a8;have a6:But (fun _=>False) w w3:=g4.next a0 (fun k' hk' h=>absurd (a5 k' h) (by omega));have f7:=(a0.block w.heap.size (ae e4) (fun h=>by have:=a5 _ h;omega)).trans e4;clear e9 e3 a8;go_wp2_with fail
    go_roundg (t.length-(k+1))
    case measure=>omega
    case rel=>exact⟨k+1,g1,b6,S3,rfl,e0,by omega,by simp,by omega,by omega,by omega,a6,f7,hid (by rw[HT.out,←e1.out,←b4.out];simp[qn])⟩
   |some st=>
    obtain⟨st,lo⟩:=st;have n1:=ht.2 k st lo a4;obtain⟨a1,c1,a2,c2,z0,z1,z2,f5,f6⟩:=hA.known a4;have altw:gA<w.heap.size:=by obtain⟨l,h,_⟩:=hA;exact ae h
    have q0:=b0.kc z0 altw;have q1:=b0.kc z1 altw;have q2:=b0.kc z2 altw;have l5:=f5.but b0 (fun _ _ h=>h);have i7:=f6.but b0 (fun _ _ h=>h);have f1:=aX f6;clear z0 z1 z2 f5;clear a4 ho HA;have c6:But (fun _=>False) wr (wr.alloc (.cells #[.bool true,.slice a1 st.length c1,.slice a2 lo.length c2] 117)):=But.alloc _ _ _;have i4:=heap_alloc_new wr (.cells #[.bool true,.slice a1 st.length c1,.slice a2 lo.length c2] 117);have b2:=hO.but c6 (fun _ _ h=>h);have f4:=l5.but c6 (fun _ _ h=>h);have h5:=i7.but c6 (fun _ _ h=>h);have b3:=aA hO;have f0:=aX hO;obtain⟨S2,a7⟩: ∃S2,s++st=S2:=⟨_,rfl⟩;have f2:S2.length≤200*k+100:=by rw[←a7];simp;omega
    have b4:=hid a7;clear a7;go_wp2_with (at_builtin;refine bk rfl _ _ rfl (w.heap.size+1) 0 _ _ s st S2 b4 rfl rfl b2 f4 (by omega) (by simp;omega) ?_);intro g0 b5 w2 d6 a6 _;have a3:But (fun k'=>(Value.slice ao s.length cap).ownBlock=some k') wr w2:=(But.alloc _ _ _).trans a6;have g4:But (fun _=>False) w w2:=b0.next a3 (fun k' hk' h=>absurd (b3 k' h) (by omega));have e4:=(a3.block w.heap.size i5 (fun h=>by have:=b3 _ h;omega)).trans f9;have b1:=(a6.block wr.heap.size (ae i4) (fun h=>by have:=f0 _ h;omega)).trans i4;have h2:BtB w2 0 (.slice a2 lo.length c2) lo:=i7.but a3 (fun g hg h=>by have:=f1 g hg;have:=b3 g h;omega)
    obtain⟨m0,m1,m2⟩:=fw b1;have m3:=a3.size;clear b2 a6 q0 q1 q2 f4 h5;have e9:=iY w2 124 124 rfl w2.heap.size rfl;have e3:=d6.but (But.alloc (fun _=>False) _ (.cells #[.int .u8 124] 5)) (fun _ _ h=>h);have a5:=aA d6;obtain⟨S3,b9⟩: ∃S3,S2++ [124]=S3:=⟨_,rfl⟩;have h4:S3.length≤200*k+101:=by rw[←b9];simp;omega
    have e1:=hid b9;clear b9;go_wp2_with (at_builtin;refine bk rfl _ _ rfl (w.heap.size+1) 0 _ _ S2 [124] S3 e1 rfl rfl e3 e9 (by omega) (by simp;omega) ?_);intro g1 b6 w3 e0 a8 _;have a0:But (fun k'=>(Value.slice g0 S2.length b5).ownBlock=some k') w2 w3:=(But.alloc _ _ _).trans a8;have a6:But (fun _=>False) w w3:=g4.next a0 (fun k' hk' h=>absurd (a5 k' h) (by omega));have f7:=(a0.block w.heap.size (ae e4) (fun h=>by have:=a5 _ h;omega)).trans e4;have e5:=(a0.block wr.heap.size (ae b1) (fun h=>ex d6 b1 (by decide) h)).trans b1;have h3:BtB w3 0 (.slice a2 lo.length c2) lo:=h2.but a0 (fun g hg h=>by have:=f1 g hg;have:=a5 g h;omega)
    have n3:=a0.size;have e6:=aA e0;clear e9 e3 a8 m0 m1 m2;obtain⟨m0,m1,m2⟩:=fw e5;have k0:=ae e5;obtain⟨S4,g7⟩: ∃S4,S3++lo=S4:=⟨_,rfl⟩;have l3:S4.length≤200*k+106:=by rw[←g7];simp;omega
    have h6:=hid g7;clear g7;go_wp2_with (at_builtin;refine bk rfl _ _ rfl (w.heap.size+1) 0 _ _ S3 lo S4 h6 rfl rfl e0 h3 (by omega) (by omega) ?_);intro j2 g2 w4 i0 g5 _;have j4:But (fun _=>False) w w4:=a6.next g5 (fun k' hk' h=>absurd (e6 k' h) (by omega));have i3:=(g5.block w.heap.size (ae f7) (fun h=>by have:=e6 _ h;omega)).trans f7;have n4:=g5.size;have e7:=aA i0;clear m0 m1 m2;have i6:=iY w4 44 44 rfl w4.heap.size rfl;have i1:=i0.but (But.alloc (fun _=>False) _ (.cells #[.int .u8 44] 5)) (fun _ _ h=>h);obtain⟨S5,h0⟩: ∃S5,S4++ [44]=S5:=⟨_,rfl⟩;have l4:S5.length≤200*k+107:=by rw[←h0];simp;omega
    have h7:=hid h0;clear h0;go_wp2_with (at_builtin;refine bk rfl _ _ rfl (w.heap.size+1) 0 _ _ S4 [44] S5 h7 rfl rfl i1 i6 (by omega) (by simp;omega) ?_);intro j3 g3 w5 j5 h8 _;have e2:But (fun k'=>(Value.slice j2 S4.length g2).ownBlock=some k') w4 w5:=(But.alloc _ _ _).trans h8;have a8:But (fun _=>False) w w5:=j4.next e2 (fun k' hk' h=>absurd (e7 k' h) (by omega));have j7:=(e2.block w.heap.size (ae i3) (fun h=>by have:=e7 _ h;omega)).trans i3;clear i6 i1 h8;go_wp2_with fail
    go_roundg (t.length-(k+1))
    case measure=>omega
    case rel=>exact⟨k+1,j3,g3,S5,rfl,j5,by omega,by simp,by omega,by omega,by omega,a8,j7,hid (by rw[HT.out,←h7.out,←h6.out,←e1.out,←b4.out];simp[qn])⟩
  ·have l0: ¬(k:Int)<(t.length:Int):=by omega
   have f3:di t=s++ [59]:=by rw[di,←HA.out,List.take_of_length_le (by omega)]
   obtain⟨S2,a7⟩: ∃S2,s++ [59]=S2:=⟨_,rfl⟩;have f2:S2.length≤200*k+1:=by rw[←a7];simp;omega
   have j1:=hid (f3.trans a7);have b4:=hid a7;clear f3 HA a7;have e8:=iY wr 59 59 rfl wr.heap.size rfl;have b2:=hO.but (But.alloc (fun _=>False) _ (.cells #[.int .u8 59] 5)) (fun _ _ h=>h);have b3:=aA hO;go_wp2_with (at_builtin;refine bk rfl _ _ rfl (w.heap.size+1) 0 _ _ s [59] S2 b4 rfl rfl b2 e8 (by omega) (by simp;omega) ?_);intro g1 b6 w3 e0 a8 _;have a0:But (fun k'=>(Value.slice ao s.length cap).ownBlock=some k') wr w3:=(But.alloc _ _ _).trans a8;have a6:But (fun _=>False) w w3:=b0.next a0 (fun k' hk' h=>absurd (b3 k' h) (by omega));have m4:=fx e0;clear e8 b2 a8;go_wp2_with fail;exact b8 (.string ⟨S2.toArray⟩) Tryz.results37 rfl rfl ⟨by rw[j1.out],a6⟩
theorem uA (s:ByteArray) (w:World) (hmax:s.size≤maxLen):
  Calls Tryz.prog 18 #[.string s] w fun en w'=>en= .returned (.tuple #[.int .i64 (kH s).1,.int .i64 (kH s).2])∧But (fun _=>False) w w':=by
 have key:Calls Tryz.prog 36 #[.string s] w fun en w'=>But (fun _=>False) w w'∧ ∃p ao cap n,en= .returned (.agg #[.int .i64 (kH s).1,.int .i64 (kH s).2,.pointer p,.slice ao n cap]):=by
  refine(iX s w hmax).mono ?_;rintro en w' ⟨hB,hE⟩;refine⟨hB,?_⟩;unfold jn at hE;unfold kH
  cases hl:ee s with
  |error e=>
   rw[hl]at hE;obtain⟨e,p⟩:=e;exact⟨_,_,_,_,hE⟩
  |ok im=>
   rw[hl]at hE;simp only at hE⊢
   cases ht:eh im 0 im.bodies with
   |error k=>rw[ht]at hE;exact⟨_,_,_,_,hE⟩
   |ok ts=>
    rw[ht]at hE;obtain⟨g,ao,cap,l,h1,_⟩:=hE;exact⟨_,_,_,_,h1⟩
 have HK:=hid key;clear key;obtain⟨E,hE⟩: ∃E,kH s=E:=⟨_,rfl⟩;rw[hE]at HK;rw[hE];clear hE;obtain⟨e,p⟩:=E;dsimp only at HK⊢
 go_in
 go_wp2_with fail;refine HK.out.mono ?_;rintro en w1 ⟨a4,p1,ao,cap,n,rfl⟩;go_wp2_with fail;have a2:But (fun _=>False) w1 (w1.alloc (.cells #[.int .i64 e,.int .i64 p,.pointer p1,.slice ao n cap] 60)):=But.alloc _ _ _;have a1:=heap_alloc_new w1 (.cells #[.int .i64 e,.int .i64 p,.pointer p1,.slice ao n cap] 60);revert a2 a1;generalize (w1.alloc (.cells #[.int .i64 e,.int .i64 p,.pointer p1,.slice ao n cap] 60))=W;intro a2 a1;obtain⟨k0,k1,k2,k3⟩:=dS a1;have a3:=ae a1;have a0:But (fun _=>False) W W.drew:=But.drew _ _;refine cB (But (fun _=>False) W) 5 (by kernel_rfl) ?_;have fSA:=hid (fun wS (h:(But (fun _=>False) W) wS)=>(And.intro (h.kc k0 a3) (h.kc k1 a3)))
 refine aB (k:=2) (v:= ?vA2) rfl (by decide) (by kernel_rfl) (fun _ _ _ h=>h) rfl a0 ?yA2 ?rA2
 case yA2=>intro wS h;obtain⟨q0,q1⟩:=fSA.out wS h;clear h;go_simp;try rfl
 dsimp only[Act.put]
 try simp only[aL]
 refine aB (k:=3) (v:= ?vA3) rfl (by decide) (by kernel_rfl) (fun _ _ _ h=>h) rfl a0 ?yA3 ?rA3
 case yA3=>intro wS h;obtain⟨q0,q1⟩:=fSA.out wS h;clear h;go_simp;try rfl
 dsimp only[Act.put]
 try simp only[aL]
 refine aB (k:=0) (v:= ?vA0) rfl (by decide) (by kernel_rfl) (fun _ _ _ h=>h) rfl a0 ?yA0 ?rA0
 case yA0=>intro wS h;obtain⟨q0,q1⟩:=fSA.out wS h;clear h;go_simp;try rfl
 dsimp only[Act.put]
 try simp only[aL]
 refine aB (k:=1) (v:= ?vA1) rfl (by decide) (by kernel_rfl) (fun _ _ _ h=>h) rfl a0 ?yA1 ?rA1
 case yA1=>intro wS h;obtain⟨q0,q1⟩:=fSA.out wS h;clear h;go_simp;try rfl
 dsimp only[Act.put]
 try simp only[aL]
 try clear fSA
 refine aE (k:=4) rfl (by decide) (by kernel_rfl) ?_;intro KS hKS;go_simp;refine hKS.out _ _ (fun _=>a0) ?_;clear hKS KS;refine aE (k:=5) rfl (by decide) (by kernel_rfl) ?_;intro KS hKS;go_simp;refine hKS.out _ _ nofun ?_;clear hKS KS;refine ck rfl (by kernel_rfl) ?_;go_wp2_with fail;exact bodyPost_ret (v:= .tuple #[.int .i64 e,.int .i64 p]) (by simp[results,Tryz.results18,go_sem]) rfl ⟨rfl,(a4.trans a2).trans a0⟩
theorem zh {s:ByteArray} {im:Img} (h:ee s= .ok im):WfI im:=by
 unfold ee at h
 by_cases hb:2000<s.size
 ·rw[if_pos hb]at h;cases h
 rw[if_neg hb]at h
 cases hr:fS s with
 |error j=>rw[hr]at h;cases h
 |ok im'=>
  rw[hr]at h;simp only at h
  split at h
  ·cases h
  ·cases h
   exact m6 (by omega) hr
theorem ou (s:ByteArray) (w:World) (hmax:s.size≤maxLen) (e p:Nat) (h: ∀w,Calls Tryz.prog 36 #[.string s] w fun en w'=>But (fun _=>False) w w'∧en= .returned (.agg #[.int .i64 e,.int .i64 p,.pointer none,.slice none 0 0])):
  Calls Tryz.prog 19 #[.string s] w fun en w'=>en= .returned (.tuple #[.string ⟨#[]⟩,.int .i64 e])∧But (fun _=>False) w w':=by
 have HK:=hid h;clear h
 go_in
 go_wp2_with fail;refine(HK.out w).mono ?_;rintro en w1 ⟨a4,rfl⟩;go_wp2_with fail;have a2:But (fun _=>False) w1 (w1.alloc (.cells #[.int .i64 e,.int .i64 p,.pointer none,.slice none 0 0] 60)):=But.alloc _ _ _;have a1:=heap_alloc_new w1 (.cells #[.int .i64 e,.int .i64 p,.pointer none,.slice none 0 0] 60);revert a2 a1;generalize (w1.alloc (.cells #[.int .i64 e,.int .i64 p,.pointer none,.slice none 0 0] 60))=W;intro a2 a1;obtain⟨k0,k1,k2,k3⟩:=dS a1;have a3:=ae a1;have a5:=a4.trans a2
 go_loopg [5,6] 0 (fun mm ss is wr=>ss= .string ⟨#[]⟩∧is= .int .i64 0∧wr=W)
 case atStart=>exact⟨rfl,rfl,rfl⟩
 case round=>
  obtain⟨rfl,rfl,a6⟩:=hrel;subst a6;go_wp2_with fail;have a0:But (fun _=>False) wr wr.drew:=But.drew _ _;refine cB (But (fun _=>False) wr) 4 (by kernel_rfl) ?_;refine aB (k:=1) (v:= ?vA1) rfl (by decide) (by kernel_rfl) (fun _ _ _ h=>h) rfl a0 ?yA1 ?rA1
  case yA1=>intro wS h;have q0:=(h.kc k0 a3);clear h;go_simp;try rfl
  dsimp only[Act.put]
  try simp only[aL]
  refine aB (k:=2) (v:= ?vA2) rfl (by decide) (by kernel_rfl) (fun _ _ _ h=>h) rfl a0 ?yA2 ?rA2
  case yA2=>intro wS h;have q0:=(h.kc k0 a3);clear h;go_simp;try rfl
  dsimp only[Act.put]
  try simp only[aL]
  refine aB (k:=0) (v:= ?vA0) rfl (by decide) (by kernel_rfl) (fun _ _ _ h=>h) rfl a0 ?yA0 ?rA0
  case yA0=>intro wS h;have q0:=(h.kc k0 a3);clear h;go_simp;try rfl
  dsimp only[Act.put]
  try simp only[aL]
  refine aE (k:=3) rfl (by decide) (by kernel_rfl) ?_;intro KS hKS;go_simp;refine hKS.out _ _ (fun _=>a0) ?_;clear hKS KS;refine aE (k:=4) rfl (by decide) (by kernel_rfl) ?_;intro KS hKS;go_simp;refine hKS.out _ _ nofun ?_;clear hKS KS;refine ck rfl (by kernel_rfl) ?_;go_wp2_with fail;exact bodyPost_ret (v:= .tuple #[.string ⟨#[]⟩,.int .i64 e]) (by simp[results,Tryz.results19,go_sem]) rfl ⟨rfl,a5.trans a0⟩
theorem xy (s:ByteArray) (w:World) (hmax:s.size≤maxLen) (ts:List (List St)) (hsh: ∀t∈ts,nE t) (hl7:ts.length≤7)
  (h: ∀w,Calls Tryz.prog 36 #[.string s] w fun en w'=>But (fun _=>False) w w'∧ ∃g ao cap l,en= .returned (.agg #[.int .i64 0,.int .i64 0,.pointer (some ⟨g,0,none⟩),.slice ao (List.length l) cap])∧l.map (·.2)=ts∧el w' w.heap.size (.slice ao l.length cap) l):
  Calls Tryz.prog 19 #[.string s] w fun en w'=>en= .returned (.tuple #[.string ⟨(ts.flatMap di).toArray⟩,.int .i64 0])∧But (fun _=>False) w w':=by
 have HK:=hid h;clear h
 go_in
 go_wp2_with fail;refine(HK.out w).mono ?_;rintro en w1 ⟨e1,g,ao,cap,l,rfl,a2,e8⟩
 have f3:l.length≤7:=by
  have:l.length=ts.length:=by rw[←a2];simp
  omega
 have e0:Hid (∀p∈l,nE p.2):=hid (fun p hp=>hsh p.2 (by rw[←a2];exact List.mem_map_of_mem hp));have b3:Hid ((l.map (·.2)).flatMap di=ts.flatMap di):=hid (by rw[a2]);obtain⟨R,b1⟩: ∃R,ts.flatMap di=R:=⟨_,rfl⟩;clear hsh a2 HK hl7;go_wp2_with fail;have a7:But (fun _=>False) w1 (w1.alloc (.cells #[.int .i64 0,.int .i64 0,.pointer (some ⟨g,0,none⟩),.slice ao l.length cap] 60)):=But.alloc _ _ _;have b2:=heap_alloc_new w1 (.cells #[.int .i64 0,.int .i64 0,.pointer (some ⟨g,0,none⟩),.slice ao l.length cap] 60);revert a7 b2;generalize (w1.alloc (.cells #[.int .i64 0,.int .i64 0,.pointer (some ⟨g,0,none⟩),.slice ao l.length cap] 60))=W
 intro a7 b2;have c6:=e8.but a7;have e3:=e1.trans a7
 go_loopg [5,6] l.length (fun mm ss ks wr=> ∃(k:Nat) (s:List UInt8),ss= .string ⟨s.toArray⟩∧s.length≤20001*k∧ks= .int .i64 k∧k≤l.length∧k+mm≤l.length∧l.length≤k+mm∧But (fun _=>False) W wr∧Hid (((l.take k).map (·.2)).flatMap di=s))
 case atStart=>exact⟨0,[],rfl,by simp,rfl,by omega,by omega,by omega,But.refl _ _,rfl⟩
 case round=>
  obtain⟨k,s',rfl,f4,rfl,f1,e6,f2,a5,HA⟩:=hrel;clear e6;have b5:=a5.kp b2;obtain⟨k0,k1,k2,k3⟩:=dS b5;have a1:=ae b5
  by_cases a2:k<l.length
  ·have e7:(k:Int)<(l.length:Int):=by omega
   have a8:=List.getElem?_eq_getElem a2;obtain⟨p,b6⟩: ∃p,l[k]=p:=⟨_,rfl⟩;have a3:l[k]∈l:=List.getElem_mem a2;rw[b6]at a8 a3;obtain⟨gp,tp⟩:=p;obtain⟨gq,e5,e9,f0,a0⟩:=aI (ag c6.1 a5 (fun _ _ h=>h)) (by omega);subst e5;have q0:wr.cell? ⟨gq,k,none⟩=some (.slice (some ⟨gp,0,none⟩) tp.length tp.length):=a0 _ _ (by simp[iF,a8]);have e4:StB wr gp tp:=(c6.2 _ a3).off a5 (fun h=>h) (fun _ _ _ h=>h);have b9:=e0.out _ a3;have d6:=qp b9
   have HT:Hid (((l.take (k+1)).map (·.2)).flatMap di=s'++di tp):=by
    show _=_
    rw[List.take_add_one,a8,List.map_append,List.flatMap_append,HA.out];simp
   clear a0 a8 b6 HA;have b4:=hid (fun(wx:World) (h:But (fun _=>False) wr wx)=>uz gp tp wx (e4.off h (fun h=>h) (fun _ _ _ h=>h)) b9);go_wp2_with fail;refine(b4.out wr (But.refl _ _)).mono ?_;rintro en w3 ⟨rfl,e2⟩;revert HT d6;generalize di tp=wt;intro d6 HT;have n1: ¬9223372036854775807<s'.length+wt.length:=by omega
   clear q0 k0 k1 k2 k3 b4;go_wp2_with fail
   go_roundg (l.length-(k+1))
   case measure=>omega
   case rel=>exact⟨k+1,s'++wt,congrArg Value.string (qb _ _),by simp;omega,by simp,by omega,by omega,by omega,a5.trans e2,HT.out⟩
  ·have e7: ¬(k:Int)<(l.length:Int):=by omega
   have a4:s'=R:=by rw[←b1,←b3.out,←HA.out,List.take_of_length_le (by omega)]
   rw[←b1]at a4;have b0:=hid a4;clear HA b3 a4 b1;go_wp2_with fail;have a6:But (fun _=>False) wr wr.drew:=But.drew _ _;refine cB (But (fun _=>False) wr) 4 (by kernel_rfl) ?_;refine aB (k:=1) (v:= ?vA1) rfl (by decide) (by kernel_rfl) (fun _ _ _ h=>h) rfl a6 ?yA1 ?rA1
   case yA1=>intro wS h;have q0:=(h.kc k0 a1);clear h;go_simp;try rfl
   dsimp only[Act.put]
   try simp only[aL]
   refine aB (k:=2) (v:= ?vA2) rfl (by decide) (by kernel_rfl) (fun _ _ _ h=>h) rfl a6 ?yA2 ?rA2
   case yA2=>intro wS h;have q0:=(h.kc k0 a1);clear h;go_simp;try rfl
   dsimp only[Act.put]
   try simp only[aL]
   refine aB (k:=0) (v:= ?vA0) rfl (by decide) (by kernel_rfl) (fun _ _ _ h=>h) rfl a6 ?yA0 ?rA0
   case yA0=>intro wS h;have q0:=(h.kc k0 a1);clear h;go_simp;try rfl
   dsimp only[Act.put]
   try simp only[aL]
   refine aE (k:=3) rfl (by decide) (by kernel_rfl) ?_;intro KS hKS;go_simp;refine hKS.out _ _ (fun _=>a6) ?_;clear hKS KS;refine aE (k:=4) rfl (by decide) (by kernel_rfl) ?_;intro KS hKS;go_simp;refine hKS.out _ _ nofun ?_;clear hKS KS;refine ck rfl (by kernel_rfl) ?_;go_wp2_with fail;exact bodyPost_ret (v:= .tuple #[.string ⟨s'.toArray⟩,.int .i64 0]) (by simp[results,Tryz.results19,go_sem]) rfl ⟨by rw[b0.out],(e3.trans a5).trans a6⟩
theorem uB (s:ByteArray) (w:World) (hmax:s.size≤maxLen):
  Calls Tryz.prog 19 #[.string s] w fun en w'=>en= .returned (.tuple #[.string ⟨(qo s).1.toArray⟩,.int .i64 (qo s).2])∧But (fun _=>False) w w':=by
 have a0:=fun w=>iX s w hmax
 unfold qo
 cases hl:ee s with
 |error e=>
  obtain⟨e,p⟩:=e;exact ou s w hmax e p (fun w=>(a0 w).mono (fun en w' h=>⟨h.1,by have:=h.2;unfold jn at this;rw[hl]at this;exact this⟩))
 |ok im=>
  simp only
  cases ht:eh im 0 im.bodies with
  |error k=>exact ou s w hmax 4 k (fun w=>(a0 w).mono (fun en w' h=>⟨h.1,by have:=h.2;unfold jn at this;rw[hl]at this;simp only[ht]at this;exact this⟩))
  |ok ts=>
   have hW:WfI im:=zh hl;have hm:=wi ht;refine xy s w hmax ts (fun t htt=> ?_) (by rw[hm.1];exact hW.nb) (fun w=>(a0 w).mono (fun en w' h=>⟨h.1,?_⟩))
   ·obtain⟨b,a2,a3⟩:=hm.2 t htt;have a1:=hW.bod b a2;exact(lN hW a1 a3).short a1.len.2 a1.loc.1
   ·have:=h.2;unfold jn at this;rw[hl]at this;simp only[ht]at this;obtain⟨g,ao,cap,l,h1,h2,h3,_⟩:=this;exact⟨g,ao,cap,l,h1,h2,h3⟩
end
end Go.Proofs.YtpfkkmacakjmbaaGreatDoor
