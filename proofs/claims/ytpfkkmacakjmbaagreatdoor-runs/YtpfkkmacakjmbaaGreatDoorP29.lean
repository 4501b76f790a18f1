import Derived.Test.YtpfkkmacakjmbaaGreatDoorP28
import Derived.Test.YtpfkkmacakjmbaaGreatDoorP12
set_option maxRecDepth 100000
set_option maxHeartbeats 6400000
set_option linter.unusedSimpArgs false
set_option linter.unusedVariables false
namespace Go.Proofs.YtpfkkmacakjmbaaGreatDoor
section
open Go Go.RowKit Sp
attribute [local go_sem ↓] Go.wp_at_zero Go.wp_at_succ
theorem By {fn:Func} {R:Ending→World→Prop} {a:Act} {w:World} {c g:Nat} {a0 a1 a2 a3 x0 x1 x2 x3:Value} (hf:fn.results=#[.cell c 60]) (hd:a.defers=[]) (hc:a.tmps.getD c undef= .pointer (some ⟨g,0,none⟩)) (h:w.heap[g]?=some (.cells #[a0,a1,a2,a3] 60)) (hR: ∀w9,w9.heap[g]?=some (.cells #[x0,x1,x2,x3] 60)→But (· =g) w w9→R (.returned (.agg #[x0,x1,x2,x3])) w9):bodyPost Tryz.prog fn R .ret a ((((w.setCell ⟨g,0,none⟩ x0).setCell ⟨g,1,none⟩ x1).setCell ⟨g,2,none⟩ x2).setCell ⟨g,3,none⟩ x3):=by
 have h9:=fq h x0 x1 x2 x3;have r0:=ce0 h9;have r1:=ce1 h9;have r2:=ce2 h9;have r3:=ce3 h9;refine bodyPost_ret (v:= .agg #[x0,x1,x2,x3]) ?_ hd (hR _ h9 (gO w g x0 x1 x2 x3));have a4:a.tmps[c]?.getD undef= .pointer (some ⟨g,0,none⟩):=by simpa using hc
 unfold pV at r0 r1 r2 r3;simp[results,hf,a4,go_sem,r0,r1,r2,r3]
def jD (l:List (Nat×List St)):List Value:=l.map fun p=> .slice (some ⟨p.1,0,none⟩) p.2.length p.2.length
def eN (w:World) (base:Nat) (v:Value) (l:List (Nat×List St)):Prop:=
 w.ownsRow base 65 1 v l.length (jD l)∧ ∀p∈l,StB w p.1 p.2
theorem eN.but {w w':World} {base:Nat} {v:Value} {l:List (Nat×List St)} (h:eN w base v l) (hb:But (fun _=>False) w w'):eN w' base v l:=
 ⟨ar h.1 hb (fun _ _ h=>h),fun p hp=>(h.2 p hp).off hb (fun h=>h) (fun _ _ _ h=>h)⟩
theorem eN.aside {w w':World} {base g:Nat} {v:Value} {l:List (Nat×List St)} {cur:Array Value} (h:eN w base v l) (hb:But (· =g) w w') (hg:w.heap[g]?=some (.cells cur 60)):eN w' base v l:=by
 have a0: ∀k c e,w.heap[k]?=some (.cells c e)→e≠60→ ¬k=g:=by
  intro k c e hk he h9;rw[h9,hg]at hk;injection hk with hk;injection hk with _ h2;exact he h2.symm
 refine⟨bj h.1 hb (fun k c hk _=>a0 k c _ hk (by decide)),fun p hp=>(h.2 p hp).off hb ?_ (fun k c hk=>a0 k c _ hk (by decide))⟩;obtain⟨l',a1,_⟩:=h.2 p hp;exact a0 _ _ _ a1 (by decide)
theorem uY:(Tryz.prog.info? 65).map (fun i=>(i.zero,i.size,i.bytes))=some (some (.agg #[.slice none 0 0]),1,24):=by kernel_rfl
def mi (s:ByteArray) (w:World) (en:Ending) (w':World):Prop:=
 match dQ s with
 | .error (e,p)=>en= .returned (.agg #[.int .i64 e,.int .i64 p,.pointer none,.slice none 0 0])
 | .ok im=>
  match fI im 0 im.bodies with
  | .error k=>en= .returned (.agg #[.int .i64 4,.int .i64 k,.pointer none,.slice none 0 0])
  | .ok ts=> ∃g ao cap l,en= .returned (.agg #[.int .i64 0,.int .i64 0,.pointer (some ⟨g,0,none⟩),.slice ao (List.length l) cap])∧l.map (·.2)=ts∧eN w' w.heap.size (.slice ao l.length cap) l∧dk w' g im
theorem dk.but {w w':World} {g:Nat} {im:Img} (h:dk w g im) (hb:But (fun _=>False) w w'):dk w' g im:=⟨h.cls.but hb,h.met.but hb,h.bod.but hb⟩
theorem dk.off {F:Nat→Prop} {w w':World} {g:Nat} {im:Img} (h:dk w g im) (hb:But F w w') (hg: ¬F g) (hf: ∀k cur e,w.heap[k]?=some (.cells cur e)→(e=240∨e=243∨e=115∨e=219∨e=5)→ ¬F k):dk w' g im:=by
 obtain⟨⟨v0,l,h0,hl,hO,hm,a1⟩,⟨v1,h1,_,a0⟩,⟨v2,h2,_,hT⟩⟩:=h;refine⟨⟨v0,l,(hb.cell (p:=⟨g,0,none⟩) hl hg).trans h0,Nat.lt_of_lt_of_le hl hb.size,bj hO hb (fun k cur hh _=>hf k cur _ hh (by simp)),hm,fun x hx=>bj (a1 x hx) hb (fun k cur hh _=>hf k cur _ hh (by simp))⟩,⟨v1,(hb.cell (p:=⟨g,1,none⟩) hl hg).trans h1,Nat.lt_of_lt_of_le hl hb.size,bj a0 hb (fun k cur hh _=>hf k cur _ hh (by simp))⟩,⟨v2,(hb.cell (p:=⟨g,2,none⟩) hl hg).trans h2,Nat.lt_of_lt_of_le hl hb.size,hT.but hb (fun k e cur hh he _=>hf k cur e hh (by rcases he with h|h|h<;>simp[h]))⟩⟩
theorem xl (g:Nat) (im:Img) (w:World) (hW:WfI im) (hTX:dk w g im):
  Calls Tryz.prog 64 #[.pointer (some ⟨g,0,none⟩),.int .i64 (-1)] w fun en w'=>But (fun _=>False) w w'∧en= .returned (kX g im):=by
 have a4:But (fun _=>False) w (w.alloc (.cells #[.int .i64 0,.int .i64 0,.pointer none,.slice none 0 0] 60)):=But.alloc _ _ _;have a0:=heap_alloc_new w (.cells #[.int .i64 0,.int .i64 0,.pointer none,.slice none 0 0] 60)
 cases hfs:im.bodies.findSome? (fun b=>unl im.classes im.bodies b.code)with
 |some q=>
  have e1:((q:Int)== -1)=false:=by rw[beq_eq_false_iff_ne];omega
  have e2:((q:Int)!= -1)=true:=by simp[bne,e1]
  have a9: ¬(q:Int)= -1:=by omega
  have a3:=oZ g im (w.alloc (.cells #[.int .i64 0,.int .i64 0,.pointer none,.slice none 0 0] 60)) hW (hTX.but a4);rw[hfs]at a3;simp only[pS]at a3;rw[show kX g im= .agg #[.int .i64 3,.int .i64 q,.pointer none,.slice none 0 0]from by unfold kX;rw[hfs]];have a1:=hid a3;clear a3 hfs
  go_in
  go_wp2_with fail;revert a4 a0 a1;generalize (w.alloc (.cells #[.int .i64 0,.int .i64 0,.pointer none,.slice none 0 0] 60))=W;intro a4 a0 a1;have a8:=ae a0;refine a1.out.mono ?_;rintro en w2 ⟨rfl,a6⟩;have a5:=a4.trans a6;have a2:=(a6.block w.heap.size a8 (fun h=>h)).trans a0;have a7:=hid a2;obtain⟨q0,q1,q2,q3⟩:=iE a2;obtain⟨f0,f1,f2,f3⟩:=l7 a2;clear a2 a0 a1;go_wp2_with fail;refine By Tryz.results64 rfl rfl a7.out (fun w9 h9 h9b=> ?_);exact⟨a5.next h9b (fun k hk h=>by omega),rfl⟩
 |none=>
  have a3:=oZ g im (w.alloc (.cells #[.int .i64 0,.int .i64 0,.pointer none,.slice none 0 0] 60)) hW (hTX.but a4);rw[hfs]at a3;simp only[pS]at a3;rw[show kX g im= .agg #[.int .i64 0,.int .i64 0,.pointer (some ⟨g,0,none⟩),.slice none 0 0]from by unfold kX;rw[hfs]];have a1:=hid a3;clear a3 hfs
  go_in
  go_wp2_with fail;revert a4 a0 a1;generalize (w.alloc (.cells #[.int .i64 0,.int .i64 0,.pointer none,.slice none 0 0] 60))=W;intro a4 a0 a1;have a8:=ae a0;refine a1.out.mono ?_;rintro en w2 ⟨rfl,a6⟩;have a5:=a4.trans a6;have a2:=(a6.block w.heap.size a8 (fun h=>h)).trans a0;have a7:=hid a2;obtain⟨q0,q1,q2,q3⟩:=iE a2;obtain⟨f0,f1,f2,f3⟩:=l7 a2;clear a2 a0 a1;go_wp2_with fail;refine By Tryz.results64 rfl rfl a7.out (fun w9 h9 h9b=> ?_);exact⟨a5.next h9b (fun k hk h=>by omega),rfl⟩
def Fnd (w:World) (g:Nat) (e p t l:Value):Prop:=w.heap[g]?=some (.cells #[e,p,t,l] 60)
theorem qh (s:ByteArray) (w:World) (hmax:s.size≤maxLen):
  Calls Tryz.prog 36 #[.string s] w fun en w'=>But (fun _=>False) w w'∧mi s w en w':=by
 obtain⟨i0,s2,v1,v2,v3⟩:=info_parts uY;have j3:But (fun _=>False) w (w.alloc (.cells #[.int .i64 0,.int .i64 0,.pointer none,.slice none 0 0] 60)):=But.alloc _ _ _;have g4:=heap_alloc_new w (.cells #[.int .i64 0,.int .i64 0,.pointer none,.slice none 0 0] 60)
 by_cases hbig:2000<s.size
 ·have q8:2000<(s.size:Int):=by omega
  have hL:dQ s= .error (1,0):=by unfold dQ;rw[if_pos hbig]
  have HL:=hid hL;clear hbig hL
  go_in
  go_wp2_with fail;have h9:=heap_alloc_new w (.cells #[.int .i64 1,.int .i64 0,.pointer none,.slice none 0 0] 60);have a3:But (fun _=>False) w (w.alloc (.cells #[.int .i64 1,.int .i64 0,.pointer none,.slice none 0 0] 60)):=But.alloc _ _ _;revert h9 a3;generalize (w.alloc (.cells #[.int .i64 1,.int .i64 0,.pointer none,.slice none 0 0] 60))=w9;intro h9 a3;obtain⟨r0,r1,r2,r3⟩:=iE h9;exact bodyPost_ret (v:= .agg #[.int .i64 1,.int .i64 0,.pointer none,.slice none 0 0]) (by simp[results,Tryz.results36,go_sem,r0,r1,r2,r3]) rfl ⟨a3,by unfold mi;rw[HL.out];rfl⟩
 ·have q8: ¬2000<(s.size:Int):=by omega
  go_in
  go_wp2_with fail;revert j3 g4;generalize (w.alloc (.cells #[.int .i64 0,.int .i64 0,.pointer none,.slice none 0 0] 60))=W;intro j3 g4;have s0:=ae g4;have i9:=hid g4;clear g4;refine(uG s W (by omega)).mono ?_;rintro en w1 ⟨n6,g,p,rfl,hg,q9⟩;have b9:=j3.trans n6;have e4:=hid ((n6.block w.heap.size s0 (fun h=>h)).trans i9.out);rcases q9 with⟨j,e8,rfl,o2⟩ | ⟨rfl,im,e8,k9⟩
  ·have HL:Hid (dQ s= .error (2,j)):=hid (by unfold dQ;rw[if_neg hbig,e8]);clear e8 hbig i9;have m3:=ae o2;go_wp2_with fail;refine(uI g j w1).mono ?_;rintro en w2 ⟨a7,rfl⟩;have a6:=b9.trans a7;have g6:=(a7.block g m3 (fun h=>h)).trans o2;obtain⟨t0,t1,t2⟩:=eu g6;have m4:=ae g6;have b0:=hid (a7.kp e4.out);go_wp2_with fail;have a1:But (fun _=>False) w2 (w2.alloc (.cells #[.int .i64 2,.int .i64 j,.pointer none,.slice none 0 0] 60)):=But.alloc _ _ _;have a4:=heap_alloc_new w2 (.cells #[.int .i64 2,.int .i64 j,.pointer none,.slice none 0 0] 60);revert a1 a4;generalize (w2.alloc (.cells #[.int .i64 2,.int .i64 j,.pointer none,.slice none 0 0] 60))=w3
   intro a1 a4;have a8:=a1.kp b0.out;have u2:=a1.kc t2 m4;clear t0 t1 t2;obtain⟨k0,k1,k2,k3⟩:=iE a4;obtain⟨q0,q1,q2,q3⟩:=iE a8;obtain⟨f0,f1,f2,f3⟩:=l7 a8;have b4:=hid a8;clear a8 b0 e4 a4
   go_loopg [6] 0 (fun mm is wr=>is= .int .i64 0∧wr=w3)
   case atStart=>exact⟨rfl,rfl⟩
   case round=>
    obtain⟨rfl,n4⟩:=hrel;subst n4;go_wp2_with fail;refine By Tryz.results36 rfl rfl b4.out (fun w9 h9 a3=> ?_);exact⟨(a6.trans a1).next a3 (fun k hk h=>by omega),by unfold mi;rw[HL.out];rfl⟩
  ·have hW:=mK (by omega) e8;have h7:=hid e8;clear e8 i9;have e6:=xl g im w1 hW k9;obtain⟨vb,n3,i6,lb,hO,hm,hf⟩:=k9.bod;obtain⟨a2,p6,rfl⟩:=au hO;have w0:lb.length=im.bodies.length:=by have:=congrArg List.length hm;simpa using this
   have w6:=hW.nb;have HM:=hid hm;clear hm
   cases hfs:im.bodies.findSome? (fun b=>unl im.classes im.bodies b.code)with
   |some q=>
    have HL:Hid (dQ s= .error (3,q)):=hid (by unfold dQ;rw[if_neg hbig,h7.out];simp only[hfs]);rw[show kX g im= .agg #[.int .i64 3,.int .i64 q,.pointer none,.slice none 0 0]from by unfold kX;rw[hfs]]at e6;have f4:=hid e6;clear e6 hfs hbig h7;go_wp2_with fail;refine f4.out.mono ?_;rintro en w2 ⟨a7,rfl⟩;have a6:=b9.trans a7;have b0:=hid (a7.kp e4.out);clear f4;go_wp2_with fail;have a1:But (fun _=>False) w2 (w2.alloc (.cells #[.int .i64 3,.int .i64 q,.pointer none,.slice none 0 0] 60)):=But.alloc _ _ _;have a4:=heap_alloc_new w2 (.cells #[.int .i64 3,.int .i64 q,.pointer none,.slice none 0 0] 60)
    revert a1 a4;generalize (w2.alloc (.cells #[.int .i64 3,.int .i64 q,.pointer none,.slice none 0 0] 60))=w3;intro a1 a4;have a8:=a1.kp b0.out;have u2:=((a7.trans a1).cell (p:=⟨g,2,none⟩) i6 (fun h=>h)).trans n3;have e1:0<(lb.length:Int)∨ ¬0<(lb.length:Int):=Decidable.em _;obtain⟨k0,k1,k2,k3⟩:=iE a4;obtain⟨q0,q1,q2,q3⟩:=iE a8;obtain⟨f0,f1,f2,f3⟩:=l7 a8;have b4:=hid a8;clear a8 b0 e4 a4
    go_loopg [6] 0 (fun mm is wr=>is= .int .i64 0∧wr=w3)
    case atStart=>exact⟨rfl,rfl⟩
    case round=>
     obtain⟨rfl,n4⟩:=hrel;subst n4;rcases e1 with e1|e1
     ·go_wp2_with fail;refine By Tryz.results36 rfl rfl b4.out (fun w9 h9 a3=> ?_);exact⟨(a6.trans a1).next a3 (fun k hk h=>by omega),by unfold mi;rw[HL.out];rfl⟩
     ·go_wp2_with fail;refine By Tryz.results36 rfl rfl b4.out (fun w9 h9 a3=> ?_);exact⟨(a6.trans a1).next a3 (fun k hk h=>by omega),by unfold mi;rw[HL.out];rfl⟩
   |none=>
    have HL:Hid (dQ s= .ok im):=hid (by unfold dQ;rw[if_neg hbig,h7.out];simp only[hfs]);rw[show kX g im= .agg #[.int .i64 0,.int .i64 0,.pointer (some ⟨g,0,none⟩),.slice none 0 0]from by unfold kX;rw[hfs]]at e6;have f4:=hid e6;clear e6 hfs hbig h7;go_wp2_with fail;refine f4.out.mono ?_;rintro en w2 ⟨a7,rfl⟩;have a6:=b9.trans a7;have b0:=hid (a7.kp e4.out);clear f4;go_wp2_with fail;have a1:But (fun _=>False) w2 (w2.alloc (.cells #[.int .i64 0,.int .i64 0,.pointer (some ⟨g,0,none⟩),.slice none 0 0] 60)):=But.alloc _ _ _;have a4:=heap_alloc_new w2 (.cells #[.int .i64 0,.int .i64 0,.pointer (some ⟨g,0,none⟩),.slice none 0 0] 60)
    revert a1 a4;generalize (w2.alloc (.cells #[.int .i64 0,.int .i64 0,.pointer (some ⟨g,0,none⟩),.slice none 0 0] 60))=w3;intro a1 a4;have a8:=a1.kp b0.out;have a5:=a7.trans a1;have f7:=a6.trans a1;have g5:g<w3.heap.size:=Nat.lt_of_lt_of_le i6 a5.size;have v4:w.heap.size<w2.heap.size:=ae b0.out;have v5:=ae a4;have b4:=hid a8;have g1:=k9.but a5;have q5:=ar hO a5 (fun _ _ h=>h);have t9:=a5.kc n3 i6;have e2:g≠w2.heap.size:=by have:=Nat.lt_of_lt_of_le i6 a7.size;omega
    have HF:Hid (∀x∈lb,BtB w3 0 x.2.1 x.1.locals∧ItB w3 0 x.2.2 x.1.items):=hid (fun x hx=>⟨(hf x hx).1.but a5 (fun _ _ h=>h),ar (hf x hx).2 a5 (fun _ _ h=>h)⟩);clear a8 b0 e4 hf n3 hO
    go_loopg [6] lb.length (fun mm ks wr=> ∃(k:Nat) (ao:Option Addr) (cap:Nat) (l:List (Nat×List St)),l.length=k∧ks= .int .i64 k∧k≤lb.length∧k+mm≤lb.length∧lb.length≤k+mm∧But (· =w2.heap.size) w3 wr∧Fnd wr w2.heap.size (.int .i64 0) (.int .i64 0) (.pointer (some ⟨g,0,none⟩)) (.slice ao k cap)∧eN wr w3.heap.size (.slice ao k cap) l∧Hid ((im.bodies.take k).map (cG im)=(l.map (·.2)).map some))
    case atStart=>exact⟨0,none,0,[],rfl,rfl,by omega,by omega,by omega,But.refl _ _,a4,⟨cC _ _ _ _,by simp⟩,hid rfl⟩
    case round=>
     obtain⟨k,ao,cap,l,o3,rfl,v7,s3,v9,a9,i2,n8,HA⟩:=hrel;have f5:=hid o3;clear o3 s3;have o5:=hid i2;have n0:=(a9.block w.heap.size (ae b4.out) (by omega)).trans b4.out;have e5:=hid n0;have m5:=ae n0;have j7:=ae i2;have n2:=(a9.cell (p:=⟨g,2,none⟩) g5 e2).trans t9;have r6:g<wr.heap.size:=Nat.lt_of_lt_of_le g5 a9.size;obtain⟨k0,k1,k2,k3⟩:=iE i2;clear n0 i2
     by_cases hlt:k<lb.length
     ·have t3:(k:Int)<(lb.length:Int):=by omega
      have hx:=List.getElem?_eq_getElem hlt
      have i7: ∀g' cur e,w3.heap[g']?=some (.cells cur e)→e≠60→ ¬g'=w2.heap.size:=by
       intro g' cur e hh he h9;rw[h9,a4]at hh;injection hh with hh;injection hh with _ h2;exact he h2.symm
      have q6:=bj q5 a9 (fun g' cur hh _=>i7 g' cur _ hh (by decide));obtain⟨gB,r4,r5,_,a0⟩:=aG q6 (by omega);obtain⟨bd,i5⟩: ∃bd,im.bodies[k]?=some bd:=⟨_,List.getElem?_eq_getElem (by omega)⟩
      have o1:lb[k].1=aN im.sigs bd:=by
       have h1:(lb.map (·.1))[k]?=some (aN im.sigs bd):=by rw[HM.out,List.getElem?_map,i5];rfl
       rw[List.getElem?_map,hx]at h1;exact Option.some.inj h1
      obtain⟨h4,h0⟩:=HF.out _ (List.getElem_mem hlt);have e7:BtB wr 0 lb[k].2.1 lb[k].1.locals:=bj h4 a9 (fun g' cur hh _=>i7 g' cur _ hh (by decide));have e3:ItB wr 0 lb[k].2.2 lb[k].1.items:=bj h0 a9 (fun g' cur hh _=>i7 g' cur _ hh (by decide));clear h4 h0;have p0:wr.cell? ⟨gB,k*5,none⟩=some (.int .u8 lb[k].1.cls.toNat):=a0 _ _ (cz (k:=0) hx (by omega));have p1:wr.cell? ⟨gB,k*5+1,none⟩=some (.int .i64 lb[k].1.meth):=a0 _ _ (cz (k:=1) hx (by omega));have p2:wr.cell? ⟨gB,k*5+2,none⟩=some (.int .u8 lb[k].1.ans.toNat):=a0 _ _ (cz (k:=2) hx (by omega));have p3:wr.cell? ⟨gB,k*5+3,none⟩=some lb[k].2.1:=a0 _ _ (cz (k:=3) hx (by omega))
      have p4:wr.cell? ⟨gB,k*5+4,none⟩=some lb[k].2.2:=a0 _ _ (cz (k:=4) hx (by omega));rw[o1]at p0 p1 p2 e7 e3;obtain⟨al,capl,o0⟩:=au e7;obtain⟨ai,capi,n9⟩:=au e3;rw[o0]at p3 e7;rw[n9]at p4 e3;have h5:(aN im.sigs bd).locals=bd.locals:=rfl;have h3:(aN im.sigs bd).items=bd.code.map aK:=rfl;rw[h5]at p3 e7;rw[h3]at p4 e3;simp only[List.length_map]at p4 e3;have v0:WfB im.classes im.sigs bd:=hW.bod _ (List.mem_of_getElem? i5);have j1:Hid (dk wr g im):=hid (g1.off a9 e2 (fun k' cur e hh he=>i7 k' cur e hh (by rcases he with h|h|h|h|h<;>(rw[h];decide))));have h6:=hid (fun(wx:World) (h:But (fun _=>False) wr wx)=>tj g im bd (aN im.sigs bd).cls (aN im.sigs bd).meth al ai capl capi wx hW v0 (j1.out.but h) (e7.but h (fun _ _ h=>h)) (ar e3 h (fun _ _ h=>h)))
      have n5:=hid i5;subst r4;obtain⟨X,hX⟩: ∃X,aN im.sigs bd=X:=⟨_,rfl⟩;rw[hX]at p0 p1 p2 h6;clear hX o1 a0 hx o0 n9 h5 h3 i5 e7 e3;unfold hdV at h6;go_wp2_with fail;refine(h6.out wr (But.refl _ _)).mono ?_;rintro en w4 ⟨f6,n1⟩;have g2:=n8.but f6;have g3:=(f6.block w.heap.size m5 (fun h=>h)).trans e5.out;have g0:=(f6.block w2.heap.size j7 (fun h=>h)).trans o5.out;have o6:=hid g3;have s1:=ae g3;clear k0 k1 k2 k3;obtain⟨q0,q1,q2,q3⟩:=iE g3;obtain⟨f0,f1,f2,f3⟩:=l7 g3;obtain⟨k0,k1,k2,k3⟩:=iE g0;obtain⟨l0,l1,l2,l3⟩:=l7 g0;have o4:=hid g0;have j5:=ae g0;clear h6 p0 p1 p2 p3 p4 n2 g3 g0;rcases n1 with⟨hN,rfl⟩ | ⟨tb,gt,hN,rfl,t6,v6⟩
      ·have j0:Hid (fI im 0 im.bodies= .error k):=by
        have:=oU (i:=0) HA.out n5.out hN;refine hid ?_;rw[this];simp
       clear hN HA;go_wp2_with fail;have h9:=fq o6.out (.int .i64 4) (.int .i64 k) (.pointer none) (.slice none 0 0);have a3:=gO w4 w.heap.size (.int .i64 4) (.int .i64 k) (.pointer none) (.slice none 0 0);unfold pV at h9 a3;have b5:But (· =w.heap.size) w4 (((((w4.setCell ⟨w.heap.size,0,none⟩ (.int .i64 4)).setCell ⟨w.heap.size,1,none⟩ (.int .i64 k)).setCell ⟨w.heap.size,2,none⟩ (.pointer none)).setCell ⟨w.heap.size,3,none⟩ (.slice none 0 0)).alloc (.cells #[.slice none 0 0] 65)):=a3.trans (But.alloc _ _ _);have j2:=((But.alloc (fun _=>False) ((((w4.setCell ⟨w.heap.size,0,none⟩ (.int .i64 4)).setCell ⟨w.heap.size,1,none⟩ (.int .i64 k)).setCell ⟨w.heap.size,2,none⟩ (.pointer none)).setCell ⟨w.heap.size,3,none⟩ (.slice none 0 0)) (.cells #[.slice none 0 0] 65)).block w.heap.size (ae h9) (fun h=>h)).trans h9
       clear h9 a3;revert j2 b5;generalize (((((w4.setCell ⟨w.heap.size,0,none⟩ (.int .i64 4)).setCell ⟨w.heap.size,1,none⟩ (.int .i64 k)).setCell ⟨w.heap.size,2,none⟩ (.pointer none)).setCell ⟨w.heap.size,3,none⟩ (.slice none 0 0)).alloc (.cells #[.slice none 0 0] 65))=w9;intro b5 j2;obtain⟨r0,r1,r2,r3⟩:=iE j2;have e0:But (fun _=>False) w w9:=(((f7.next a9 (fun k' hk' h=>by omega)).trans f6).next b5 (fun k' hk' h=>by omega));exact bodyPost_ret (v:= .agg #[.int .i64 4,.int .i64 k,.pointer none,.slice none 0 0]) (by simp[results,Tryz.results36,go_sem,r0,r1,r2,r3]) rfl ⟨e0,by unfold mi;rw[HL.out];simp only[j0.out]⟩
      ·have HN:=hid hN;clear hN;have i3:w4.ownsRow w3.heap.size 65 1 (.slice ao k cap) k (jD l):=by have:=g2.1;rw[f5.out]at this;exact this
       have g7:=ay i3;have f8:But (· =w2.heap.size) w3 w4:=a9.next f6 (fun _ _ h=>h.elim);have w7:=f8.size;go_wp2_with (at_builtin;refine wpList_append_lies _ rfl _ _ _ rfl w3.heap.size 65 i0 _ 1 24 (by kernel_rfl) s2 v1 v2 v3 rfl (by omega) _ k (jD l) rfl ((i3.alloc _).alloc _) ⟨w4.heap.size+1,0,none⟩ 1 1 [.slice (some ⟨gt,0,none⟩) tb.length tb.length] rfl rfl (World.news_of_block (cs:=#[.slice (some ⟨gt,0,none⟩) tb.length tb.length]) (t:=65) (fr:=(0,0)) (aw (by simp) _)) (by simp[Value.oneCell']) (by omega) (by unfold maxLen;omega) (by omega) (by simp;omega) (w4.heap.size+2) (by simp) ?_);intro gg cap3 w5 b2 b1 q7 t4
       have i4:But (fun k'=>(Value.slice ao k cap).ownBlock=some k') w4 w5:=((But.alloc _ _ _).trans (But.alloc _ _ _)).trans (aQ b1);have i1:Fnd w5 w2.heap.size (.int .i64 0) (.int .i64 0) (.pointer (some ⟨g,0,none⟩)) (.slice ao k cap):=(i4.block w2.heap.size j5 (fun h=>by have:=g7 _ h;omega)).trans o4.out;have j4:But (· =w2.heap.size) w3 w5:=f8.next i4 (fun k' hk' h=>absurd (g7 k' h) (by omega))
       have b3: ∀p:Nat×List St,StB w4 p.1 p.2→StB w5 p.1 p.2:=by
        intro p hp;refine hp.off i4 ?_ (fun k' cur hk' e=>fp i3 hk' (by decide) e);obtain⟨l',t5,_⟩:=hp;exact fp i3 t5 (by decide)
       have m0:eN w5 w3.heap.size (.slice (some ⟨gg,0,none⟩) (k+1) cap3) (l++ [(gt,tb)]):=by
        refine⟨?_,fun p hp=> ?_⟩
        ·unfold jD;rw[List.length_append,f5.out,List.map_append];exact b2
        ·rcases List.mem_append.1 hp with hp|hp
         ·exact b3 p (g2.2 p hp)
         ·simp at hp;subst hp;exact b3 (gt,tb) t6
       have p5:Hid ((im.bodies.take (k+1)).map (cG im)=((l++ [(gt,tb)]).map (·.2)).map some):=by
        show _=_
        obtain⟨s9,s4⟩:=List.getElem?_eq_some_iff.1 n5.out;rw[List.take_succ_eq_append_getElem s9,List.map_append,HA.out,s4];simp[HN.out]
       clear q0 q1 q2 q3 f0 f1 f2 f3 k0 k1 k2 k3 l0 l1 l2 l3 i4 b1 b2 q7;obtain⟨k0,k1,k2,k3⟩:=iE i1;obtain⟨l0,l1,l2,l3⟩:=l7 i1;go_wp2_with fail;have n7:=But.setB w5 w2.heap.size 3 (.slice (some ⟨gg,0,none⟩) (k+1) cap3);have q4:Fnd (w5.setCell ⟨w2.heap.size,3,none⟩ (.slice (some ⟨gg,0,none⟩) (k+1) cap3)) w2.heap.size (.int .i64 0) (.int .i64 0) (.pointer (some ⟨g,0,none⟩)) (.slice (some ⟨gg,0,none⟩) (k+1) cap3):=heap_setCell_same w5 w2.heap.size 3 _ _ _ i1;have m1:eN (w5.setCell ⟨w2.heap.size,3,none⟩ (.slice (some ⟨gg,0,none⟩) (k+1) cap3)) w3.heap.size (.slice (some ⟨gg,0,none⟩) (k+1) cap3) (l++ [(gt,tb)]):=m0.aside n7 i1
       go_roundg (lb.length-(k+1))
       case measure=>omega
       case rel=>exact⟨k+1,_,cap3,l++ [(gt,tb)],by rw[List.length_append,f5.out];rfl,by simp,by omega,by omega,by omega,j4.trans n7,q4,m1,p5⟩
     ·have t3: ¬(k:Int)<(lb.length:Int):=by omega
      have hk:k=im.bodies.length:=by omega
      have j0:Hid (fI im 0 im.bodies= .ok (l.map (·.2))):=hid (rc (by
       have:=HA.out;rw[List.take_of_length_le (by omega)]at this;exact this))
      clear HA hk;obtain⟨q0,q1,q2,q3⟩:=iE e5.out;obtain⟨f0,f1,f2,f3⟩:=l7 e5.out
      have l5:=g1.off a9 e2 (fun k' cur e hh he h9=>by
       rw[h9,a4]at hh;injection hh with hh;injection hh with _ h2;rw[←h2]at he;revert he
       decide)
      go_wp2_with fail;refine By Tryz.results36 rfl rfl e5.out (fun w9 h9 a3=> ?_)
      have l4:dk w9 g im:=l5.off a3 (by omega) (fun k' cur e hh he h8=>by
       rw[h8,e5.out]at hh;injection hh with hh;injection hh with _ h2;rw[←h2]at he;revert he
       decide)
      have m2:eN w9 w.heap.size (.slice ao l.length cap) l:=by
       have h1:=n8.aside a3 e5.out;rw[f5.out];exact⟨h1.1.mono (by omega),h1.2⟩
      have e0:But (fun _=>False) w w9:=((f7.next a9 (fun k' hk' h=>by omega)).next a3 (fun k' hk' h=>by omega));exact⟨e0,by unfold mi;rw[HL.out];simp only[j0.out];exact⟨g,ao,cap,l,by rw[f5.out],rfl,m2,l4⟩⟩
end
end Go.Proofs.YtpfkkmacakjmbaaGreatDoor
