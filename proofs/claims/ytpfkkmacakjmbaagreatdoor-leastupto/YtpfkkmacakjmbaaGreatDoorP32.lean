import Derived.Test.YtpfkkmacakjmbaaGreatDoorP31
set_option maxRecDepth 100000
set_option maxHeartbeats 6400000
set_option linter.unusedSimpArgs false
set_option linter.unusedVariables false
namespace Go.Proofs.YtpfkkmacakjmbaaGreatDoor
section
open Go Go.RowKit Sp
attribute [local go_sem ↓] Go.wp_at_zero Go.wp_at_succ
theorem oL {fn:Func} {R:Ending→World→Prop} {a:Act} {w:World} {c g:Nat} {a0 a1 a2 a3 x0 x1 x2 x3:Value} (hf:fn.results=#[.cell c 60]) (hd:a.defers=[]) (hc:a.tmps.getD c undef= .pointer (some ⟨g,0,none⟩)) (h:w.heap[g]?=some (.cells #[a0,a1,a2,a3] 60)) (hR: ∀w9,w9.heap[g]?=some (.cells #[x0,x1,x2,x3] 60)→But (· =g) w w9→R (.returned (.agg #[x0,x1,x2,x3])) w9):bodyPost Tryz.prog fn R .ret a ((((w.setCell ⟨g,0,none⟩ x0).setCell ⟨g,1,none⟩ x1).setCell ⟨g,2,none⟩ x2).setCell ⟨g,3,none⟩ x3):=by
 have h9:=dJ h x0 x1 x2 x3;have r0:=ce0 h9;have r1:=ce1 h9;have r2:=ce2 h9;have r3:=ce3 h9;refine bodyPost_ret (v:= .agg #[x0,x1,x2,x3]) ?_ hd (hR _ h9 (ex w g x0 x1 x2 x3));have a4:a.tmps[c]?.getD undef= .pointer (some ⟨g,0,none⟩):=by simpa using hc
 unfold mN at r0 r1 r2 r3;simp[results,hf,a4,go_sem,r0,r1,r2,r3]
def gZ (l:List (Nat×List St)):List Value:=l.map fun p=> .slice (some ⟨p.1,0,none⟩) p.2.length p.2.length
def fi (w:World) (base:Nat) (v:Value) (l:List (Nat×List St)):Prop:=
 w.ownsRow base 65 1 v l.length (gZ l)∧ ∀p∈l,StB w p.1 p.2
theorem fi.but {w w':World} {base:Nat} {v:Value} {l:List (Nat×List St)} (h:fi w base v l) (hb:But (fun _=>False) w w'):fi w' base v l:=
 ⟨ah h.1 hb (fun _ _ h=>h),fun p hp=>(h.2 p hp).off hb (fun h=>h) (fun _ _ _ h=>h)⟩
theorem fi.aside {w w':World} {base g:Nat} {v:Value} {l:List (Nat×List St)} {cur:Array Value} (h:fi w base v l) (hb:But (· =g) w w') (hg:w.heap[g]?=some (.cells cur 60)):fi w' base v l:=by
 have a0: ∀k c e,w.heap[k]?=some (.cells c e)→e≠60→ ¬k=g:=by
  intro k c e hk he h9;rw[h9,hg]at hk;injection hk with hk;injection hk with _ h2;exact he h2.symm
 refine⟨aU h.1 hb (fun k c hk _=>a0 k c _ hk (by decide)),fun p hp=>(h.2 p hp).off hb ?_ (fun k c hk=>a0 k c _ hk (by decide))⟩;obtain⟨l',a1,_⟩:=h.2 p hp;exact a0 _ _ _ a1 (by decide)
theorem vO:(Tryz.prog.info? 65).map (fun i=>(i.zero,i.size,i.bytes))=some (some (.agg #[.slice none 0 0]),1,24):=by kernel_rfl
def iK (s:ByteArray) (w:World) (en:Ending) (w':World):Prop:=
 match da s with
 | .error (e,p)=>en= .returned (.agg #[.int .i64 e,.int .i64 p,.pointer none,.slice none 0 0])
 | .ok im=>
  match dO im 0 im.bodies with
  | .error k=>en= .returned (.agg #[.int .i64 4,.int .i64 k,.pointer none,.slice none 0 0])
  | .ok ts=> ∃g ao cap l,en= .returned (.agg #[.int .i64 0,.int .i64 0,.pointer (some ⟨g,0,none⟩),.slice ao (List.length l) cap])∧l.map (·.2)=ts∧fi w' w.heap.size (.slice ao l.length cap) l∧dE w' g im
theorem dE.but {w w':World} {g:Nat} {im:Img} (h:dE w g im) (hb:But (fun _=>False) w w'):dE w' g im:=⟨h.cls.but hb,h.met.but hb,h.bod.but hb⟩
theorem dE.off {F:Nat→Prop} {w w':World} {g:Nat} {im:Img} (h:dE w g im) (hb:But F w w') (hg: ¬F g) (hf: ∀k cur e,w.heap[k]?=some (.cells cur e)→(e=240∨e=243∨e=115∨e=219∨e=5)→ ¬F k):dE w' g im:=by
 obtain⟨⟨v0,l,h0,hl,hO,hm,a1⟩,⟨v1,h1,_,a0⟩,⟨v2,h2,_,hT⟩⟩:=h;refine⟨⟨v0,l,(hb.cell (p:=⟨g,0,none⟩) hl hg).trans h0,Nat.lt_of_lt_of_le hl hb.size,aU hO hb (fun k cur hh _=>hf k cur _ hh (by simp)),hm,fun x hx=>aU (a1 x hx) hb (fun k cur hh _=>hf k cur _ hh (by simp))⟩,⟨v1,(hb.cell (p:=⟨g,1,none⟩) hl hg).trans h1,Nat.lt_of_lt_of_le hl hb.size,aU a0 hb (fun k cur hh _=>hf k cur _ hh (by simp))⟩,⟨v2,(hb.cell (p:=⟨g,2,none⟩) hl hg).trans h2,Nat.lt_of_lt_of_le hl hb.size,hT.but hb (fun k e cur hh he _=>hf k cur e hh (by rcases he with h|h|h<;>simp[h]))⟩⟩
theorem yi (g:Nat) (im:Img) (w:World) (hW:WfI im) (hTX:dE w g im):
  Calls Tryz.prog 64 #[.pointer (some ⟨g,0,none⟩),.int .i64 (-1)] w fun en w'=>But (fun _=>False) w w'∧en= .returned (eE g im):=by
 have a4:But (fun _=>False) w (w.alloc (.cells #[.int .i64 0,.int .i64 0,.pointer none,.slice none 0 0] 60)):=But.alloc _ _ _;have a0:=heap_alloc_new w (.cells #[.int .i64 0,.int .i64 0,.pointer none,.slice none 0 0] 60)
 cases hfs:im.bodies.findSome? (fun b=>unl im.classes im.bodies b.code)with
 |some q=>
  have e1:((q:Int)== -1)=false:=by rw[beq_eq_false_iff_ne];omega
  have e2:((q:Int)!= -1)=true:=by simp[bne,e1]
  have b0: ¬(q:Int)= -1:=by omega
  have a3:=oC g im (w.alloc (.cells #[.int .i64 0,.int .i64 0,.pointer none,.slice none 0 0] 60)) hW (hTX.but a4);rw[hfs]at a3;simp only[jT]at a3;rw[show eE g im= .agg #[.int .i64 3,.int .i64 q,.pointer none,.slice none 0 0]from by unfold eE;rw[hfs]];have a1:=hid a3;clear a3 hfs
  go_in
  go_wp2_with fail;revert a4 a0 a1;generalize (w.alloc (.cells #[.int .i64 0,.int .i64 0,.pointer none,.slice none 0 0] 60))=W;intro a4 a0 a1;have a8:=ae a0;refine a1.out.mono ?_;rintro en w2 ⟨rfl,a6⟩;have a5:=a4.trans a6;have a2:=(a6.block w.heap.size a8 (fun h=>h)).trans a0;have a7:=hid a2;obtain⟨q0,q1,q2,q3⟩:=dD a2;obtain⟨f0,f1,f2,f3⟩:=gC a2;clear a2 a0 a1;go_wp2_with fail;refine oL Tryz.results64 rfl rfl a7.out (fun w9 h9 h9b=> ?_);exact⟨a5.next h9b (fun k hk h=>by omega),rfl⟩
 |none=>
  have a3:=oC g im (w.alloc (.cells #[.int .i64 0,.int .i64 0,.pointer none,.slice none 0 0] 60)) hW (hTX.but a4);rw[hfs]at a3;simp only[jT]at a3;rw[show eE g im= .agg #[.int .i64 0,.int .i64 0,.pointer (some ⟨g,0,none⟩),.slice none 0 0]from by unfold eE;rw[hfs]];have a1:=hid a3;clear a3 hfs
  go_in
  go_wp2_with fail;revert a4 a0 a1;generalize (w.alloc (.cells #[.int .i64 0,.int .i64 0,.pointer none,.slice none 0 0] 60))=W;intro a4 a0 a1;have a8:=ae a0;refine a1.out.mono ?_;rintro en w2 ⟨rfl,a6⟩;have a5:=a4.trans a6;have a2:=(a6.block w.heap.size a8 (fun h=>h)).trans a0;have a7:=hid a2;obtain⟨q0,q1,q2,q3⟩:=dD a2;obtain⟨f0,f1,f2,f3⟩:=gC a2;clear a2 a0 a1;go_wp2_with fail;refine oL Tryz.results64 rfl rfl a7.out (fun w9 h9 h9b=> ?_);exact⟨a5.next h9b (fun k hk h=>by omega),rfl⟩
def Fnd (w:World) (g:Nat) (e p t l:Value):Prop:=w.heap[g]?=some (.cells #[e,p,t,l] 60)
theorem ix (s:ByteArray) (w:World) (hmax:s.size≤maxLen):
  Calls Tryz.prog 36 #[.string s] w fun en w'=>But (fun _=>False) w w'∧iK s w en w':=by
 obtain⟨i0,s2,v0,v1,v2⟩:=info_parts vO;have j3:But (fun _=>False) w (w.alloc (.cells #[.int .i64 0,.int .i64 0,.pointer none,.slice none 0 0] 60)):=But.alloc _ _ _;have g3:=heap_alloc_new w (.cells #[.int .i64 0,.int .i64 0,.pointer none,.slice none 0 0] 60)
 by_cases hbig:2000<s.size
 ·have q8:2000<(s.size:Int):=by omega
  have hL:da s= .error (1,0):=by unfold da;rw[if_pos hbig]
  have HL:=hid hL;clear hbig hL
  go_in
  go_wp2_with fail;have h9:=heap_alloc_new w (.cells #[.int .i64 1,.int .i64 0,.pointer none,.slice none 0 0] 60);have a3:But (fun _=>False) w (w.alloc (.cells #[.int .i64 1,.int .i64 0,.pointer none,.slice none 0 0] 60)):=But.alloc _ _ _;revert h9 a3;generalize (w.alloc (.cells #[.int .i64 1,.int .i64 0,.pointer none,.slice none 0 0] 60))=w9;intro h9 a3;obtain⟨r0,r1,r2,r3⟩:=dD h9;exact bodyPost_ret (v:= .agg #[.int .i64 1,.int .i64 0,.pointer none,.slice none 0 0]) (by simp[results,Tryz.results36,go_sem,r0,r1,r2,r3]) rfl ⟨a3,by unfold iK;rw[HL.out];rfl⟩
 ·have q8: ¬2000<(s.size:Int):=by omega
  go_in
  go_wp2_with fail;revert j3 g3;generalize (w.alloc (.cells #[.int .i64 0,.int .i64 0,.pointer none,.slice none 0 0] 60))=W;intro j3 g3;have s0:=ae g3;have i7:=hid g3;clear g3;refine(va s W (by omega)).mono ?_;rintro en w1 ⟨n5,g,p,rfl,hg,q9⟩;have d6:=j3.trans n5;have e4:=hid ((n5.block w.heap.size s0 (fun h=>h)).trans i7.out);rcases q9 with⟨j,e8,rfl,o3⟩ | ⟨rfl,im,e8,k9⟩
  ·have HL:Hid (da s= .error (2,j)):=hid (by unfold da;rw[if_neg hbig,e8]);clear e8 hbig i7;have m2:=ae o3;go_wp2_with fail;refine(oD g j w1).mono ?_;rintro en w2 ⟨a8,rfl⟩;have a7:=d6.trans a8;have g5:=(a8.block g m2 (fun h=>h)).trans o3;obtain⟨t0,t1,t2⟩:=eY g5;have m3:=ae g5;have b2:=hid (a8.kp e4.out);go_wp2_with fail;have a1:But (fun _=>False) w2 (w2.alloc (.cells #[.int .i64 2,.int .i64 j,.pointer none,.slice none 0 0] 60)):=But.alloc _ _ _;have a4:=heap_alloc_new w2 (.cells #[.int .i64 2,.int .i64 j,.pointer none,.slice none 0 0] 60);revert a1 a4;generalize (w2.alloc (.cells #[.int .i64 2,.int .i64 j,.pointer none,.slice none 0 0] 60))=w3
   intro a1 a4;have b0:=a1.kp b2.out;have u2:=a1.kc t2 m3;clear t0 t1 t2;obtain⟨k0,k1,k2,k3⟩:=dD a4;obtain⟨q0,q1,q2,q3⟩:=dD b0;obtain⟨f0,f1,f2,f3⟩:=gC b0;have b6:=hid b0;clear b0 b2 e4 a4
   go_loopg [6] 0 (fun mm is wr=>is= .int .i64 0∧wr=w3)
   case atStart=>exact⟨rfl,rfl⟩
   case round=>
    obtain⟨rfl,n3⟩:=hrel;subst n3;go_wp2_with fail;refine oL Tryz.results36 rfl rfl b6.out (fun w9 h9 a3=> ?_);exact⟨(a7.trans a1).next a3 (fun k hk h=>by omega),by unfold iK;rw[HL.out];rfl⟩
  ·have hW:=mi (by omega) e8;have h6:=hid e8;clear e8 i7;have e6:=yi g im w1 hW k9;obtain⟨vb,n2,i5,lb,hO,hm,hf⟩:=k9.bod;obtain⟨a2,p8,rfl⟩:=aq hO;have v8:lb.length=im.bodies.length:=by have:=congrArg List.length hm;simpa using this
   have v9:=hW.nb;have HM:=hid hm;clear hm
   cases hfs:im.bodies.findSome? (fun b=>unl im.classes im.bodies b.code)with
   |some q=>
    have HL:Hid (da s= .error (3,q)):=hid (by unfold da;rw[if_neg hbig,h6.out];simp only[hfs]);rw[show eE g im= .agg #[.int .i64 3,.int .i64 q,.pointer none,.slice none 0 0]from by unfold eE;rw[hfs]]at e6;have e9:=hid e6;clear e6 hfs hbig h6;go_wp2_with fail;refine e9.out.mono ?_;rintro en w2 ⟨a8,rfl⟩;have a7:=d6.trans a8;have b2:=hid (a8.kp e4.out);clear e9;go_wp2_with fail;have a1:But (fun _=>False) w2 (w2.alloc (.cells #[.int .i64 3,.int .i64 q,.pointer none,.slice none 0 0] 60)):=But.alloc _ _ _;have a4:=heap_alloc_new w2 (.cells #[.int .i64 3,.int .i64 q,.pointer none,.slice none 0 0] 60)
    revert a1 a4;generalize (w2.alloc (.cells #[.int .i64 3,.int .i64 q,.pointer none,.slice none 0 0] 60))=w3;intro a1 a4;have b0:=a1.kp b2.out;have u2:=((a8.trans a1).cell (p:=⟨g,2,none⟩) i5 (fun h=>h)).trans n2;have e1:0<(lb.length:Int)∨ ¬0<(lb.length:Int):=Decidable.em _;obtain⟨k0,k1,k2,k3⟩:=dD a4;obtain⟨q0,q1,q2,q3⟩:=dD b0;obtain⟨f0,f1,f2,f3⟩:=gC b0;have b6:=hid b0;clear b0 b2 e4 a4
    go_loopg [6] 0 (fun mm is wr=>is= .int .i64 0∧wr=w3)
    case atStart=>exact⟨rfl,rfl⟩
    case round=>
     obtain⟨rfl,n3⟩:=hrel;subst n3;rcases e1 with e1|e1
     ·go_wp2_with fail;refine oL Tryz.results36 rfl rfl b6.out (fun w9 h9 a3=> ?_);exact⟨(a7.trans a1).next a3 (fun k hk h=>by omega),by unfold iK;rw[HL.out];rfl⟩
     ·go_wp2_with fail;refine oL Tryz.results36 rfl rfl b6.out (fun w9 h9 a3=> ?_);exact⟨(a7.trans a1).next a3 (fun k hk h=>by omega),by unfold iK;rw[HL.out];rfl⟩
   |none=>
    have HL:Hid (da s= .ok im):=hid (by unfold da;rw[if_neg hbig,h6.out];simp only[hfs]);rw[show eE g im= .agg #[.int .i64 0,.int .i64 0,.pointer (some ⟨g,0,none⟩),.slice none 0 0]from by unfold eE;rw[hfs]]at e6;have e9:=hid e6;clear e6 hfs hbig h6;go_wp2_with fail;refine e9.out.mono ?_;rintro en w2 ⟨a8,rfl⟩;have a7:=d6.trans a8;have b2:=hid (a8.kp e4.out);clear e9;go_wp2_with fail;have a1:But (fun _=>False) w2 (w2.alloc (.cells #[.int .i64 0,.int .i64 0,.pointer (some ⟨g,0,none⟩),.slice none 0 0] 60)):=But.alloc _ _ _;have a4:=heap_alloc_new w2 (.cells #[.int .i64 0,.int .i64 0,.pointer (some ⟨g,0,none⟩),.slice none 0 0] 60)
    revert a1 a4;generalize (w2.alloc (.cells #[.int .i64 0,.int .i64 0,.pointer (some ⟨g,0,none⟩),.slice none 0 0] 60))=w3;intro a1 a4;have b0:=a1.kp b2.out;have a6:=a8.trans a1;have f6:=a7.trans a1;have g4:g<w3.heap.size:=Nat.lt_of_lt_of_le i5 a6.size;have v3:w.heap.size<w2.heap.size:=ae b2.out;have v4:=ae a4;have b6:=hid b0;have g0:=k9.but a6;have q5:=ah hO a6 (fun _ _ h=>h);have t5:=a6.kc n2 i5;have e2:g≠w2.heap.size:=by have:=Nat.lt_of_lt_of_le i5 a8.size;omega
    have HF:Hid (∀x∈lb,BtB w3 0 x.2.1 x.1.locals∧ItB w3 0 x.2.2 x.1.items):=hid (fun x hx=>⟨(hf x hx).1.but a6 (fun _ _ h=>h),ah (hf x hx).2 a6 (fun _ _ h=>h)⟩);clear b0 b2 e4 hf n2 hO
    go_loopg [6] lb.length (fun mm ks wr=> ∃(k:Nat) (ao:Option Addr) (cap:Nat) (l:List (Nat×List St)),l.length=k∧ks= .int .i64 k∧k≤lb.length∧k+mm≤lb.length∧lb.length≤k+mm∧But (· =w2.heap.size) w3 wr∧Fnd wr w2.heap.size (.int .i64 0) (.int .i64 0) (.pointer (some ⟨g,0,none⟩)) (.slice ao k cap)∧fi wr w3.heap.size (.slice ao k cap) l∧Hid ((im.bodies.take k).map (cZ im)=(l.map (·.2)).map some))
    case atStart=>exact⟨0,none,0,[],rfl,rfl,by omega,by omega,by omega,But.refl _ _,a4,⟨du _ _ _ _,by simp⟩,hid rfl⟩
    case round=>
     obtain⟨k,ao,cap,l,o4,rfl,v6,s3,v7,b1,i1,n7,HA⟩:=hrel;have f4:=hid o4;clear o4 s3;have o6:=hid i1;have m5:=(b1.block w.heap.size (ae b6.out) (by omega)).trans b6.out;have e5:=hid m5;have m4:=ae m5;have j7:=ae i1;have n1:=(b1.cell (p:=⟨g,2,none⟩) g4 e2).trans t5;have r8:g<wr.heap.size:=Nat.lt_of_lt_of_le g4 b1.size;obtain⟨k0,k1,k2,k3⟩:=dD i1;clear m5 i1
     by_cases hlt:k<lb.length
     ·have s6:(k:Int)<(lb.length:Int):=by omega
      have hx:=List.getElem?_eq_getElem hlt
      have i6: ∀g' cur e,w3.heap[g']?=some (.cells cur e)→e≠60→ ¬g'=w2.heap.size:=by
       intro g' cur e hh he h9;rw[h9,a4]at hh;injection hh with hh;injection hh with _ h2;exact he h2.symm
      have q6:=aU q5 b1 (fun g' cur hh _=>i6 g' cur _ hh (by decide));obtain⟨gB,r4,r5,_,a0⟩:=aD q6 (by omega);obtain⟨bd,i4⟩: ∃bd,im.bodies[k]?=some bd:=⟨_,List.getElem?_eq_getElem (by omega)⟩
      have o2:lb[k].1=aW im.sigs bd:=by
       have h1:(lb.map (·.1))[k]?=some (aW im.sigs bd):=by rw[HM.out,List.getElem?_map,i4];rfl
       rw[List.getElem?_map,hx]at h1;exact Option.some.inj h1
      obtain⟨h3,g7⟩:=HF.out _ (List.getElem_mem hlt);have e7:BtB wr 0 lb[k].2.1 lb[k].1.locals:=aU h3 b1 (fun g' cur hh _=>i6 g' cur _ hh (by decide));have e3:ItB wr 0 lb[k].2.2 lb[k].1.items:=aU g7 b1 (fun g' cur hh _=>i6 g' cur _ hh (by decide));clear h3 g7;have p0:wr.cell? ⟨gB,k*5,none⟩=some (.int .u8 lb[k].1.cls.toNat):=a0 _ _ (aR (k:=0) hx (by omega));have p1:wr.cell? ⟨gB,k*5+1,none⟩=some (.int .i64 lb[k].1.meth):=a0 _ _ (aR (k:=1) hx (by omega));have p2:wr.cell? ⟨gB,k*5+2,none⟩=some (.int .u8 lb[k].1.ans.toNat):=a0 _ _ (aR (k:=2) hx (by omega));have p3:wr.cell? ⟨gB,k*5+3,none⟩=some lb[k].2.1:=a0 _ _ (aR (k:=3) hx (by omega))
      have p4:wr.cell? ⟨gB,k*5+4,none⟩=some lb[k].2.2:=a0 _ _ (aR (k:=4) hx (by omega));rw[o2]at p0 p1 p2 e7 e3;obtain⟨al,capl,o1⟩:=aq e7;obtain⟨ai,capi,o0⟩:=aq e3;rw[o1]at p3 e7;rw[o0]at p4 e3;have h4:(aW im.sigs bd).locals=bd.locals:=rfl;have h0:(aW im.sigs bd).items=bd.code.map bj:=rfl;rw[h4]at p3 e7;rw[h0]at p4 e3;simp only[List.length_map]at p4 e3;have t6:WfB im.classes im.sigs bd:=hW.bod _ (List.mem_of_getElem? i4);have j1:Hid (dE wr g im):=hid (g0.off b1 e2 (fun k' cur e hh he=>i6 k' cur e hh (by rcases he with h|h|h|h|h<;>(rw[h];decide))));have h5:=hid (fun(wx:World) (h:But (fun _=>False) wr wx)=>tE g im bd (aW im.sigs bd).cls (aW im.sigs bd).meth al ai capl capi wx hW t6 (j1.out.but h) (e7.but h (fun _ _ h=>h)) (ah e3 h (fun _ _ h=>h)))
      have n4:=hid i4;subst r4;obtain⟨X,hX⟩: ∃X,aW im.sigs bd=X:=⟨_,rfl⟩;rw[hX]at p0 p1 p2 h5;clear hX o2 a0 hx o1 o0 h4 h0 i4 e7 e3;unfold hdV at h5;go_wp2_with fail;refine(h5.out wr (But.refl _ _)).mono ?_;rintro en w4 ⟨f5,n0⟩;have g1:=n7.but f5;have g2:=(f5.block w.heap.size m4 (fun h=>h)).trans e5.out;have f8:=(f5.block w2.heap.size j7 (fun h=>h)).trans o6.out;have p5:=hid g2;have s1:=ae g2;clear k0 k1 k2 k3;obtain⟨q0,q1,q2,q3⟩:=dD g2;obtain⟨f0,f1,f2,f3⟩:=gC g2;obtain⟨k0,k1,k2,k3⟩:=dD f8;obtain⟨l0,l1,l2,l3⟩:=gC f8;have o5:=hid f8;have j5:=ae f8;clear h5 p0 p1 p2 p3 p4 n1 g2 f8;rcases n0 with⟨hN,rfl⟩ | ⟨tb,gt,hN,rfl,t4,v5⟩
      ·have j0:Hid (dO im 0 im.bodies= .error k):=by
        have:=uP (i:=0) HA.out n4.out hN;refine hid ?_;rw[this];simp
       clear hN HA;go_wp2_with fail;have h9:=dJ p5.out (.int .i64 4) (.int .i64 k) (.pointer none) (.slice none 0 0);have a3:=ex w4 w.heap.size (.int .i64 4) (.int .i64 k) (.pointer none) (.slice none 0 0);unfold mN at h9 a3;have c7:But (· =w.heap.size) w4 (((((w4.setCell ⟨w.heap.size,0,none⟩ (.int .i64 4)).setCell ⟨w.heap.size,1,none⟩ (.int .i64 k)).setCell ⟨w.heap.size,2,none⟩ (.pointer none)).setCell ⟨w.heap.size,3,none⟩ (.slice none 0 0)).alloc (.cells #[.slice none 0 0] 65)):=a3.trans (But.alloc _ _ _);have j2:=((But.alloc (fun _=>False) ((((w4.setCell ⟨w.heap.size,0,none⟩ (.int .i64 4)).setCell ⟨w.heap.size,1,none⟩ (.int .i64 k)).setCell ⟨w.heap.size,2,none⟩ (.pointer none)).setCell ⟨w.heap.size,3,none⟩ (.slice none 0 0)) (.cells #[.slice none 0 0] 65)).block w.heap.size (ae h9) (fun h=>h)).trans h9
       clear h9 a3;revert j2 c7;generalize (((((w4.setCell ⟨w.heap.size,0,none⟩ (.int .i64 4)).setCell ⟨w.heap.size,1,none⟩ (.int .i64 k)).setCell ⟨w.heap.size,2,none⟩ (.pointer none)).setCell ⟨w.heap.size,3,none⟩ (.slice none 0 0)).alloc (.cells #[.slice none 0 0] 65))=w9;intro c7 j2;obtain⟨r0,r1,r2,r3⟩:=dD j2;have e0:But (fun _=>False) w w9:=(((f6.next b1 (fun k' hk' h=>by omega)).trans f5).next c7 (fun k' hk' h=>by omega));exact bodyPost_ret (v:= .agg #[.int .i64 4,.int .i64 k,.pointer none,.slice none 0 0]) (by simp[results,Tryz.results36,go_sem,r0,r1,r2,r3]) rfl ⟨e0,by unfold iK;rw[HL.out];simp only[j0.out]⟩
      ·have HN:=hid hN;clear hN;have i2:w4.ownsRow w3.heap.size 65 1 (.slice ao k cap) k (gZ l):=by have:=g1.1;rw[f4.out]at this;exact this
       have g6:=aj i2;have f7:But (· =w2.heap.size) w3 w4:=b1.next f5 (fun _ _ h=>h.elim);have w0:=f7.size;go_wp2_with (at_builtin;refine wpList_append_lies _ rfl _ _ _ rfl w3.heap.size 65 i0 _ 1 24 (by kernel_rfl) s2 v0 v1 v2 rfl (by omega) _ k (gZ l) rfl ((i2.alloc _).alloc _) ⟨w4.heap.size+1,0,none⟩ 1 1 [.slice (some ⟨gt,0,none⟩) tb.length tb.length] rfl rfl (World.news_of_block (cs:=#[.slice (some ⟨gt,0,none⟩) tb.length tb.length]) (t:=65) (fr:=(0,0)) (CB (by simp) _)) (by simp[Value.oneCell']) (by omega) (by unfold maxLen;omega) (by omega) (by simp;omega) (w4.heap.size+2) (by simp) ?_);intro gg a5 w5 b4 b3 q7 s9
       have i3:But (fun k'=>(Value.slice ao k cap).ownBlock=some k') w4 w5:=((But.alloc _ _ _).trans (But.alloc _ _ _)).trans (aX b3);have h7:Fnd w5 w2.heap.size (.int .i64 0) (.int .i64 0) (.pointer (some ⟨g,0,none⟩)) (.slice ao k cap):=(i3.block w2.heap.size j5 (fun h=>by have:=g6 _ h;omega)).trans o5.out;have j4:But (· =w2.heap.size) w3 w5:=f7.next i3 (fun k' hk' h=>absurd (g6 k' h) (by omega))
       have b5: ∀p:Nat×List St,StB w4 p.1 p.2→StB w5 p.1 p.2:=by
        intro p hp;refine hp.off i3 ?_ (fun k' cur hk' e=>eb i2 hk' (by decide) e);obtain⟨l',t3,_⟩:=hp;exact eb i2 t3 (by decide)
       have l6:fi w5 w3.heap.size (.slice (some ⟨gg,0,none⟩) (k+1) a5) (l++ [(gt,tb)]):=by
        refine⟨?_,fun p hp=> ?_⟩
        ·unfold gZ;rw[List.length_append,f4.out,List.map_append];exact b4
        ·rcases List.mem_append.1 hp with hp|hp
         ·exact b5 p (g1.2 p hp)
         ·simp at hp;subst hp;exact b5 (gt,tb) t4
       have p6:Hid ((im.bodies.take (k+1)).map (cZ im)=((l++ [(gt,tb)]).map (·.2)).map some):=by
        show _=_
        obtain⟨s5,s4⟩:=List.getElem?_eq_some_iff.1 n4.out;rw[List.take_succ_eq_append_getElem s5,List.map_append,HA.out,s4];simp[HN.out]
       clear q0 q1 q2 q3 f0 f1 f2 f3 k0 k1 k2 k3 l0 l1 l2 l3 i3 b3 b4 q7;obtain⟨k0,k1,k2,k3⟩:=dD h7;obtain⟨l0,l1,l2,l3⟩:=gC h7;go_wp2_with fail;have n6:=But.setB w5 w2.heap.size 3 (.slice (some ⟨gg,0,none⟩) (k+1) a5);have q4:Fnd (w5.setCell ⟨w2.heap.size,3,none⟩ (.slice (some ⟨gg,0,none⟩) (k+1) a5)) w2.heap.size (.int .i64 0) (.int .i64 0) (.pointer (some ⟨g,0,none⟩)) (.slice (some ⟨gg,0,none⟩) (k+1) a5):=heap_setCell_same w5 w2.heap.size 3 _ _ _ h7;have m0:fi (w5.setCell ⟨w2.heap.size,3,none⟩ (.slice (some ⟨gg,0,none⟩) (k+1) a5)) w3.heap.size (.slice (some ⟨gg,0,none⟩) (k+1) a5) (l++ [(gt,tb)]):=l6.aside n6 h7
       go_roundg (lb.length-(k+1))
       case measure=>omega
       case rel=>exact⟨k+1,_,a5,l++ [(gt,tb)],by rw[List.length_append,f4.out];rfl,by simp,by omega,by omega,by omega,j4.trans n6,q4,m0,p6⟩
     ·have s6: ¬(k:Int)<(lb.length:Int):=by omega
      have hk:k=im.bodies.length:=by omega
      have j0:Hid (dO im 0 im.bodies= .ok (l.map (·.2))):=hid (xt (by
       have:=HA.out;rw[List.take_of_length_le (by omega)]at this;exact this))
      clear HA hk;obtain⟨q0,q1,q2,q3⟩:=dD e5.out;obtain⟨f0,f1,f2,f3⟩:=gC e5.out
      have l5:=g0.off b1 e2 (fun k' cur e hh he h9=>by
       rw[h9,a4]at hh;injection hh with hh;injection hh with _ h2;rw[←h2]at he;revert he
       decide)
      go_wp2_with fail;refine oL Tryz.results36 rfl rfl e5.out (fun w9 h9 a3=> ?_)
      have l4:dE w9 g im:=l5.off a3 (by omega) (fun k' cur e hh he h8=>by
       rw[h8,e5.out]at hh;injection hh with hh;injection hh with _ h2;rw[←h2]at he;revert he
       decide)
      have m1:fi w9 w.heap.size (.slice ao l.length cap) l:=by
       have h1:=n7.aside a3 e5.out;rw[f4.out];exact⟨h1.1.mono (by omega),h1.2⟩
      have e0:But (fun _=>False) w w9:=((f6.next b1 (fun k' hk' h=>by omega)).next a3 (fun k' hk' h=>by omega));exact⟨e0,by unfold iK;rw[HL.out];simp only[j0.out];exact⟨g,ao,cap,l,by rw[f4.out],rfl,m1,l4⟩⟩
theorem mY {s:ByteArray} {im:Img} (h:da s= .ok im):WfI im:=by
 unfold da at h
 by_cases hb:2000<s.size
 ·rw[if_pos hb]at h;cases h
 rw[if_neg hb]at h
 cases hr:dp s with
 |error j=>rw[hr]at h;cases h
 |ok im'=>
  rw[hr]at h;simp only at h
  split at h
  ·cases h
  ·cases h
   exact mi (by omega) hr
theorem mZ (s:ByteArray) (w:World) (hmax:s.size≤maxLen) (e p:Nat) (h: ∀w,Calls Tryz.prog 36 #[.string s] w fun en w'=>But (fun _=>False) w w'∧en= .returned (.agg #[.int .i64 e,.int .i64 p,.pointer none,.slice none 0 0])):
  Calls Tryz.prog 19 #[.string s] w fun en w'=>en= .returned (.tuple #[.string ⟨#[]⟩,.int .i64 e])∧But (fun _=>False) w w':=by
 have HK:=hid h;clear h
 go_in
 go_wp2_with fail;refine(HK.out w).mono ?_;rintro en w1 ⟨a4,rfl⟩;go_wp2_with fail;have a2:But (fun _=>False) w1 (w1.alloc (.cells #[.int .i64 e,.int .i64 p,.pointer none,.slice none 0 0] 60)):=But.alloc _ _ _;have a1:=heap_alloc_new w1 (.cells #[.int .i64 e,.int .i64 p,.pointer none,.slice none 0 0] 60);revert a2 a1;generalize (w1.alloc (.cells #[.int .i64 e,.int .i64 p,.pointer none,.slice none 0 0] 60))=W;intro a2 a1;obtain⟨k0,k1,k2,k3⟩:=dD a1;have a3:=ae a1;have a5:=a4.trans a2
 go_loopg [5,6] 0 (fun mm ss is wr=>ss= .string ⟨#[]⟩∧is= .int .i64 0∧wr=W)
 case atStart=>exact⟨rfl,rfl,rfl⟩
 case round=>
  obtain⟨rfl,rfl,a6⟩:=hrel;subst a6;go_wp2_with fail;have a0:But (fun _=>False) wr wr.drew:=But.drew _ _;refine ck (But (fun _=>False) wr) 4 (by kernel_rfl) ?_;refine ay (k:=1) (v:= ?vA1) rfl (by decide) (by kernel_rfl) (fun _ _ _ h=>h) rfl a0 ?yA1 ?rA1
  case yA1=>intro wS h;have q0:=(h.kc k0 a3);clear h;go_simp;try rfl
  dsimp only[Act.put]
  try simp only[aK]
  refine ay (k:=2) (v:= ?vA2) rfl (by decide) (by kernel_rfl) (fun _ _ _ h=>h) rfl a0 ?yA2 ?rA2
  case yA2=>intro wS h;have q0:=(h.kc k0 a3);clear h;go_simp;try rfl
  dsimp only[Act.put]
  try simp only[aK]
  refine ay (k:=0) (v:= ?vA0) rfl (by decide) (by kernel_rfl) (fun _ _ _ h=>h) rfl a0 ?yA0 ?rA0
  case yA0=>intro wS h;have q0:=(h.kc k0 a3);clear h;go_simp;try rfl
  dsimp only[Act.put]
  try simp only[aK]
  refine aA (k:=3) rfl (by decide) (by kernel_rfl) ?_;intro KS hKS;go_simp;refine hKS.out _ _ (fun _=>a0) ?_;clear hKS KS;refine aA (k:=4) rfl (by decide) (by kernel_rfl) ?_;intro KS hKS;go_simp;refine hKS.out _ _ nofun ?_;clear hKS KS;refine b7 rfl (by kernel_rfl) ?_;go_wp2_with fail;exact bodyPost_ret (v:= .tuple #[.string ⟨#[]⟩,.int .i64 e]) (by simp[results,Tryz.results19,go_sem]) rfl ⟨rfl,a5.trans a0⟩
theorem vP (s:ByteArray) (w:World) (hmax:s.size≤maxLen) (ts:List (List St)) (hsh: ∀t∈ts,iX t) (hl7:ts.length≤7)
  (h: ∀w,Calls Tryz.prog 36 #[.string s] w fun en w'=>But (fun _=>False) w w'∧ ∃g ao cap l,en= .returned (.agg #[.int .i64 0,.int .i64 0,.pointer (some ⟨g,0,none⟩),.slice ao (List.length l) cap])∧l.map (·.2)=ts∧fi w' w.heap.size (.slice ao l.length cap) l):
  Calls Tryz.prog 19 #[.string s] w fun en w'=>en= .returned (.tuple #[.string ⟨(ts.flatMap aQ).toArray⟩,.int .i64 0])∧But (fun _=>False) w w':=by
 have HK:=hid h;clear h
 go_in
 go_wp2_with fail;refine(HK.out w).mono ?_;rintro en w1 ⟨e2,g,ao,cap,l,rfl,a2,e9⟩
 have f4:l.length≤7:=by
  have:l.length=ts.length:=by rw[←a2];simp
  omega
 have e1:Hid (∀p∈l,iX p.2):=hid (fun p hp=>hsh p.2 (by rw[←a2];exact List.mem_map_of_mem hp));have b3:Hid ((l.map (·.2)).flatMap aQ=ts.flatMap aQ):=hid (by rw[a2]);obtain⟨R,b1⟩: ∃R,ts.flatMap aQ=R:=⟨_,rfl⟩;clear hsh a2 HK hl7;go_wp2_with fail;have a7:But (fun _=>False) w1 (w1.alloc (.cells #[.int .i64 0,.int .i64 0,.pointer (some ⟨g,0,none⟩),.slice ao l.length cap] 60)):=But.alloc _ _ _;have b2:=heap_alloc_new w1 (.cells #[.int .i64 0,.int .i64 0,.pointer (some ⟨g,0,none⟩),.slice ao l.length cap] 60);revert a7 b2;generalize (w1.alloc (.cells #[.int .i64 0,.int .i64 0,.pointer (some ⟨g,0,none⟩),.slice ao l.length cap] 60))=W
 intro a7 b2;have d6:=e9.but a7;have e4:=e2.trans a7
 go_loopg [5,6] l.length (fun mm ss ks wr=> ∃(k:Nat) (s:List UInt8),ss= .string ⟨s.toArray⟩∧s.length≤20001*k∧ks= .int .i64 k∧k≤l.length∧k+mm≤l.length∧l.length≤k+mm∧But (fun _=>False) W wr∧Hid (((l.take k).map (·.2)).flatMap aQ=s))
 case atStart=>exact⟨0,[],rfl,by simp,rfl,by omega,by omega,by omega,But.refl _ _,rfl⟩
 case round=>
  obtain⟨k,s',rfl,f5,rfl,f2,e7,f3,a5,HA⟩:=hrel;clear e7;have b5:=a5.kp b2;obtain⟨k0,k1,k2,k3⟩:=dD b5;have a1:=ae b5
  by_cases a2:k<l.length
  ·have e8:(k:Int)<(l.length:Int):=by omega
   have a8:=List.getElem?_eq_getElem a2;obtain⟨p,b6⟩: ∃p,l[k]=p:=⟨_,rfl⟩;have a3:l[k]∈l:=List.getElem_mem a2;rw[b6]at a8 a3;obtain⟨gp,tp⟩:=p;obtain⟨gq,e6,f0,f1,a0⟩:=aD (ah d6.1 a5 (fun _ _ h=>h)) (by omega);subst e6;have q0:wr.cell? ⟨gq,k,none⟩=some (.slice (some ⟨gp,0,none⟩) tp.length tp.length):=a0 _ _ (by simp[gZ,a8]);have e5:StB wr gp tp:=(d6.2 _ a3).off a5 (fun h=>h) (fun _ _ _ h=>h);have c7:=e1.out _ a3;have e0:=pw c7
   have HT:Hid (((l.take (k+1)).map (·.2)).flatMap aQ=s'++aQ tp):=by
    show _=_
    rw[List.take_add_one,a8,List.map_append,List.flatMap_append,HA.out];simp
   clear a0 a8 b6 HA;have b4:=hid (fun(wx:World) (h:But (fun _=>False) wr wx)=>tB gp tp wx (e5.off h (fun h=>h) (fun _ _ _ h=>h)) c7);go_wp2_with fail;refine(b4.out wr (But.refl _ _)).mono ?_;rintro en w3 ⟨rfl,e3⟩;revert HT e0;generalize aQ tp=wt;intro e0 HT;have n1: ¬9223372036854775807<s'.length+wt.length:=by omega
   clear q0 k0 k1 k2 k3 b4;go_wp2_with fail
   go_roundg (l.length-(k+1))
   case measure=>omega
   case rel=>exact⟨k+1,s'++wt,congrArg Value.string (cF _ _),by simp;omega,by simp,by omega,by omega,by omega,a5.trans e3,HT.out⟩
  ·have e8: ¬(k:Int)<(l.length:Int):=by omega
   have a4:s'=R:=by rw[←b1,←b3.out,←HA.out,List.take_of_length_le (by omega)]
   rw[←b1]at a4;have b0:=hid a4;clear HA b3 a4 b1;go_wp2_with fail;have a6:But (fun _=>False) wr wr.drew:=But.drew _ _;refine ck (But (fun _=>False) wr) 4 (by kernel_rfl) ?_;refine ay (k:=1) (v:= ?vA1) rfl (by decide) (by kernel_rfl) (fun _ _ _ h=>h) rfl a6 ?yA1 ?rA1
   case yA1=>intro wS h;have q0:=(h.kc k0 a1);clear h;go_simp;try rfl
   dsimp only[Act.put]
   try simp only[aK]
   refine ay (k:=2) (v:= ?vA2) rfl (by decide) (by kernel_rfl) (fun _ _ _ h=>h) rfl a6 ?yA2 ?rA2
   case yA2=>intro wS h;have q0:=(h.kc k0 a1);clear h;go_simp;try rfl
   dsimp only[Act.put]
   try simp only[aK]
   refine ay (k:=0) (v:= ?vA0) rfl (by decide) (by kernel_rfl) (fun _ _ _ h=>h) rfl a6 ?yA0 ?rA0
   case yA0=>intro wS h;have q0:=(h.kc k0 a1);clear h;go_simp;try rfl
   dsimp only[Act.put]
   try simp only[aK]
   refine aA (k:=3) rfl (by decide) (by kernel_rfl) ?_;intro KS hKS;go_simp;refine hKS.out _ _ (fun _=>a6) ?_;clear hKS KS;refine aA (k:=4) rfl (by decide) (by kernel_rfl) ?_;intro KS hKS;go_simp;refine hKS.out _ _ nofun ?_;clear hKS KS;refine b7 rfl (by kernel_rfl) ?_;go_wp2_with fail;exact bodyPost_ret (v:= .tuple #[.string ⟨s'.toArray⟩,.int .i64 0]) (by simp[results,Tryz.results19,go_sem]) rfl ⟨by rw[b0.out],(e4.trans a5).trans a6⟩
theorem jZ (s:ByteArray) (w:World) (hmax:s.size≤maxLen):
  Calls Tryz.prog 19 #[.string s] w fun en w'=>en= .returned (.tuple #[.string ⟨(ff s).1.toArray⟩,.int .i64 (ff s).2])∧But (fun _=>False) w w':=by
 have a0:=fun w=>ix s w hmax
 unfold ff
 cases hl:da s with
 |error e=>
  obtain⟨e,p⟩:=e;exact mZ s w hmax e p (fun w=>(a0 w).mono (fun en w' h=>⟨h.1,by have:=h.2;unfold iK at this;rw[hl]at this;exact this⟩))
 |ok im=>
  simp only
  cases ht:dO im 0 im.bodies with
  |error k=>exact mZ s w hmax 4 k (fun w=>(a0 w).mono (fun en w' h=>⟨h.1,by have:=h.2;unfold iK at this;rw[hl]at this;simp only[ht]at this;exact this⟩))
  |ok ts=>
   have hW:WfI im:=mY hl;have hm:=uR ht;refine vP s w hmax ts (fun t htt=> ?_) (by rw[hm.1];exact hW.nb) (fun w=>(a0 w).mono (fun en w' h=>⟨h.1,?_⟩))
   ·obtain⟨b,a2,a3⟩:=hm.2 t htt;have a1:=hW.bod b a2;exact(kP hW a1 a3).short a1.len.2 a1.loc.1
   ·have:=h.2;unfold iK at this;rw[hl]at this;simp only[ht]at this;obtain⟨g,ao,cap,l,h1,h2,h3,_⟩:=this;exact⟨g,ao,cap,l,h1,h2,h3⟩
theorem m6 (s:ByteArray) (w:World) (hmax:s.size≤maxLen):
  Calls Tryz.prog 18 #[.string s] w fun en w'=>en= .returned (.tuple #[.int .i64 (fJ s).1,.int .i64 (fJ s).2])∧But (fun _=>False) w w':=by
 have key:Calls Tryz.prog 36 #[.string s] w fun en w'=>But (fun _=>False) w w'∧ ∃p ao cap n,en= .returned (.agg #[.int .i64 (fJ s).1,.int .i64 (fJ s).2,.pointer p,.slice ao n cap]):=by
  refine(ix s w hmax).mono ?_;rintro en w' ⟨hB,hE⟩;refine⟨hB,?_⟩;unfold iK at hE;unfold fJ
  cases hl:da s with
  |error e=>
   rw[hl]at hE;obtain⟨e,p⟩:=e;exact⟨_,_,_,_,hE⟩
  |ok im=>
   rw[hl]at hE;simp only at hE⊢
   cases ht:dO im 0 im.bodies with
   |error k=>rw[ht]at hE;exact⟨_,_,_,_,hE⟩
   |ok ts=>
    rw[ht]at hE;obtain⟨g,ao,cap,l,h1,_⟩:=hE;exact⟨_,_,_,_,h1⟩
 have HK:=hid key;clear key;obtain⟨E,hE⟩: ∃E,fJ s=E:=⟨_,rfl⟩;rw[hE]at HK;rw[hE];clear hE;obtain⟨e,p⟩:=E;dsimp only at HK⊢
 go_in
 go_wp2_with fail;refine HK.out.mono ?_;rintro en w1 ⟨a4,p1,ao,cap,n,rfl⟩;go_wp2_with fail;have a2:But (fun _=>False) w1 (w1.alloc (.cells #[.int .i64 e,.int .i64 p,.pointer p1,.slice ao n cap] 60)):=But.alloc _ _ _;have a1:=heap_alloc_new w1 (.cells #[.int .i64 e,.int .i64 p,.pointer p1,.slice ao n cap] 60);revert a2 a1;generalize (w1.alloc (.cells #[.int .i64 e,.int .i64 p,.pointer p1,.slice ao n cap] 60))=W;intro a2 a1;obtain⟨k0,k1,k2,k3⟩:=dD a1;have a3:=ae a1;have a0:But (fun _=>False) W W.drew:=But.drew _ _;refine ck (But (fun _=>False) W) 5 (by kernel_rfl) ?_;have fSA:=hid (fun wS (h:(But (fun _=>False) W) wS)=>(And.intro (h.kc k0 a3) (h.kc k1 a3)))
 refine ay (k:=2) (v:= ?vA2) rfl (by decide) (by kernel_rfl) (fun _ _ _ h=>h) rfl a0 ?yA2 ?rA2
 case yA2=>intro wS h;obtain⟨q0,q1⟩:=fSA.out wS h;clear h;go_simp;try rfl
 dsimp only[Act.put]
 try simp only[aK]
 refine ay (k:=3) (v:= ?vA3) rfl (by decide) (by kernel_rfl) (fun _ _ _ h=>h) rfl a0 ?yA3 ?rA3
 case yA3=>intro wS h;obtain⟨q0,q1⟩:=fSA.out wS h;clear h;go_simp;try rfl
 dsimp only[Act.put]
 try simp only[aK]
 refine ay (k:=0) (v:= ?vA0) rfl (by decide) (by kernel_rfl) (fun _ _ _ h=>h) rfl a0 ?yA0 ?rA0
 case yA0=>intro wS h;obtain⟨q0,q1⟩:=fSA.out wS h;clear h;go_simp;try rfl
 dsimp only[Act.put]
 try simp only[aK]
 refine ay (k:=1) (v:= ?vA1) rfl (by decide) (by kernel_rfl) (fun _ _ _ h=>h) rfl a0 ?yA1 ?rA1
 case yA1=>intro wS h;obtain⟨q0,q1⟩:=fSA.out wS h;clear h;go_simp;try rfl
 dsimp only[Act.put]
 try simp only[aK]
 try clear fSA
 refine aA (k:=4) rfl (by decide) (by kernel_rfl) ?_;intro KS hKS;go_simp;refine hKS.out _ _ (fun _=>a0) ?_;clear hKS KS;refine aA (k:=5) rfl (by decide) (by kernel_rfl) ?_;intro KS hKS;go_simp;refine hKS.out _ _ nofun ?_;clear hKS KS;refine b7 rfl (by kernel_rfl) ?_;go_wp2_with fail;exact bodyPost_ret (v:= .tuple #[.int .i64 e,.int .i64 p]) (by simp[results,Tryz.results18,go_sem]) rfl ⟨rfl,(a4.trans a2).trans a0⟩
end
end Go.Proofs.YtpfkkmacakjmbaaGreatDoor
