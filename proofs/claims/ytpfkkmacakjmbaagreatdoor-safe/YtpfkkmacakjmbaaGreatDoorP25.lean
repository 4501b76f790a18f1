import Derived.Test.YtpfkkmacakjmbaaGreatDoorP24
import Derived.Test.YtpfkkmacakjmbaaGreatDoorP07
set_option maxRecDepth 100000
set_option maxHeartbeats 6400000
set_option linter.all false
namespace Go.Proofs.YtpfkkmacakjmbaaGreatDoor
open Proofs.Tryz
section
open Go Go.RowKit Sp
attribute [local go_sem ↓] dG dH
theorem rq {fn:Func} {R:Ending->World->Prop} {a:Act} {w:World} {c g:Nat} {a0 a1 a2 a3 x0 x1 x2 x3:Value} (hf:fn.results=#[.cell c 60]) (hd:a.defers=[]) (hc:a.tmps.getD c undef= .pointer (some ⟨g,0,none⟩)) (h:w.heap[g]?=some (.cells #[a0,a1,a2,a3] 60)) (hR: ∀w9,w9.heap[g]?=some (.cells #[x0,x1,x2,x3] 60)->But (· =g) w w9->R (.returned (.agg #[x0,x1,x2,x3])) w9):bodyPost prog fn R .ret a ((((w.setCell ⟨g,0,none⟩ x0).setCell ⟨g,1,none⟩ x1).setCell ⟨g,2,none⟩ x2).setCell ⟨g,3,none⟩ x3):=by
 have h9:=eZ h x0 x1 x2 x3;have r0:=ce0 h9;have r1:=ce1 h9;have r2:=ce2 h9;have r3:=ce3 h9;refine cW (v:= .agg #[x0,x1,x2,x3]) ?_ hd (hR _ h9 (gn w g x0 x1 x2 x3));have a4:a.tmps[c]?.getD undef= .pointer (some ⟨g,0,none⟩):=by simpa using hc
 unfold pD at r0 r1 r2 r3;simp[results,hf,a4,go_sem,r0,r1,r2,r3]
def jS (l:List (Nat×List St)):List Value:=l.map λp=> .slice (some ⟨p.1,0,none⟩) p.2.length p.2.length
def iu (w:World) (base:Nat) (v:Value) (l:List (Nat×List St)):Prop:=
 w.ownsRow base 65 1 v l.length (jS l)/\ ∀p∈l,StB w p.1 p.2
theorem iu.but {w w':World} {base:Nat} {v:Value} {l:List (Nat×List St)} (h:iu w base v l) (hb:B_ w w'):iu w' base v l:=
 ⟨aj h.1 hb (λ_ _ h=>h),λp hp=>(h.2 p hp).off hb (λh=>h) (λ_ _ _ h=>h)⟩
theorem iu.aside {w w':World} {base g:Nat} {v:Value} {l:List (Nat×List St)} {cur:Array Value} (h:iu w base v l) (hb:But (· =g) w w') (hg:w.heap[g]?=some (.cells cur 60)):iu w' base v l:=by
 have a0: ∀k c e,w.heap[k]?=some (.cells c e)->e≠60-> ¬k=g:=by
  intro k c e hk he h9;rw[h9,hg]at hk;injection hk with hk;injection hk with _ h2;exact he h2.symm
 refine⟨bj h.1 hb (λk c hk _=>a0 k c _ hk (by decide)),λp hp=>(h.2 p hp).off hb ?_ (λk c hk=>a0 k c _ hk (by decide))⟩;obtain⟨l',a1,_⟩:=h.2 p hp;exact a0 _ _ _ a1 (by decide)
theorem zg:(prog.info? 65).map (λi=>(i.zero,i.size,i.bytes))=some (some (.agg #[S_]),1,24):=by kernel_rfl
def kJ (s:ByteArray) (w:World) (en:Ending) (w':World):Prop:=
 match dQ s with
 | .error (e,p)=>en= .returned (.agg #[.int .i64 e,.int .i64 p,.pointer none,S_])
 | .ok im=>
  match ff im 0 im.zq with
  | .error k=>en= .returned (.agg #[.int .i64 4,.int .i64 k,.pointer none,S_])
  | .ok ts=> ∃g ao cap l,en= .returned (.agg #[.int .i64 0,.int .i64 0,.pointer (some ⟨g,0,none⟩),.slice ao (List.length l) cap])/\l.map (·.2)=ts/\iu w' w.heap.size (.slice ao l.length cap) l/\eS w' g im
theorem eS.but {w w':World} {g:Nat} {im:Img} (h:eS w g im) (hb:B_ w w'):eS w' g im:=⟨h.cls.but hb,h.met.but hb,h.bod.but hb⟩
theorem eS.off {F:Nat->Prop} {w w':World} {g:Nat} {im:Img} (h:eS w g im) (hb:But F w w') (hg: ¬F g) (hf: ∀k cur e,w.heap[k]?=some (.cells cur e)->(e=240\/e=243\/e=115\/e=219\/e=5)-> ¬F k):eS w' g im:=by
 obtain⟨⟨v0,l,h0,hl,hO,hm,a1⟩,⟨v1,h1,_,a0⟩,⟨v2,h2,_,hT⟩⟩:=h;refine⟨⟨v0,l,(hb.cell (p:=⟨g,0,none⟩) hl hg).trans h0,bq hl hb.size,bj hO hb (λk cur hh _=>hf k cur _ hh (by simp)),hm,λx hx=>bj (a1 x hx) hb (λk cur hh _=>hf k cur _ hh (by simp))⟩,⟨v1,(hb.cell (p:=⟨g,1,none⟩) hl hg).trans h1,bq hl hb.size,bj a0 hb (λk cur hh _=>hf k cur _ hh (by simp))⟩,⟨v2,(hb.cell (p:=⟨g,2,none⟩) hl hg).trans h2,bq hl hb.size,hT.but hb (λk e cur hh he _=>hf k cur e hh (by rcases he with h|h|h<;>simp[h]))⟩⟩
theorem Bc (g:Nat) (im:Img) (w:World) (hW:WfI im) (hTX:eS w g im):
  Calls prog 64 #[.pointer (some ⟨g,0,none⟩),.int .i64 (-1)] w λen w'=>B_ w w'/\en= .returned (gG g im):=by
 have a4:B_ w (w.alloc (.cells #[.int .i64 0,.int .i64 0,.pointer none,S_] 60)):=ag _ _ _;have a0:=aO w (.cells #[.int .i64 0,.int .i64 0,.pointer none,S_] 60)
 cases hfs:im.zq.findSome? (λb=>unl im.zz im.zq b.code)with
 |some q=>
  have e1:((q:Int)== -1)=false:=by rw[eA];omega
  have e2:((q:Int)!= -1)=true:=by simp[bne,e1]
  have b0: ¬(q:Int)= -1:=by omega
  have a3:=rc g im (w.alloc (.cells #[.int .i64 0,.int .i64 0,.pointer none,S_] 60)) hW (hTX.but a4);rw[hfs]at a3;simp only[ml]at a3;rw[show gG g im= .agg #[.int .i64 3,.int .i64 q,.pointer none,S_]from by unfold gG;rw[hfs]];have a1:=hid a3;clear a3 hfs
  go_in
  go_wp2_with fail;revert a4 a0 a1;generalize (w.alloc (.cells #[.int .i64 0,.int .i64 0,.pointer none,S_] 60))=W;intro a4 a0 a1;have a8:=ae a0;refine a1.out.mono ?_;rintro en w2 ⟨rfl,a6⟩;have a5:=a4.trans a6;have a2:=(a6.block w.heap.size a8 (λh=>h)).trans a0;have a7:=hid a2;obtain⟨q0,q1,q2,q3⟩:=eR a2;obtain⟨f0,f1,f2,f3⟩:=jp a2;clear a2 a0 a1;go_wp2_with fail;refine rq results64 rfl rfl a7.out (λw9 h9 h9b=> ?_);exact⟨a5.next h9b (λk hk h=>by omega),rfl⟩
 |none=>
  have a3:=rc g im (w.alloc (.cells #[.int .i64 0,.int .i64 0,.pointer none,S_] 60)) hW (hTX.but a4);rw[hfs]at a3;simp only[ml]at a3;rw[show gG g im= .agg #[.int .i64 0,.int .i64 0,.pointer (some ⟨g,0,none⟩),S_]from by unfold gG;rw[hfs]];have a1:=hid a3;clear a3 hfs
  go_in
  go_wp2_with fail;revert a4 a0 a1;generalize (w.alloc (.cells #[.int .i64 0,.int .i64 0,.pointer none,S_] 60))=W;intro a4 a0 a1;have a8:=ae a0;refine a1.out.mono ?_;rintro en w2 ⟨rfl,a6⟩;have a5:=a4.trans a6;have a2:=(a6.block w.heap.size a8 (λh=>h)).trans a0;have a7:=hid a2;obtain⟨q0,q1,q2,q3⟩:=eR a2;obtain⟨f0,f1,f2,f3⟩:=jp a2;clear a2 a0 a1;go_wp2_with fail;refine rq results64 rfl rfl a7.out (λw9 h9 h9b=> ?_);exact⟨a5.next h9b (λk hk h=>by omega),rfl⟩
def Fnd (w:World) (g:Nat) (e p t l:Value):Prop:=w.heap[g]?=some (.cells #[e,p,t,l] 60)
theorem kr (s:ByteArray) (w:World) (hmax:s.size<=maxLen):
  Calls prog 36 #[.string s] w λen w'=>B_ w w'/\kJ s w en w':=by
 obtain⟨i0,r4,s6,s9,t3⟩:=info_parts zg;have j0:B_ w (w.alloc (.cells #[.int .i64 0,.int .i64 0,.pointer none,S_] 60)):=ag _ _ _;have g0:=aO w (.cells #[.int .i64 0,.int .i64 0,.pointer none,S_] 60)
 by_cases hbig:2000<s.size
 .have p8:2000<(s.size:Int):=by omega
  have hL:dQ s= .error (1,0):=by unfold dQ;rw[if_pos hbig]
  have HL:=hid hL;clear hbig hL
  go_in
  go_wp2_with fail;have h9:=aO w (.cells #[.int .i64 1,.int .i64 0,.pointer none,S_] 60);have a3:B_ w (w.alloc (.cells #[.int .i64 1,.int .i64 0,.pointer none,S_] 60)):=ag _ _ _;revert h9 a3;generalize (w.alloc (.cells #[.int .i64 1,.int .i64 0,.pointer none,S_] 60))=w9;intro h9 a3;obtain⟨r0,r1,r2,r3⟩:=eR h9;exact cW (v:= .agg #[.int .i64 1,.int .i64 0,.pointer none,S_]) (by simp[results,results36,go_sem,r0,r1,r2,r3]) rfl ⟨a3,by unfold kJ;rw[HL.out];rfl⟩
 .have p8: ¬2000<(s.size:Int):=by omega
  go_in
  go_wp2_with fail;revert j0 g0;generalize (w.alloc (.cells #[.int .i64 0,.int .i64 0,.pointer none,S_] 60))=W;intro j0 g0;have q8:=ae g0;have i4:=hid g0;clear g0;refine(yB s W (by omega)).mono ?_;rintro en w1 ⟨n2,g,p,rfl,hg,q4⟩;have b9:=j0.trans n2;have e1:=hid ((n2.block w.heap.size q8 (λh=>h)).trans i4.out);obtain⟨j,e5,rfl,n8⟩ | ⟨rfl,im,e5,j4⟩:=q4
  .have HL:Hid (dQ s= .error (2,j)):=hid (by unfold dQ;rw[if_neg hbig,e5]);clear e5 hbig i4;have l6:=ae n8;go_wp2_with fail;refine(re g j w1).mono ?_;rintro en w2 ⟨a7,rfl⟩;have a6:=b9.trans a7;have g2:=(a7.block g l6 (λh=>h)).trans n8;obtain⟨t0,t1,t2⟩:=ia g2;have m0:=ae g2;have b1:=hid (a7.kp e1.out);go_wp2_with fail;have a1:B_ w2 (w2.alloc (.cells #[.int .i64 2,.int .i64 j,.pointer none,S_] 60)):=ag _ _ _;have a4:=aO w2 (.cells #[.int .i64 2,.int .i64 j,.pointer none,S_] 60);revert a1 a4;generalize (w2.alloc (.cells #[.int .i64 2,.int .i64 j,.pointer none,S_] 60))=w3
   intro a1 a4;have a8:=a1.kp b1.out;have u2:=a1.kc t2 m0;clear t0 t1 t2;obtain⟨k0,k1,k2,k3⟩:=eR a4;obtain⟨q0,q1,q2,q3⟩:=eR a8;obtain⟨f0,f1,f2,f3⟩:=jp a8;have b5:=hid a8;clear a8 b1 e1 a4
   go_loopg [6] 0 (λmm is wr=>is= .int .i64 0/\wr=w3)
   case atStart=>exact⟨rfl,rfl⟩
   case round=>
    obtain⟨rfl,n0⟩:=hrel;subst n0;go_wp2_with fail;refine rq results36 rfl rfl b5.out (λw9 h9 a3=> ?_);exact⟨(a6.trans a1).next a3 (λk hk h=>by omega),by unfold kJ;rw[HL.out];rfl⟩
  .have hW:=mC (by omega) e5;have h3:=hid e5;clear e5 i4;have e3:=Bc g im w1 hW j4;obtain⟨vb,m5,i2,lb,hO,hm,hf⟩:=j4.bod;obtain⟨a2,o4,rfl⟩:=aw hO;have v2:lb.length=im.zq.length:=by have:=congrArg List.length hm;simpa using this
   have v3:=hW.nb;have HM:=hid hm;clear hm
   cases hfs:im.zq.findSome? (λb=>unl im.zz im.zq b.code)with
   |some q=>
    have HL:Hid (dQ s= .error (3,q)):=hid (by unfold dQ;rw[if_neg hbig,h3.out];simp only[hfs]);rw[show gG g im= .agg #[.int .i64 3,.int .i64 q,.pointer none,S_]from by unfold gG;rw[hfs]]at e3;have e6:=hid e3;clear e3 hfs hbig h3;go_wp2_with fail;refine e6.out.mono ?_;rintro en w2 ⟨a7,rfl⟩;have a6:=b9.trans a7;have b1:=hid (a7.kp e1.out);clear e6;go_wp2_with fail;have a1:B_ w2 (w2.alloc (.cells #[.int .i64 3,.int .i64 q,.pointer none,S_] 60)):=ag _ _ _;have a4:=aO w2 (.cells #[.int .i64 3,.int .i64 q,.pointer none,S_] 60);revert a1 a4;generalize (w2.alloc (.cells #[.int .i64 3,.int .i64 q,.pointer none,S_] 60))=w3
    intro a1 a4;have a8:=a1.kp b1.out;have u2:=((a7.trans a1).cell (p:=⟨g,2,none⟩) i2 (λh=>h)).trans m5;have c9:0<(lb.length:Int)\/ ¬0<(lb.length:Int):=Decidable.em _;obtain⟨k0,k1,k2,k3⟩:=eR a4;obtain⟨q0,q1,q2,q3⟩:=eR a8;obtain⟨f0,f1,f2,f3⟩:=jp a8;have b5:=hid a8;clear a8 b1 e1 a4
    go_loopg [6] 0 (λmm is wr=>is= .int .i64 0/\wr=w3)
    case atStart=>exact⟨rfl,rfl⟩
    case round=>
     obtain⟨rfl,n0⟩:=hrel;subst n0;obtain c9|c9:=c9
     .go_wp2_with fail;refine rq results36 rfl rfl b5.out (λw9 h9 a3=> ?_);exact⟨(a6.trans a1).next a3 (λk hk h=>by omega),by unfold kJ;rw[HL.out];rfl⟩
     .go_wp2_with fail;refine rq results36 rfl rfl b5.out (λw9 h9 a3=> ?_);exact⟨(a6.trans a1).next a3 (λk hk h=>by omega),by unfold kJ;rw[HL.out];rfl⟩
   |none=>
    have HL:Hid (dQ s= .ok im):=hid (by unfold dQ;rw[if_neg hbig,h3.out];simp only[hfs]);rw[show gG g im= .agg #[.int .i64 0,.int .i64 0,.pointer (some ⟨g,0,none⟩),S_]from by unfold gG;rw[hfs]]at e3;have e6:=hid e3;clear e3 hfs hbig h3;go_wp2_with fail;refine e6.out.mono ?_;rintro en w2 ⟨a7,rfl⟩;have a6:=b9.trans a7;have b1:=hid (a7.kp e1.out);clear e6;go_wp2_with fail;have a1:B_ w2 (w2.alloc (.cells #[.int .i64 0,.int .i64 0,.pointer (some ⟨g,0,none⟩),S_] 60)):=ag _ _ _;have a4:=aO w2 (.cells #[.int .i64 0,.int .i64 0,.pointer (some ⟨g,0,none⟩),S_] 60)
    revert a1 a4;generalize (w2.alloc (.cells #[.int .i64 0,.int .i64 0,.pointer (some ⟨g,0,none⟩),S_] 60))=w3;intro a1 a4;have a8:=a1.kp b1.out;have a5:=a7.trans a1;have e9:=a6.trans a1;have g1:g<w3.heap.size:=bq i2 a5.size;have t4:w.heap.size<w2.heap.size:=ae b1.out;have t5:=ae a4;have b5:=hid a8;have f6:=j4.but a5;have o6:=aj hO a5 (λ_ _ h=>h);have s4:=a5.kc m5 i2;have d6:g≠w2.heap.size:=by have:=bq i2 a7.size;omega
    have HF:Hid (∀x∈lb,BtB w3 0 x.2.1 x.1.locals/\ItB w3 0 x.2.2 x.1.items):=hid (λx hx=>⟨(hf x hx).1.but a5 (λ_ _ h=>h),aj (hf x hx).2 a5 (λ_ _ h=>h)⟩);clear a8 b1 e1 hf m5 hO
    go_loopg [6] lb.length (λmm ks wr=> ∃(k:Nat) (ao:Option Addr) (cap:Nat) (l:List (Nat×List St)),l.length=k/\ks= .int .i64 k/\k<=lb.length/\k+mm<=lb.length/\lb.length<=k+mm/\But (· =w2.heap.size) w3 wr/\Fnd wr w2.heap.size (.int .i64 0) (.int .i64 0) (.pointer (some ⟨g,0,none⟩)) (.slice ao k cap)/\iu wr w3.heap.size (.slice ao k cap) l/\Hid ((im.zq.take k).map (dR im)=(l.map (·.2)).map some))
    case atStart=>exact⟨0,none,0,[],rfl,rfl,by omega,by omega,by omega,But.refl _ _,a4,⟨df _ _ _ _,by simp⟩,hid rfl⟩
    case round=>
     obtain⟨k,ao,cap,l,n9,rfl,v0,r5,v1,b0,h5,n4,HA⟩:=hrel;have e7:=hid n9;clear n9 r5;have o1:=hid h5;have m2:=(b0.block w.heap.size (ae b5.out) (by omega)).trans b5.out;have e2:=hid m2;have m1:=ae m2;have j3:=ae h5;have m4:=(b0.cell (p:=⟨g,2,none⟩) g1 d6).trans s4;have q7:g<wr.heap.size:=bq g1 b0.size;obtain⟨k0,k1,k2,k3⟩:=eR h5;clear m2 h5
     by_cases hlt:k<lb.length
     .have s0:(k:Int)<(lb.length:Int):=by omega
      have hx:=aH hlt
      have i3: ∀g' cur e,w3.heap[g']?=some (.cells cur e)->e≠60-> ¬g'=w2.heap.size:=by
       intro g' cur e hh he h9;rw[h9,a4]at hh;injection hh with hh;injection hh with _ h2;exact he h2.symm
      have p5:=bj o6 b0 (λg' cur hh _=>i3 g' cur _ hh (by decide));obtain⟨gB,q5,q6,_,a0⟩:=aF p5 (by omega);obtain⟨bd,i1⟩: ∃bd,im.zq[k]?=some bd:=⟨_,aH (by omega)⟩
      have n7:lb[k].1=bu im.zj bd:=by
       have h1:(lb.map (·.1))[k]?=some (bu im.zj bd):=by rw[HM.out,cg,i1];rfl
       rw[cg,hx]at h1;exact Option.some.inj h1
      obtain⟨g6,g4⟩:=HF.out _ (cN hlt);have e4:BtB wr 0 lb[k].2.1 lb[k].1.locals:=bj g6 b0 (λg' cur hh _=>i3 g' cur _ hh (by decide));have e0:ItB wr 0 lb[k].2.2 lb[k].1.items:=bj g4 b0 (λg' cur hh _=>i3 g' cur _ hh (by decide));clear g6 g4;have p0:wr.cell? ⟨gB,k*5,none⟩=some (.int .u8 lb[k].1.cls.toNat):=a0 _ _ (ba (k:=0) hx (by omega));have p1:wr.cell? ⟨gB,k*5+1,none⟩=some (.int .i64 lb[k].1.meth):=a0 _ _ (ba (k:=1) hx (by omega));have p2:wr.cell? ⟨gB,k*5+2,none⟩=some (.int .u8 lb[k].1.ans.toNat):=a0 _ _ (ba (k:=2) hx (by omega));have p3:wr.cell? ⟨gB,k*5+3,none⟩=some lb[k].2.1:=a0 _ _ (ba (k:=3) hx (by omega))
      have p4:wr.cell? ⟨gB,k*5+4,none⟩=some lb[k].2.2:=a0 _ _ (ba (k:=4) hx (by omega));rw[n7]at p0 p1 p2 e4 e0;obtain⟨al,capl,n6⟩:=aw e4;obtain⟨ai,capi,n5⟩:=aw e0;rw[n6]at p3 e4;rw[n5]at p4 e0;have g7:(bu im.zj bd).locals=bd.locals:=rfl;have g5:(bu im.zj bd).items=bd.code.map bP:=rfl;rw[g7]at p3 e4;rw[g5]at p4 e0;simp only[cP]at p4 e0;have s5:WfB im.zz im.zj bd:=hW.bod _ (bp i1);have i6:Hid (eS wr g im):=hid (f6.off b0 d6 (λk' cur e hh he=>i3 k' cur e hh (by rcases he with h|h|h|h|h<;>(rw[h];decide))));have h0:=hid (λ(wx:World) (h:B_ wr wx)=>wD g im bd (bu im.zj bd).cls (bu im.zj bd).meth al ai capl capi wx hW s5 (i6.out.but h) (e4.but h (λ_ _ h=>h)) (aj e0 h (λ_ _ h=>h)))
      have n1:=hid i1;subst q5;obtain⟨X,hX⟩: ∃X,bu im.zj bd=X:=⟨_,rfl⟩;rw[hX]at p0 p1 p2 h0;clear hX n7 a0 hx n6 n5 g7 g5 i1 e4 e0;unfold hdV at h0;go_wp2_with fail;refine(h0.out wr (But.refl _ _)).mono ?_;rintro en w4 ⟨e8,m3⟩;have f7:=n4.but e8;have f8:=(e8.block w.heap.size m1 (λh=>h)).trans e2.out;have f5:=(e8.block w2.heap.size j3 (λh=>h)).trans o1.out;have o2:=hid f8;have q9:=ae f8;clear k0 k1 k2 k3;obtain⟨q0,q1,q2,q3⟩:=eR f8;obtain⟨f0,f1,f2,f3⟩:=jp f8;obtain⟨k0,k1,k2,k3⟩:=eR f5;obtain⟨l0,l1,l2,l3⟩:=jp f5;have o0:=hid f5;have j2:=ae f5;clear h0 p0 p1 p2 p3 p4 m4 f8 f5;obtain⟨hN,rfl⟩ | ⟨tb,gt,hN,rfl,s3,t6⟩:=m3
      .have i5:Hid (ff im 0 im.zq= .error k):=by
        have:=yj (i:=0) HA.out n1.out hN;refine hid ?_;rw[this];simp
       clear hN HA;go_wp2_with fail;have h9:=eZ o2.out (.int .i64 4) (.int .i64 k) (.pointer none) S_;have a3:=gn w4 w.heap.size (.int .i64 4) (.int .i64 k) (.pointer none) S_;unfold pD at h9 a3;have b6:But (· =w.heap.size) w4 (((((w4.setCell ⟨w.heap.size,0,none⟩ (.int .i64 4)).setCell ⟨w.heap.size,1,none⟩ (.int .i64 k)).setCell ⟨w.heap.size,2,none⟩ (.pointer none)).setCell ⟨w.heap.size,3,none⟩ S_).alloc (.cells #[S_] 65)):=a3.trans (ag _ _ _);have i7:=((ag (λ_=>False) ((((w4.setCell ⟨w.heap.size,0,none⟩ (.int .i64 4)).setCell ⟨w.heap.size,1,none⟩ (.int .i64 k)).setCell ⟨w.heap.size,2,none⟩ (.pointer none)).setCell ⟨w.heap.size,3,none⟩ S_) (.cells #[S_] 65)).block w.heap.size (ae h9) (λh=>h)).trans h9
       clear h9 a3;revert i7 b6;generalize (((((w4.setCell ⟨w.heap.size,0,none⟩ (.int .i64 4)).setCell ⟨w.heap.size,1,none⟩ (.int .i64 k)).setCell ⟨w.heap.size,2,none⟩ (.pointer none)).setCell ⟨w.heap.size,3,none⟩ S_).alloc (.cells #[S_] 65))=w9;intro b6 i7;obtain⟨r0,r1,r2,r3⟩:=eR i7;have c7:B_ w w9:=(((e9.next b0 (λk' hk' h=>by omega)).trans e8).next b6 (λk' hk' h=>by omega));exact cW (v:= .agg #[.int .i64 4,.int .i64 k,.pointer none,S_]) (by simp[results,results36,go_sem,r0,r1,r2,r3]) rfl ⟨c7,by unfold kJ;rw[HL.out];simp only[i5.out]⟩
      .have HN:=hid hN;clear hN;have h6:w4.ownsRow w3.heap.size 65 1 (.slice ao k cap) k (jS l):=by have:=f7.1;rw[e7.out]at this;exact this
       have g3:=ay h6;have f4:But (· =w2.heap.size) w3 w4:=b0.next e8 (λ_ _ h=>h.elim);have v4:=f4.size;go_wp2_with (at_builtin;refine wpList_append_lies _ rfl _ _ _ rfl w3.heap.size 65 i0 _ 1 24 (by kernel_rfl) r4 s6 s9 t3 rfl (by omega) _ k (jS l) rfl ((h6.alloc _).alloc _) ⟨w4.heap.size+1,0,none⟩ 1 1 [.slice (some ⟨gt,0,none⟩) tb.length tb.length] rfl rfl (fX (cs:=#[.slice (some ⟨gt,0,none⟩) tb.length tb.length]) (t:=65) (fr:=(0,0)) (aB (by simp) _)) (by simp[Value.oneCell']) (by omega) (by unfold maxLen;omega) (by omega) (by simp;omega) (w4.heap.size+2) (by simp) ?_);intro gg cap3 w5 b3 b2 p6 s1
       have h7:But (λk'=>(Value.slice ao k cap).ownBlock=some k') w4 w5:=((ag _ _ _).trans (ag _ _ _)).trans (bc b2);have h4:Fnd w5 w2.heap.size (.int .i64 0) (.int .i64 0) (.pointer (some ⟨g,0,none⟩)) (.slice ao k cap):=(h7.block w2.heap.size j2 (λh=>by have:=g3 _ h;omega)).trans o0.out;have j1:But (· =w2.heap.size) w3 w5:=f4.next h7 (λk' hk' h=>absurd (g3 k' h) (by omega))
       have b4: ∀p:Nat×List St,StB w4 p.1 p.2->StB w5 p.1 p.2:=by
        intro p hp;refine hp.off h7 ?_ (λk' cur hk' e=>fH h6 hk' (by decide) e);obtain⟨l',s2,_⟩:=hp;exact fH h6 s2 (by decide)
       have k9:iu w5 w3.heap.size (.slice (some ⟨gg,0,none⟩) (k+1) cap3) (l++ [(gt,tb)]):=by
        refine⟨?_,λp hp=> ?_⟩
        .unfold jS;rw[aZ,e7.out,List.map_append];exact b3
        .obtain hp|hp:=List.mem_append.1 hp
         .exact b4 p (f7.2 p hp)
         .simp at hp;subst hp;exact b4 (gt,tb) s3
       have o3:Hid ((im.zq.take (k+1)).map (dR im)=((l++ [(gt,tb)]).map (·.2)).map some):=by
        show _=_
        obtain⟨r8,r6⟩:=bC n1.out;rw[iM r8,List.map_append,HA.out,r6];simp[HN.out]
       clear q0 q1 q2 q3 f0 f1 f2 f3 k0 k1 k2 k3 l0 l1 l2 l3 h7 b2 b3 p6;obtain⟨k0,k1,k2,k3⟩:=eR h4;obtain⟨l0,l1,l2,l3⟩:=jp h4;go_wp2_with fail;have n3:=au w5 w2.heap.size 3 (.slice (some ⟨gg,0,none⟩) (k+1) cap3);have o5:Fnd (w5.setCell ⟨w2.heap.size,3,none⟩ (.slice (some ⟨gg,0,none⟩) (k+1) cap3)) w2.heap.size (.int .i64 0) (.int .i64 0) (.pointer (some ⟨g,0,none⟩)) (.slice (some ⟨gg,0,none⟩) (k+1) cap3):=bG w5 w2.heap.size 3 _ _ _ h4;have l4:iu (w5.setCell ⟨w2.heap.size,3,none⟩ (.slice (some ⟨gg,0,none⟩) (k+1) cap3)) w3.heap.size (.slice (some ⟨gg,0,none⟩) (k+1) cap3) (l++ [(gt,tb)]):=k9.aside n3 h4
       go_roundg (lb.length-(k+1))
       case measure=>omega
       case rel=>exact⟨k+1,_,cap3,l++ [(gt,tb)],by rw[aZ,e7.out];rfl,by simp,by omega,by omega,by omega,j1.trans n3,o5,l4,o3⟩
     .have s0: ¬(k:Int)<(lb.length:Int):=by omega
      have hk:k=im.zq.length:=by omega
      have i5:Hid (ff im 0 im.zq= .ok (l.map (·.2))):=hid (Ax (by
       have:=HA.out;rw[List.take_of_length_le (by omega)]at this;exact this))
      clear HA hk;obtain⟨q0,q1,q2,q3⟩:=eR e2.out;obtain⟨f0,f1,f2,f3⟩:=jp e2.out
      have j7:=f6.off b0 d6 (λk' cur e hh he h9=>by
       rw[h9,a4]at hh;injection hh with hh;injection hh with _ h2;rw[<-h2]at he;revert he
       decide)
      go_wp2_with fail;refine rq results36 rfl rfl e2.out (λw9 h9 a3=> ?_)
      have j5:eS w9 g im:=j7.off a3 (by omega) (λk' cur e hh he h8=>by
       rw[h8,e2.out]at hh;injection hh with hh;injection hh with _ h2;rw[<-h2]at he;revert he
       decide)
      have l5:iu w9 w.heap.size (.slice ao l.length cap) l:=by
       have h1:=n4.aside a3 e2.out;rw[e7.out];exact⟨h1.1.mono (by omega),h1.2⟩
      have c7:B_ w w9:=((e9.next b0 (λk' hk' h=>by omega)).next a3 (λk' hk' h=>by omega));exact⟨c7,by unfold kJ;rw[HL.out];simp only[i5.out];exact⟨g,ao,cap,l,by rw[e7.out],rfl,l5,j5⟩⟩
theorem p7 (s:ByteArray) (w:World) (hmax:s.size<=maxLen):
  Calls prog 18 #[.string s] w λen w'=>en= .returned (.tuple #[.int .i64 (jw s).1,.int .i64 (jw s).2])/\B_ w w':=by
 have key:Calls prog 36 #[.string s] w λen w'=>B_ w w'/\ ∃p ao cap n,en= .returned (.agg #[.int .i64 (jw s).1,.int .i64 (jw s).2,.pointer p,.slice ao n cap]):=by
  refine(kr s w hmax).mono ?_;rintro en w' ⟨hB,hE⟩;refine⟨hB,?_⟩;unfold kJ at hE;unfold jw
  cases hl:dQ s with
  |error e=>
   rw[hl]at hE;obtain⟨e,p⟩:=e;exact⟨_,_,_,_,hE⟩
  |ok im=>
   rw[hl]at hE;simp only at hE⊢
   cases ht:ff im 0 im.zq with
   |error k=>rw[ht]at hE;exact⟨_,_,_,_,hE⟩
   |ok ts=>
    rw[ht]at hE;obtain⟨g,ao,cap,l,h1,_⟩:=hE;exact⟨_,_,_,_,h1⟩
 have HK:=hid key;clear key;obtain⟨E,hE⟩: ∃E,jw s=E:=⟨_,rfl⟩;rw[hE]at HK;rw[hE];clear hE;obtain⟨e,p⟩:=E;dsimp only at HK⊢
 go_in
 go_wp2_with fail;refine HK.out.mono ?_;rintro en w1 ⟨a4,p1,ao,cap,n,rfl⟩;go_wp2_with fail;have a1:B_ w1 (w1.alloc (.cells #[.int .i64 e,.int .i64 p,.pointer p1,.slice ao n cap] 60)):=ag _ _ _;have a0:=aO w1 (.cells #[.int .i64 e,.int .i64 p,.pointer p1,.slice ao n cap] 60);revert a1 a0;generalize (w1.alloc (.cells #[.int .i64 e,.int .i64 p,.pointer p1,.slice ao n cap] 60))=W;intro a1 a0;obtain⟨k0,k1,k2,k3⟩:=eR a0;have a3:=ae a0;have a2:B_ W W.drew:=aD _ _;refine dv (B_ W) 5 ?_;have fSA:=hid (λwS (h:(B_ W) wS)=>(And.intro (h.kc k0 a3) (h.kc k1 a3)))
 refine dg [2,3,0,1] ?_
 iterate 4 (refine dw (v:=?_) rfl a2 ?_ ?_;rotate_left;(focus (intro wS h;obtain⟨q0,q1⟩:=fSA.out wS h;clear h;go_simp;try rfl));dsimp only[Act.put];try simp only[cH])
 try clear fSA
 refine aG (k:=4) rfl ?_;intro KS hKS;go_simp;refine hKS.out _ _ (λ_=>a2) ?_;clear hKS KS;refine aG (k:=5) rfl ?_;intro KS hKS;go_simp;refine hKS.out _ _ nofun ?_;clear hKS KS;refine dl rfl ?_;go_wp2_with fail;exact cW (v:= .tuple #[.int .i64 e,.int .i64 p]) (by simp[results,results18,go_sem]) rfl ⟨rfl,(a4.trans a1).trans a2⟩
theorem StB.known {w:World} {gs:Nat} {tab:List St} (h:StB w gs tab) {k:Nat} {s lo:L_} (hk:tab[k]?=some (some (s,lo))):
  ∃a1 c1 a2 c2,w.cell? ⟨gs,k*3,none⟩=some (.bool true)/\w.cell? ⟨gs,k*3+1,none⟩=some (.slice a1 s.length c1)/\w.cell? ⟨gs,k*3+2,none⟩=some (.slice a2 lo.length c2)/\BtB w 0 (.slice a1 s.length c1) s/\BtB w 0 (.slice a2 lo.length c2) lo:=by
 obtain⟨l,hs,hm,hf⟩:=h;rw[<-hm,cg]at hk;obtain⟨x,hx,a0⟩:=Option.map_eq_some_iff.1 hk;obtain⟨h1,h2⟩:=hf x (bp hx) s lo a0;obtain⟨a1,c1,e1⟩:=aw h1;obtain⟨a2,c2,e2⟩:=aw h2;have hc:stC x=[.bool true,x.2.1,x.2.2]:=by unfold stC;rw[a0]
 rw[e1]at h1;rw[e2]at h2;refine⟨a1,c1,a2,c2,?_,?_,?_,h1,h2⟩
 .rw[aX w gs (k*3) _ _ (0,0) hs];have:=dq (k:=0) hx (by omega);rw[hc]at this;simpa using this
 .rw[aX w gs (k*3+1) _ _ (0,0) hs];have:=dq (k:=1) hx (by omega);rw[hc,e1]at this;simpa using this
 .rw[aX w gs (k*3+2) _ _ (0,0) hs];have:=dq (k:=2) hx (by omega);rw[hc,e2]at this;simpa using this
theorem StB.unk {w:World} {gs:Nat} {tab:List St} (h:StB w gs tab) {k:Nat} (hk:tab[k]?= .some .none):
  w.cell? ⟨gs,k*3,none⟩= .some (.bool false)/\w.cell? ⟨gs,k*3+1,none⟩= .some S_/\w.cell? ⟨gs,k*3+2,none⟩= .some S_:=by
 obtain⟨l,hs,hm,hf⟩:=h;rw[<-hm,cg]at hk;obtain⟨x,hx,a0⟩:=Option.map_eq_some_iff.1 hk;have hc:stC x=[.bool false,S_,S_]:=by unfold stC;rw[a0]
 refine⟨?_,?_,?_⟩
 .rw[aX w gs (k*3) _ _ (0,0) hs];have:=dq (k:=0) hx (by omega);rw[hc]at this;simpa using this
 .rw[aX w gs (k*3+1) _ _ (0,0) hs];have:=dq (k:=1) hx (by omega);rw[hc]at this;simpa using this
 .rw[aX w gs (k*3+2) _ _ (0,0) hs];have:=dq (k:=2) hx (by omega);rw[hc]at this;simpa using this
theorem kt (W:World) (n:Int) (c:UInt8) (hc:(c.toNat:Int)=n) (g:Nat) (hg:W.heap.size=g):BtB (W.alloc (.cells #[.int .u8 n] 5)) 0 (.slice (some ⟨g,0,none⟩) 1 1) [c]:=by
 subst hg;have h:=BtB.lit W 0 (Nat.zero_le _) [c] (by simp);simp only[aP,List.map_cons,List.map_nil,dM,hc]at h;exact h
theorem wE (gA:Nat) (t:List St) (w:World) (hA:StB w gA t) (ht:pr t):
  Calls prog 37 #[.agg #[.slice (some ⟨gA,0,none⟩) t.length t.length]] w λen w'=>en= .returned (.string ⟨(dY t).toArray⟩)/\B_ w w':=by
 have hl:=ht.1;have h0:=aO w (.cells #[.slice (some ⟨gA,0,none⟩) t.length t.length] 65);have h8:B_ w (w.alloc (.cells #[.slice (some ⟨gA,0,none⟩) t.length t.length] 65)):=ag _ _ _
 go_in
 go_wp2_with fail;have hE:=BtB.empty (w.alloc (.cells #[.slice (some ⟨gA,0,none⟩) t.length t.length] 65));have f6:=(ag (λ_=>False) (w.alloc (.cells #[.slice (some ⟨gA,0,none⟩) t.length t.length] 65)) (.cells #[] 5)).block w.heap.size (ae h0) (λh=>h);have g5:=h8.trans (ag (λ_=>False) (w.alloc (.cells #[.slice (some ⟨gA,0,none⟩) t.length t.length] 65)) (.cells #[] 5));rw[h0]at f6;have i7:((w.alloc (.cells #[.slice (some ⟨gA,0,none⟩) t.length t.length] 65))).heap.size=w.heap.size+1:=by simp
 rw[i7]at hE;revert hE f6 g5;generalize ((w.alloc (.cells #[.slice (some ⟨gA,0,none⟩) t.length t.length] 65)).alloc (.cells #[] 5))=W;intro hE f6 g5;clear h0 h8 i7
 go_loopg [3,4] t.length (λmm ss ks wr=> ∃(k:Nat) (ao:Option Addr) (cap:Nat) (s:L_),ss= .slice ao s.length cap/\BtB wr (w.heap.size+1) (.slice ao s.length cap) s/\s.length<=200*k/\ks= .int .i64 k/\k<=t.length/\k+mm<=t.length/\t.length<=k+mm/\B_ w wr/\wr.heap[w.heap.size]?=some (.cells #[.slice (some ⟨gA,0,none⟩) t.length t.length] 65)/\Hid ((t.take k).flatMap rT=s))
 case atStart=>exact⟨0,_,0,[],rfl,hE,by simp,rfl,by omega,by omega,by omega,g5,f6,rfl⟩
 case round=>
  obtain⟨k,ao,cap,s,rfl,hO,n0,rfl,m3,k0,m4,b0,f7,HA⟩:=hrel;clear k0;have i1:=hA.off b0 (λh=>h) (λ_ _ _ h=>h);have i4:=ae f7;have l4:=b0.size;have c0:=ce0 f7
  by_cases hlt:k<t.length
  .have k3:(k:Int)<(t.length:Int):=by omega
   obtain⟨o,ho⟩: ∃o,t[k]=o:=⟨_,rfl⟩;have a4:=aH hlt;rw[ho]at a4;have alt:gA<wr.heap.size:=by obtain⟨l,h,_⟩:=i1;exact ae h
   have HT:Hid ((t.take (k+1)).flatMap rT=s++rT o):=by
    show _=_
    rw[List.take_add_one,a4,List.flatMap_append,HA.out];simp
   cases o with
   |none=>
    obtain⟨q0,q1,q2⟩:=i1.unk a4;clear a4 ho HA;have b9:B_ wr (wr.alloc (.cells #[.bool false,S_,S_] 117)):=ag _ _ _;have b2:=(hO.but b9 (λ_ _ h=>h)).but (ag (λ_=>False) _ (.cells #[.int .u8 63] 5)) (λ_ _ h=>h);have e6:=kt (wr.alloc (.cells #[.bool false,S_,S_] 117)) 63 63 rfl (wr.heap.size+1) (by simp);have b3:=ay hO;have e8:=aW hO;obtain⟨S2,a7⟩: ∃S2,s++ [63]=S2:=⟨_,rfl⟩;have f0:S2.length<=200*k+1:=by rw[<-a7];simp;omega
    have b4:=hid a7;clear a7;go_wp2_with (at_builtin;refine bD rfl _ _ rfl (w.heap.size+1) 0 _ _ s [63] S2 b4 rfl rfl b2 e6 (by omega) (by simp;omega) ?_);intro f8 b5 w2 c7 a6 _;have a3:But (λk'=>(Value.slice ao s.length cap).ownBlock=some k') wr w2:=((ag _ _ _).trans (ag _ _ _)).trans a6;have g3:B_ w w2:=b0.next a3 (λk' hk' h=>absurd (b3 k' h) (by omega));have e2:=(a3.block w.heap.size i4 (λh=>by have:=b3 _ h;omega)).trans f7;have l5:=a3.size;clear b9 b2 e6 a6 q0 q1 q2;have e7:=kt w2 44 44 rfl w2.heap.size rfl;have e1:=c7.but (ag (λ_=>False) _ (.cells #[.int .u8 44] 5)) (λ_ _ h=>h)
    have a5:=ay c7;obtain⟨S3,b6⟩: ∃S3,S2++ [44]=S3:=⟨_,rfl⟩;have h3:S3.length<=200*k+2:=by rw[<-b6];simp;omega
    have d6:=hid b6;clear b6;go_wp2_with (at_builtin;refine bD rfl _ _ rfl (w.heap.size+1) 0 _ _ S2 [44] S3 d6 rfl rfl e1 e7 (by omega) (by simp;omega) ?_);intro g0 cap3 w3 c9 a8 _;have a0:But (λk'=>(Value.slice f8 S2.length b5).ownBlock=some k') w2 w3:=(ag _ _ _).trans a8;have a6:B_ w w3:=g3.next a0 (λk' hk' h=>absurd (a5 k' h) (by omega));have f5:=(a0.block w.heap.size (ae e2) (λh=>by have:=a5 _ h;omega)).trans e2;clear e7 e1 a8;go_wp2_with fail
    go_roundg (t.length-(k+1))
    case measure=>omega
    case rel=>exact⟨k+1,g0,cap3,S3,rfl,c9,by omega,by simp,by omega,by omega,by omega,a6,f5,hid (by rw[HT.out,<-d6.out,<-b4.out];simp[rT])⟩
   |some st=>
    obtain⟨st,lo⟩:=st;have m5:=ht.2 k st lo a4;obtain⟨a1,c1,a2,c2,z0,z1,z2,f3,f4⟩:=hA.known a4;have altw:gA<w.heap.size:=by obtain⟨l,h,_⟩:=hA;exact ae h
    have q0:=b0.kc z0 altw;have q1:=b0.kc z1 altw;have q2:=b0.kc z2 altw;have l3:=f3.but b0 (λ_ _ h=>h);have i6:=f4.but b0 (λ_ _ h=>h);have e9:=aW f4;clear z0 z1 z2 f3;clear a4 ho HA;have b9:B_ wr (wr.alloc (.cells #[.bool true,.slice a1 st.length c1,.slice a2 lo.length c2] 117)):=ag _ _ _;have i3:=aO wr (.cells #[.bool true,.slice a1 st.length c1,.slice a2 lo.length c2] 117);have b2:=hO.but b9 (λ_ _ h=>h);have f2:=l3.but b9 (λ_ _ h=>h);have h4:=i6.but b9 (λ_ _ h=>h);have b3:=ay hO;have e8:=aW hO;obtain⟨S2,a7⟩: ∃S2,s++st=S2:=⟨_,rfl⟩;have f0:S2.length<=200*k+100:=by rw[<-a7];simp;omega
    have b4:=hid a7;clear a7;go_wp2_with (at_builtin;refine bD rfl _ _ rfl (w.heap.size+1) 0 _ _ s st S2 b4 rfl rfl b2 f2 (by omega) (by simp;omega) ?_);intro f8 b5 w2 c7 a6 _;have a3:But (λk'=>(Value.slice ao s.length cap).ownBlock=some k') wr w2:=(ag _ _ _).trans a6;have g3:B_ w w2:=b0.next a3 (λk' hk' h=>absurd (b3 k' h) (by omega));have e2:=(a3.block w.heap.size i4 (λh=>by have:=b3 _ h;omega)).trans f7;have b1:=(a6.block wr.heap.size (ae i3) (λh=>by have:=e8 _ h;omega)).trans i3;have h1:BtB w2 0 (.slice a2 lo.length c2) lo:=i6.but a3 (λg hg h=>by have:=e9 g hg;have:=b3 g h;omega)
    obtain⟨m0,m1,m2⟩:=ia b1;have l5:=a3.size;clear b2 a6 q0 q1 q2 f2 h4;have e7:=kt w2 124 124 rfl w2.heap.size rfl;have e1:=c7.but (ag (λ_=>False) _ (.cells #[.int .u8 124] 5)) (λ_ _ h=>h);have a5:=ay c7;obtain⟨S3,b6⟩: ∃S3,S2++ [124]=S3:=⟨_,rfl⟩;have h3:S3.length<=200*k+101:=by rw[<-b6];simp;omega
    have d6:=hid b6;clear b6;go_wp2_with (at_builtin;refine bD rfl _ _ rfl (w.heap.size+1) 0 _ _ S2 [124] S3 d6 rfl rfl e1 e7 (by omega) (by simp;omega) ?_);intro g0 cap3 w3 c9 a8 _;have a0:But (λk'=>(Value.slice f8 S2.length b5).ownBlock=some k') w2 w3:=(ag _ _ _).trans a8;have a6:B_ w w3:=g3.next a0 (λk' hk' h=>absurd (a5 k' h) (by omega));have f5:=(a0.block w.heap.size (ae e2) (λh=>by have:=a5 _ h;omega)).trans e2;have e3:=(a0.block wr.heap.size (ae b1) (λh=>fH c7 b1 (by decide) h)).trans b1;have h2:BtB w3 0 (.slice a2 lo.length c2) lo:=h1.but a0 (λg hg h=>by have:=e9 g hg;have:=a5 g h;omega)
    have n1:=a0.size;have e4:=ay c9;clear e7 e1 a8 m0 m1 m2;obtain⟨m0,m1,m2⟩:=ia e3;have j7:=ae e3;obtain⟨S4,g6⟩: ∃S4,S3++lo=S4:=⟨_,rfl⟩;have k9:S4.length<=200*k+106:=by rw[<-g6];simp;omega
    have h5:=hid g6;clear g6;go_wp2_with (at_builtin;refine bD rfl _ _ rfl (w.heap.size+1) 0 _ _ S3 lo S4 h5 rfl rfl c9 h2 (by omega) (by omega) ?_);intro j1 g1 w4 h9 g4 _;have j3:B_ w w4:=a6.next g4 (λk' hk' h=>absurd (e4 k' h) (by omega));have i2:=(g4.block w.heap.size (ae f5) (λh=>by have:=e4 _ h;omega)).trans f5;have n2:=g4.size;have e5:=ay h9;clear m0 m1 m2;have i5:=kt w4 44 44 rfl w4.heap.size rfl;have i0:=h9.but (ag (λ_=>False) _ (.cells #[.int .u8 44] 5)) (λ_ _ h=>h);obtain⟨S5,g7⟩: ∃S5,S4++ [44]=S5:=⟨_,rfl⟩;have l0:S5.length<=200*k+107:=by rw[<-g7];simp;omega
    have h6:=hid g7;clear g7;go_wp2_with (at_builtin;refine bD rfl _ _ rfl (w.heap.size+1) 0 _ _ S4 [44] S5 h6 rfl rfl i0 i5 (by omega) (by simp;omega) ?_);intro j2 g2 w5 j4 h7 _;have e0:But (λk'=>(Value.slice j1 S4.length g1).ownBlock=some k') w4 w5:=(ag _ _ _).trans h7;have a8:B_ w w5:=j3.next e0 (λk' hk' h=>absurd (e5 k' h) (by omega));have j5:=(e0.block w.heap.size (ae i2) (λh=>by have:=e5 _ h;omega)).trans i2;clear i5 i0 h7;go_wp2_with fail
    go_roundg (t.length-(k+1))
    case measure=>omega
    case rel=>exact⟨k+1,j2,g2,S5,rfl,j4,by omega,by simp,by omega,by omega,by omega,a8,j5,hid (by rw[HT.out,<-h6.out,<-h5.out,<-d6.out,<-b4.out];simp[rT])⟩
  .have k3: ¬(k:Int)<(t.length:Int):=by omega
   have f1:dY t=s++ [59]:=by rw[dY,<-HA.out,List.take_of_length_le (by omega)]
   obtain⟨S2,a7⟩: ∃S2,s++ [59]=S2:=⟨_,rfl⟩;have f0:S2.length<=200*k+1:=by rw[<-a7];simp;omega
   have j0:=hid (f1.trans a7);have b4:=hid a7;clear f1 HA a7;have e6:=kt wr 59 59 rfl wr.heap.size rfl;have b2:=hO.but (ag (λ_=>False) _ (.cells #[.int .u8 59] 5)) (λ_ _ h=>h);have b3:=ay hO;go_wp2_with (at_builtin;refine bD rfl _ _ rfl (w.heap.size+1) 0 _ _ s [59] S2 b4 rfl rfl b2 e6 (by omega) (by simp;omega) ?_);intro g0 cap3 w3 c9 a8 _;have a0:But (λk'=>(Value.slice ao s.length cap).ownBlock=some k') wr w3:=(ag _ _ _).trans a8;have a6:B_ w w3:=b0.next a0 (λk' hk' h=>absurd (b3 k' h) (by omega));have l6:=ij c9;clear e6 b2 a8;go_wp2_with fail;exact du (.string ⟨S2.toArray⟩) results37 rfl rfl ⟨by rw[j0.out],a6⟩
theorem uN {s:ByteArray} {im:Img} (h:dQ s= .ok im):WfI im:=by
 unfold dQ at h
 by_cases hb:2000<s.size
 .rw[if_pos hb]at h;cases h
 rw[if_neg hb]at h
 cases hr:ec s with
 |error j=>rw[hr]at h;cases h
 |ok im'=>
  rw[hr]at h;simp only at h
  split at h
  .cases h
  .cases h
   exact mC (by omega) hr
theorem p9 (s:ByteArray) (w:World) (hmax:s.size<=maxLen) (e p:Nat) (h: ∀w,Calls prog 36 #[.string s] w λen w'=>B_ w w'/\en= .returned (.agg #[.int .i64 e,.int .i64 p,.pointer none,S_])):
  Calls prog 19 #[.string s] w λen w'=>en= .returned (.tuple #[.string ⟨#[]⟩,.int .i64 e])/\B_ w w':=by
 have HK:=hid h;clear h
 go_in
 go_wp2_with fail;refine(HK.out w).mono ?_;rintro en w1 ⟨a3,rfl⟩;go_wp2_with fail;have a1:B_ w1 (w1.alloc (.cells #[.int .i64 e,.int .i64 p,.pointer none,S_] 60)):=ag _ _ _;have a0:=aO w1 (.cells #[.int .i64 e,.int .i64 p,.pointer none,S_] 60);revert a1 a0;generalize (w1.alloc (.cells #[.int .i64 e,.int .i64 p,.pointer none,S_] 60))=W;intro a1 a0;obtain⟨k0,k1,k2,k3⟩:=eR a0;have a5:=ae a0;have a4:=a3.trans a1
 go_loopg [5,6] 0 (λmm ss is wr=>ss= .string ⟨#[]⟩/\is= .int .i64 0/\wr=W)
 case atStart=>exact⟨rfl,rfl,rfl⟩
 case round=>
  obtain⟨rfl,rfl,a6⟩:=hrel;subst a6;go_wp2_with fail;have a2:B_ wr wr.drew:=aD _ _;refine dv (B_ wr) 4 ?_;refine dg [1,2,0] ?_
  iterate 3 (refine dw (v:=?_) rfl a2 ?_ ?_;rotate_left;(focus (intro wS h;have q0:=(h.kc k0 a5);clear h;go_simp;try rfl));dsimp only[Act.put];try simp only[cH])
  refine aG (k:=3) rfl ?_;intro KS hKS;go_simp;refine hKS.out _ _ (λ_=>a2) ?_;clear hKS KS;refine aG (k:=4) rfl ?_;intro KS hKS;go_simp;refine hKS.out _ _ nofun ?_;clear hKS KS;refine dl rfl ?_;go_wp2_with fail;exact cW (v:= .tuple #[.string ⟨#[]⟩,.int .i64 e]) (by simp[results,results19,go_sem]) rfl ⟨rfl,a4.trans a2⟩
theorem zh (s:ByteArray) (w:World) (hmax:s.size<=maxLen) (ts:List (List St)) (hsh: ∀t∈ts,pr t) (hl7:ts.length<=7)
  (h: ∀w,Calls prog 36 #[.string s] w λen w'=>B_ w w'/\ ∃g ao cap l,en= .returned (.agg #[.int .i64 0,.int .i64 0,.pointer (some ⟨g,0,none⟩),.slice ao (List.length l) cap])/\l.map (·.2)=ts/\iu w' w.heap.size (.slice ao l.length cap) l):
  Calls prog 19 #[.string s] w λen w'=>en= .returned (.tuple #[.string ⟨(ts.flatMap dY).toArray⟩,.int .i64 0])/\B_ w w':=by
 have HK:=hid h;clear h
 go_in
 go_wp2_with fail;refine(HK.out w).mono ?_;rintro en w1 ⟨e0,g,ao,cap,l,rfl,a1,e7⟩
 have f2:l.length<=7:=by
  have:l.length=ts.length:=by rw[<-a1];simp
  omega
 have d6:Hid (∀p∈l,pr p.2):=hid (λp hp=>hsh p.2 (by rw[<-a1];exact List.mem_map_of_mem hp));have b3:Hid ((l.map (·.2)).flatMap dY=ts.flatMap dY):=hid (by rw[a1]);obtain⟨R,a8⟩: ∃R,ts.flatMap dY=R:=⟨_,rfl⟩;clear hsh a1 HK hl7;go_wp2_with fail;have a5:B_ w1 (w1.alloc (.cells #[.int .i64 0,.int .i64 0,.pointer (some ⟨g,0,none⟩),.slice ao l.length cap] 60)):=ag _ _ _;have b1:=aO w1 (.cells #[.int .i64 0,.int .i64 0,.pointer (some ⟨g,0,none⟩),.slice ao l.length cap] 60);revert a5 b1;generalize (w1.alloc (.cells #[.int .i64 0,.int .i64 0,.pointer (some ⟨g,0,none⟩),.slice ao l.length cap] 60))=W
 intro a5 b1;have c7:=e7.but a5;have e2:=e0.trans a5
 go_loopg [5,6] l.length (λmm ss ks wr=> ∃(k:Nat) (s:L_),ss= .string ⟨s.toArray⟩/\s.length<=20001*k/\ks= .int .i64 k/\k<=l.length/\k+mm<=l.length/\l.length<=k+mm/\B_ W wr/\Hid (((l.take k).map (·.2)).flatMap dY=s))
 case atStart=>exact⟨0,[],rfl,by simp,rfl,by omega,by omega,by omega,But.refl _ _,rfl⟩
 case round=>
  obtain⟨k,s',rfl,f3,rfl,f0,e5,f1,a4,HA⟩:=hrel;clear e5;have b5:=a4.kp b1;obtain⟨k0,k1,k2,k3⟩:=eR b5;have b2:=ae b5
  by_cases a1:k<l.length
  .have e6:(k:Int)<(l.length:Int):=by omega
   have a6:=aH a1;obtain⟨p,b6⟩: ∃p,l[k]=p:=⟨_,rfl⟩;have a2:l[k]∈l:=cN a1;rw[b6]at a6 a2;obtain⟨gp,tp⟩:=p;obtain⟨gq,e4,e8,e9,a0⟩:=aF (aj c7.1 a4 (λ_ _ h=>h)) (by omega);subst e4;have q0:wr.cell? ⟨gq,k,none⟩=some (.slice (some ⟨gp,0,none⟩) tp.length tp.length):=a0 _ _ (by simp[jS,a6]);have e3:StB wr gp tp:=(c7.2 _ a2).off a4 (λh=>h) (λ_ _ _ h=>h);have b9:=d6.out _ a2;have c9:=rV b9
   have HT:Hid (((l.take (k+1)).map (·.2)).flatMap dY=s'++dY tp):=by
    show _=_
    rw[List.take_add_one,a6,List.map_append,List.flatMap_append,HA.out];simp
   clear a0 a6 b6 HA;have b4:=hid (λ(wx:World) (h:B_ wr wx)=>wE gp tp wx (e3.off h (λh=>h) (λ_ _ _ h=>h)) b9);go_wp2_with fail;refine(b4.out wr (But.refl _ _)).mono ?_;rintro en w3 ⟨rfl,e1⟩;revert HT c9;generalize dY tp=wt;intro c9 HT;have n1: ¬9223372036854775807<s'.length+wt.length:=by omega
   clear q0 k0 k1 k2 k3 b4;go_wp2_with fail
   go_roundg (l.length-(k+1))
   case measure=>omega
   case rel=>exact⟨k+1,s'++wt,congrArg Value.string (fW _ _),by simp;omega,by simp,by omega,by omega,by omega,a4.trans e1,HT.out⟩
  .have e6: ¬(k:Int)<(l.length:Int):=by omega
   have a3:s'=R:=by rw[<-a8,<-b3.out,<-HA.out,List.take_of_length_le (by omega)]
   rw[<-a8]at a3;have a7:=hid a3;clear HA b3 a3 a8;go_wp2_with fail;have b0:B_ wr wr.drew:=aD _ _;refine dv (B_ wr) 4 ?_;refine dg [1,2,0] ?_
   iterate 3 (refine dw (v:=?_) rfl b0 ?_ ?_;rotate_left;(focus (intro wS h;have q0:=(h.kc k0 b2);clear h;go_simp;try rfl));dsimp only[Act.put];try simp only[cH])
   refine aG (k:=3) rfl ?_;intro KS hKS;go_simp;refine hKS.out _ _ (λ_=>b0) ?_;clear hKS KS;refine aG (k:=4) rfl ?_;intro KS hKS;go_simp;refine hKS.out _ _ nofun ?_;clear hKS KS;refine dl rfl ?_;go_wp2_with fail;exact cW (v:= .tuple #[.string ⟨s'.toArray⟩,.int .i64 0]) (by simp[results,results19,go_sem]) rfl ⟨by rw[a7.out],(e2.trans a4).trans b0⟩
theorem wF (s:ByteArray) (w:World) (hmax:s.size<=maxLen):
  Calls prog 19 #[.string s] w λen w'=>en= .returned (.tuple #[.string ⟨(rU s).1.toArray⟩,.int .i64 (rU s).2])/\B_ w w':=by
 have a0:=λw=>kr s w hmax
 unfold rU
 cases hl:dQ s with
 |error e=>
  obtain⟨e,p⟩:=e;exact p9 s w hmax e p (λw=>(a0 w).mono (λen w' h=>⟨h.1,by have:=h.2;unfold kJ at this;rw[hl]at this;exact this⟩))
 |ok im=>
  simp only
  cases ht:ff im 0 im.zq with
  |error k=>exact p9 s w hmax 4 k (λw=>(a0 w).mono (λen w' h=>⟨h.1,by have:=h.2;unfold kJ at this;rw[hl]at this;simp only[ht]at this;exact this⟩))
  |ok ts=>
   have hW:WfI im:=uN hl;have hm:=yl ht;refine zh s w hmax ts (λt htt=> ?_) (by rw[hm.1];exact hW.nb) (λw=>(a0 w).mono (λen w' h=>⟨h.1,?_⟩))
   .obtain⟨b,a2,a3⟩:=hm.2 t htt;have a1:=hW.bod b a2;exact(nG hW a1 a3).short a1.len.2 a1.loc.1
   .have:=h.2;unfold kJ at this;rw[hl]at this;simp only[ht]at this;obtain⟨g,ao,cap,l,h1,h2,h3,_⟩:=this;exact⟨g,ao,cap,l,h1,h2,h3⟩
end
end Go.Proofs.YtpfkkmacakjmbaaGreatDoor
