import Derived.Test.YtpfkkmacakjmbaaGreatDoorP24
set_option maxRecDepth 100000
set_option maxHeartbeats 6400000
set_option linter.all false
namespace Go.Proofs.YtpfkkmacakjmbaaGreatDoor
open Proofs.Tryz
section
open Go Go.RowKit Sp
attribute [local go_sem ↓] eF eG
theorem sy {fn:Func} {R:Ending->World->Prop} {a:Act} {w:World} {c g:Nat} {a0 a1 a2 a3 x0 x1 x2 x3:Value} (hf:fn.results=#[.cell c 60]) (hd:a.defers=[]) (hc:a.tmps.getD c undef= .pointer (some ⟨g,0,none⟩)) (h:w.heap[g]?=some (.cells #[a0,a1,a2,a3] 60)) (hR: ∀w9,w9.heap[g]?=some (.cells #[x0,x1,x2,x3] 60)->But (· =g) w w9->R (.returned (.agg #[x0,x1,x2,x3])) w9):bodyPost prog fn R .ret a ((((w.setCell ⟨g,0,none⟩ x0).setCell ⟨g,1,none⟩ x1).setCell ⟨g,2,none⟩ x2).setCell ⟨g,3,none⟩ x3):=by
 have b:=fF h x0 x1 x2 x3;have r0:=ce0 b;have e:=ce1 b;have f:=ce2 b;have i:=ce3 b;refine cU (v:= .agg #[x0,x1,x2,x3]) ?_ hd (hR _ b (gQ w g x0 x1 x2 x3));have d:a.tmps[c]?.getD undef= .pointer (some ⟨g,0,none⟩):=by simpa using hc
 unfold qr at r0 e f i;simp[results,hf,d,go_sem,r0,e,f,i]
def ky (l:List (Nat×List St)):List Value:=l.map λp=> .slice (some ⟨p.1,0,none⟩) p.2.length p.2.length
def fV (w:World) (base:Nat) (v:Value) (l:List (Nat×List St)):Prop:=
 w.ownsRow base 65 1 v l.length (ky l)/\ ∀p∈l,StB w p.1 p.2
theorem fV.but {w w':World} {base:Nat} {v:Value} {l:List (Nat×List St)} (h:fV w base v l) (hb:B_ w w'):fV w' base v l:=
 ⟨ah h.1 hb (λ_ _ h=>h),λp hp=>(h.2 p hp).off hb (λh=>h) (λ_ _ _ h=>h)⟩
theorem fV.aside {w w':World} {base g:Nat} {v:Value} {l:List (Nat×List St)} {cur:Array Value} (h:fV w base v l) (hb:But (· =g) w w') (hg:w.heap[g]?=some (.cells cur 60)):fV w' base v l:=by
 have b: ∀k c e,w.heap[k]?=some (.cells c e)->e≠60-> ¬k=g:=by
  intro k c e a i f;rw[f,hg]at a;injection a with a;injection a with _ h2;exact i h2.symm
 refine⟨bz h.1 hb (λk c a _=>b k c _ a (by decide)),λp hp=>(h.2 p hp).off hb ?_ (λk c a=>b k c _ a (by decide))⟩;obtain⟨l',d,_⟩:=h.2 p hp;exact b _ _ _ d (by decide)
theorem AF:(prog.info? 65).map (λi=>(i.zero,i.size,i.bytes))=some (some (.agg #[S_]),1,24):=by kernel_rfl
def lr (s:ByteArray) (w:World) (en:Ending) (w':World):Prop:=
 match eZ s with
 | .error (e,p)=>en= .returned (.agg #[.int .i64 e,.int .i64 p,.pointer none,S_])
 | .ok im=>
  match eR im 0 im.zj with
  | .error k=>en= .returned (.agg #[.int .i64 4,.int .i64 k,.pointer none,S_])
  | .ok ts=> ∃g ao cap l,en= .returned (.agg #[.int .i64 0,.int .i64 0,.pointer (some ⟨g,0,none⟩),.slice ao (List.length l) cap])/\l.map (·.2)=ts/\fV w' w.heap.size (.slice ao l.length cap) l/\d9 w' g im
theorem d9.but {w w':World} {g:Nat} {im:Img} (h:d9 w g im) (hb:B_ w w'):d9 w' g im:=⟨h.cls.but hb,h.met.but hb,h.bod.but hb⟩
theorem d9.off {F:Nat->Prop} {w w':World} {g:Nat} {im:Img} (h:d9 w g im) (hb:But F w w') (hg: ¬F g) (hf: ∀k cur e,w.heap[k]?=some (.cells cur e)->(e=240\/e=243\/e=115\/e=219\/e=5)-> ¬F k):d9 w' g im:=by
 obtain⟨⟨v0,l,c,hl,i,hm,b⟩,⟨v1,d,_,a⟩,⟨v2,f,_,j⟩⟩:=h;refine⟨⟨v0,l,(hb.cell (p:=⟨g,0,none⟩) hl hg).trans c,aP hl hb.size,bz i hb (λk cur hh _=>hf k cur _ hh (by simp)),hm,λx hx=>bz (b x hx) hb (λk cur hh _=>hf k cur _ hh (by simp))⟩,⟨v1,(hb.cell (p:=⟨g,1,none⟩) hl hg).trans d,aP hl hb.size,bz a hb (λk cur hh _=>hf k cur _ hh (by simp))⟩,⟨v2,(hb.cell (p:=⟨g,2,none⟩) hl hg).trans f,aP hl hb.size,j.but hb (λk e cur hh he _=>hf k cur e hh (by rcases he with h|h|h<;>simp[h]))⟩⟩
theorem Cf (g:Nat) (im:Img) (w:World) (hW:WfI im) (hTX:d9 w g im):
  Calls prog 64 #[.pointer (some ⟨g,0,none⟩),.int .i64 (-1)] w λen w'=>B_ w w'/\en= .returned (ia g im):=by
 have f:B_ w (w.alloc (.cells #[.int .i64 0,.int .i64 0,.pointer none,S_] 60)):=ag _ _ _;have a:=bj w (.cells #[.int .i64 0,.int .i64 0,.pointer none,S_] 60)
 cases hfs:im.zj.findSome? (λb=>unl im.zq im.zj b.code)with
 |some q=>
  have n:((q:Int)== -1)=false:=by rw[fh];omega
  have B:((q:Int)!= -1)=true:=by simp[bne,n]
  have v: ¬(q:Int)= -1:=by omega
  have e:=r7 g im (w.alloc (.cells #[.int .i64 0,.int .i64 0,.pointer none,S_] 60)) hW (hTX.but f);rw[hfs]at e;simp only[mW]at e;rw[show ia g im= .agg #[.int .i64 3,.int .i64 q,.pointer none,S_]from by unfold ia;rw[hfs]];have c:=hid e;clear e hfs
  go_in
  go_wp2_with fail;revert f a c;generalize (w.alloc (.cells #[.int .i64 0,.int .i64 0,.pointer none,S_] 60))=W;intro f a c;have m:=ae a;refine c.out.mono ?_;rintro en w2 ⟨rfl,i⟩;have j:=f.trans i;have d:=(i.block w.heap.size m (λh=>h)).trans a;have l:=hid d;obtain⟨x,y,z,A⟩:=fm d;obtain⟨p,r,s,t⟩:=jI d;clear d a c;go_wp2_with fail;refine sy results64 rfl rfl l.out (λw9 h9 h9b=> ?_);exact⟨j.next h9b (λk hk h=>by omega),rfl⟩
 |none=>
  have e:=r7 g im (w.alloc (.cells #[.int .i64 0,.int .i64 0,.pointer none,S_] 60)) hW (hTX.but f);rw[hfs]at e;simp only[mW]at e;rw[show ia g im= .agg #[.int .i64 0,.int .i64 0,.pointer (some ⟨g,0,none⟩),S_]from by unfold ia;rw[hfs]];have c:=hid e;clear e hfs
  go_in
  go_wp2_with fail;revert f a c;generalize (w.alloc (.cells #[.int .i64 0,.int .i64 0,.pointer none,S_] 60))=W;intro f a c;have m:=ae a;refine c.out.mono ?_;rintro en w2 ⟨rfl,i⟩;have j:=f.trans i;have d:=(i.block w.heap.size m (λh=>h)).trans a;have l:=hid d;obtain⟨x,y,z,A⟩:=fm d;obtain⟨p,r,s,t⟩:=jI d;clear d a c;go_wp2_with fail;refine sy results64 rfl rfl l.out (λw9 h9 h9b=> ?_);exact⟨j.next h9b (λk hk h=>by omega),rfl⟩
def Fnd (w:World) (g:Nat) (e p t l:Value):Prop:=w.heap[g]?=some (.cells #[e,p,t,l] 60)
theorem kU (s:ByteArray) (w:World) (hmax:s.size<=maxLen):
  Calls prog 36 #[.string s] w λen w'=>B_ w w'/\lr s w en w':=by
 obtain⟨i0,n0,o0,o1,o2⟩:=info_parts AF;have f4:B_ w (w.alloc (.cells #[.int .i64 0,.int .i64 0,.pointer none,S_] 60)):=ag _ _ _;have b1:=bj w (.cells #[.int .i64 0,.int .i64 0,.pointer none,S_] 60)
 by_cases hbig:2000<s.size
 .have l6:2000<(s.size:Int):=by omega
  have hL:eZ s= .error (1,0):=by unfold eZ;rw[if_pos hbig]
  have HL:=hid hL;clear hbig hL
  go_in
  go_wp2_with fail;have D:=bj w (.cells #[.int .i64 1,.int .i64 0,.pointer none,S_] 60);have c:B_ w (w.alloc (.cells #[.int .i64 1,.int .i64 0,.pointer none,S_] 60)):=ag _ _ _;revert D c;generalize (w.alloc (.cells #[.int .i64 1,.int .i64 0,.pointer none,S_] 60))=w9;intro D c;obtain⟨r0,r1,r2,r3⟩:=fm D;exact cU (v:= .agg #[.int .i64 1,.int .i64 0,.pointer none,S_]) (by simp[results,results36,go_sem,r0,r1,r2,r3]) rfl ⟨c,by unfold lr;rw[HL.out];rfl⟩
 .have l6: ¬2000<(s.size:Int):=by omega
  go_in
  go_wp2_with fail;revert f4 b1;generalize (w.alloc (.cells #[.int .i64 0,.int .i64 0,.pointer none,S_] 60))=W;intro f4 b1;have m4:=ae b1;have e6:=hid b1;clear b1;refine(zS s W (by omega)).mono ?_;rintro en w1 ⟨i1,g,p,rfl,hg,m0⟩;have S:=f4.trans i1;have G:=hid ((i1.block w.heap.size m4 (λh=>h)).trans e6.out);obtain⟨j,L,rfl,i7⟩ | ⟨rfl,im,L,f8⟩:=m0
  .have HL:Hid (eZ s= .error (2,j)):=hid (by unfold eZ;rw[if_neg hbig,L]);clear L hbig e6;have g5:=ae i7;go_wp2_with fail;refine(r9 g j w1).mono ?_;rintro en w2 ⟨m,rfl⟩;have B:=S.trans m;have b3:=(m.block g g5 (λh=>h)).trans i7;obtain⟨t0,t1,t2⟩:=iD b3;have g6:=ae b3;have C:=hid (m.kp G.out);go_wp2_with fail;have a:B_ w2 (w2.alloc (.cells #[.int .i64 2,.int .i64 j,.pointer none,S_] 60)):=ag _ _ _;have d:=bj w2 (.cells #[.int .i64 2,.int .i64 j,.pointer none,S_] 60);revert a d;generalize (w2.alloc (.cells #[.int .i64 2,.int .i64 j,.pointer none,S_] 60))=w3
   intro a d;have n:=a.kp C.out;have u2:=a.kc t2 g6;clear t0 t1 t2;obtain⟨k0,k1,k2,k3⟩:=fm d;obtain⟨q0,q1,q2,q3⟩:=fm n;obtain⟨f0,f1,f2,f3⟩:=jI n;have E:=hid n;clear n C G d
   go_loopg [6] 0 (λmm is wr=>is= .int .i64 0/\wr=w3)
   case atStart=>exact⟨rfl,rfl⟩
   case round=>
    obtain⟨rfl,h6⟩:=hrel;subst h6;go_wp2_with fail;refine sy results36 rfl rfl E.out (λw9 D c=> ?_);exact⟨(B.trans a).next c (λk hk h=>by omega),by unfold lr;rw[HL.out];rfl⟩
  .have hW:=pW (by omega) L;have c6:=hid L;clear L e6;have I:=Cf g im w1 hW f8;obtain⟨vb,h5,e4,lb,hO,hm,hf⟩:=f8.bod;obtain⟨a2,j5,rfl⟩:=aA hO;have p6:lb.length=im.zj.length:=by have:=congrArg List.length hm;simpa using this
   have p8:=hW.nb;have HM:=hid hm;clear hm
   cases hfs:im.zj.findSome? (λb=>unl im.zq im.zj b.code)with
   |some q=>
    have HL:Hid (eZ s= .error (3,q)):=hid (by unfold eZ;rw[if_neg hbig,c6.out];simp only[hfs]);rw[show ia g im= .agg #[.int .i64 3,.int .i64 q,.pointer none,S_]from by unfold ia;rw[hfs]]at I;have M:=hid I;clear I hfs hbig c6;go_wp2_with fail;refine M.out.mono ?_;rintro en w2 ⟨m,rfl⟩;have B:=S.trans m;have C:=hid (m.kp G.out);clear M;go_wp2_with fail;have a:B_ w2 (w2.alloc (.cells #[.int .i64 3,.int .i64 q,.pointer none,S_] 60)):=ag _ _ _;have d:=bj w2 (.cells #[.int .i64 3,.int .i64 q,.pointer none,S_] 60);revert a d;generalize (w2.alloc (.cells #[.int .i64 3,.int .i64 q,.pointer none,S_] 60))=w3
    intro a d;have n:=a.kp C.out;have u2:=((m.trans a).cell (p:=⟨g,2,none⟩) e4 (λh=>h)).trans h5;have Z:0<(lb.length:Int)\/ ¬0<(lb.length:Int):=Decidable.em _;obtain⟨k0,k1,k2,k3⟩:=fm d;obtain⟨q0,q1,q2,q3⟩:=fm n;obtain⟨f0,f1,f2,f3⟩:=jI n;have E:=hid n;clear n C G d
    go_loopg [6] 0 (λmm is wr=>is= .int .i64 0/\wr=w3)
    case atStart=>exact⟨rfl,rfl⟩
    case round=>
     obtain⟨rfl,h6⟩:=hrel;subst h6;obtain Z|Z:=Z
     .go_wp2_with fail;refine sy results36 rfl rfl E.out (λw9 D c=> ?_);exact⟨(B.trans a).next c (λk hk h=>by omega),by unfold lr;rw[HL.out];rfl⟩
     .go_wp2_with fail;refine sy results36 rfl rfl E.out (λw9 D c=> ?_);exact⟨(B.trans a).next c (λk hk h=>by omega),by unfold lr;rw[HL.out];rfl⟩
   |none=>
    have HL:Hid (eZ s= .ok im):=hid (by unfold eZ;rw[if_neg hbig,c6.out];simp only[hfs]);rw[show ia g im= .agg #[.int .i64 0,.int .i64 0,.pointer (some ⟨g,0,none⟩),S_]from by unfold ia;rw[hfs]]at I;have M:=hid I;clear I hfs hbig c6;go_wp2_with fail;refine M.out.mono ?_;rintro en w2 ⟨m,rfl⟩;have B:=S.trans m;have C:=hid (m.kp G.out);clear M;go_wp2_with fail;have a:B_ w2 (w2.alloc (.cells #[.int .i64 0,.int .i64 0,.pointer (some ⟨g,0,none⟩),S_] 60)):=ag _ _ _;have d:=bj w2 (.cells #[.int .i64 0,.int .i64 0,.pointer (some ⟨g,0,none⟩),S_] 60);revert a d
    generalize (w2.alloc (.cells #[.int .i64 0,.int .i64 0,.pointer (some ⟨g,0,none⟩),S_] 60))=w3;intro a d;have n:=a.kp C.out;have A:=m.trans a;have a5:=B.trans a;have b2:g<w3.heap.size:=aP e4 A.size;have o3:w.heap.size<w2.heap.size:=ae C.out;have o4:=ae d;have E:=hid n;have a7:=f8.but A;have k9:=ah hO A (λ_ _ h=>h);have n8:=A.kc h5 e4;have a4:g≠w2.heap.size:=by have:=aP e4 m.size;omega
    have HF:Hid (∀x∈lb,BtB w3 0 x.2.1 x.1.zy/\ItB w3 0 x.2.2 x.1.items):=hid (λx hx=>⟨(hf x hx).1.but A (λ_ _ h=>h),ah (hf x hx).2 A (λ_ _ h=>h)⟩);clear n C G hf h5 hO
    go_loopg [6] lb.length (λmm ks wr=> ∃(k:Nat) (ao:Option Addr) (cap:Nat) (l:List (Nat×List St)),l.length=k/\ks= .int .i64 k/\k<=lb.length/\k+mm<=lb.length/\lb.length<=k+mm/\But (· =w2.heap.size) w3 wr/\Fnd wr w2.heap.size (.int .i64 0) (.int .i64 0) (.pointer (some ⟨g,0,none⟩)) (.slice ao k cap)/\fV wr w3.heap.size (.slice ao k cap) l/\Hid ((im.zj.take k).map (dP im)=(l.map (·.2)).map some))
    case atStart=>exact⟨0,none,0,[],rfl,rfl,by omega,by omega,by omega,cq _ _,d,⟨jd _ _ _ _,by simp⟩,hid rfl⟩
    case round=>
     obtain⟨k,ao,cap,l,j0,rfl,o6,n1,p5,y,e0,i3,HA⟩:=hrel;have O:=hid j0;clear j0 n1;have j2:=hid e0;have h0:=(y.block w.heap.size (ae E.out) (by omega)).trans E.out;have H:=hid h0;have g7:=ae h0;have f7:=ae e0;have h4:=(y.cell (p:=⟨g,2,none⟩) b2 a4).trans n8;have m3:g<wr.heap.size:=aP b2 y.size;obtain⟨k0,k1,k2,k3⟩:=fm e0;clear h0 e0
     by_cases hlt:k<lb.length
     .have n4:(k:Int)<(lb.length:Int):=by omega
      have hx:=aM hlt
      have e5: ∀g' cur e,w3.heap[g']?=some (.cells cur e)->e≠60-> ¬g'=w2.heap.size:=by
       intro g' cur e z he D;rw[D,d]at z;injection z with z;injection z with _ h2;exact he h2.symm
      have l4:=bz k9 y (λg' cur z _=>e5 g' cur _ z (by decide));obtain⟨gB,m1,m2,_,f⟩:=aL l4 (by omega);obtain⟨bd,e3⟩: ∃bd,im.zj[k]?=some bd:=⟨_,aM (by omega)⟩
      have i6:lb[k].1=aR im.zx bd:=by
       have h1:(lb.map (·.1))[k]?=some (aR im.zx bd):=by rw[HM.out,cg,e3];rfl
       rw[cg,hx]at h1;exact Option.some.inj h1
      obtain⟨b7,b5⟩:=HF.out _ (cS hlt);have J:BtB wr 0 lb[k].2.1 lb[k].1.zy:=bz b7 y (λg' cur z _=>e5 g' cur _ z (by decide));have F:ItB wr 0 lb[k].2.2 lb[k].1.items:=bz b5 y (λg' cur z _=>e5 g' cur _ z (by decide));clear b7 b5;have p0:wr.cell? ⟨gB,k*5,none⟩=some (.int .u8 lb[k].1.cls.toNat):=f _ _ (br (k:=0) hx (by omega));have p1:wr.cell? ⟨gB,k*5+1,none⟩=some (.int .i64 lb[k].1.meth):=f _ _ (br (k:=1) hx (by omega));have p2:wr.cell? ⟨gB,k*5+2,none⟩=some (.int .u8 lb[k].1.ans.toNat):=f _ _ (br (k:=2) hx (by omega));have p3:wr.cell? ⟨gB,k*5+3,none⟩=some lb[k].2.1:=f _ _ (br (k:=3) hx (by omega))
      have p4:wr.cell? ⟨gB,k*5+4,none⟩=some lb[k].2.2:=f _ _ (br (k:=4) hx (by omega));rw[i6]at p0 p1 p2 J F;obtain⟨al,capl,i5⟩:=aA J;obtain⟨ai,capi,i4⟩:=aA F;rw[i5]at p3 J;rw[i4]at p4 F;have b8:(aR im.zx bd).zy=bd.zy:=rfl;have b6:(aR im.zx bd).items=bd.code.map aJ:=rfl;rw[b8]at p3 J;rw[b6]at p4 F;simp only[bZ]at p4 F;have n9:WfB im.zq im.zx bd:=hW.bod _ (a9 e3);have e8:Hid (d9 wr g im):=hid (a7.off y a4 (λk' cur e z he=>e5 k' cur e z (by rcases he with h|h|h|h|h<;>(rw[h];decide))));have b9:=hid (λ(wx:World) (h:B_ wr wx)=>xQ g im bd (aR im.zx bd).cls (aR im.zx bd).meth al ai capl capi wx hW n9 (e8.out.but h) (J.but h (λ_ _ h=>h)) (ah F h (λ_ _ h=>h)))
      have h7:=hid e3;subst m1;obtain⟨X,hX⟩: ∃X,aR im.zx bd=X:=⟨_,rfl⟩;rw[hX]at p0 p1 p2 b9;clear hX i6 f hx i5 i4 b8 b6 e3 J F;unfold hdV at b9;go_wp2_with fail;refine(b9.out wr (cq _ _)).mono ?_;rintro en w4 ⟨Q,h3⟩;have a8:=i3.but Q;have b0:=(Q.block w.heap.size g7 (λh=>h)).trans H.out;have Y:=(Q.block w2.heap.size f7 (λh=>h)).trans j2.out;have j3:=hid b0;have m5:=ae b0;clear k0 k1 k2 k3;obtain⟨q0,q1,q2,q3⟩:=fm b0;obtain⟨f0,f1,f2,f3⟩:=jI b0;obtain⟨k0,k1,k2,k3⟩:=fm Y;obtain⟨l0,l1,l2,l3⟩:=jI Y;have j1:=hid Y;have f6:=ae Y;clear b9 p0 p1 p2 p3 p4 h4 b0 Y;obtain⟨hN,rfl⟩ | ⟨tb,gt,hN,rfl,n7,o5⟩:=h3
      .have e7:Hid (eR im 0 im.zj= .error k):=by
        have:=zu (i:=0) HA.out h7.out hN;refine hid ?_;rw[this];simp
       clear hN HA;go_wp2_with fail;have D:=fF j3.out (.int .i64 4) (.int .i64 k) (.pointer none) S_;have c:=gQ w4 w.heap.size (.int .i64 4) (.int .i64 k) (.pointer none) S_;unfold qr at D c;have P:But (· =w.heap.size) w4 (((((w4.setCell ⟨w.heap.size,0,none⟩ (.int .i64 4)).setCell ⟨w.heap.size,1,none⟩ (.int .i64 k)).setCell ⟨w.heap.size,2,none⟩ (.pointer none)).setCell ⟨w.heap.size,3,none⟩ S_).alloc (.cells #[S_] 65)):=c.trans (ag _ _ _);have e9:=((ag (λ_=>False) ((((w4.setCell ⟨w.heap.size,0,none⟩ (.int .i64 4)).setCell ⟨w.heap.size,1,none⟩ (.int .i64 k)).setCell ⟨w.heap.size,2,none⟩ (.pointer none)).setCell ⟨w.heap.size,3,none⟩ S_) (.cells #[S_] 65)).block w.heap.size (ae D) (λh=>h)).trans D
       clear D c;revert e9 P;generalize (((((w4.setCell ⟨w.heap.size,0,none⟩ (.int .i64 4)).setCell ⟨w.heap.size,1,none⟩ (.int .i64 k)).setCell ⟨w.heap.size,2,none⟩ (.pointer none)).setCell ⟨w.heap.size,3,none⟩ S_).alloc (.cells #[S_] 65))=w9;intro P e9;obtain⟨r0,r1,r2,r3⟩:=fm e9;have T:B_ w w9:=(((a5.next y (λk' hk' h=>by omega)).trans Q).next P (λk' hk' h=>by omega));exact cU (v:= .agg #[.int .i64 4,.int .i64 k,.pointer none,S_]) (by simp[results,results36,go_sem,r0,r1,r2,r3]) rfl ⟨T,by unfold lr;rw[HL.out];simp only[e7.out]⟩
      .have HN:=hid hN;clear hN;have e1:w4.ownsRow w3.heap.size 65 1 (.slice ao k cap) k (ky l):=by have:=a8.1;rw[O.out]at this;exact this
       have b4:=aC e1;have a6:But (· =w2.heap.size) w3 w4:=y.next Q (λ_ _ h=>h.elim);have q4:=a6.size;go_wp2_with (at_builtin;refine wpList_append_lies _ rfl _ _ _ rfl w3.heap.size 65 i0 _ 1 24 (by kernel_rfl) n0 o0 o1 o2 rfl (by omega) _ k (ky l) rfl ((e1.alloc _).alloc _) ⟨w4.heap.size+1,0,none⟩ 1 1 [.slice (some ⟨gt,0,none⟩) tb.length tb.length] rfl rfl (iO (cs:=#[.slice (some ⟨gt,0,none⟩) tb.length tb.length]) (t:=65) (fr:=(0,0)) (aw (by simp) _)) (by simp[Value.oneCell']) (by omega) (by unfold maxLen;omega) (by omega) (by simp;omega) (w4.heap.size+2) (by simp) ?_);intro gg r w5 a1 a0 l5 n5
       have e2:But (λk'=>(Value.slice ao k cap).ownBlock=some k') w4 w5:=((ag _ _ _).trans (ag _ _ _)).trans (bD a0);have d6:Fnd w5 w2.heap.size (.int .i64 0) (.int .i64 0) (.pointer (some ⟨g,0,none⟩)) (.slice ao k cap):=(e2.block w2.heap.size f6 (λh=>by have:=b4 _ h;omega)).trans j1.out;have f5:But (· =w2.heap.size) w3 w5:=a6.next e2 (λk' hk' h=>absurd (b4 k' h) (by omega))
       have a3: ∀p:Nat×List St,StB w4 p.1 p.2->StB w5 p.1 p.2:=by
        intro p hp;refine hp.off e2 ?_ (λk' cur hk' e=>gd e1 hk' (by decide) e);obtain⟨l',n6,_⟩:=hp;exact gd e1 n6 (by decide)
       have g2:fV w5 w3.heap.size (.slice (some ⟨gg,0,none⟩) (k+1) r) (l++ [(gt,tb)]):=by
        refine⟨?_,λp hp=> ?_⟩
        .unfold ky;rw[aV,O.out,List.map_append];exact a1
        .obtain hp|hp:=gH hp
         .exact a3 p (a8.2 p hp)
         .simp at hp;subst hp;exact a3 (gt,tb) n7
       have j4:Hid ((im.zj.take (k+1)).map (dP im)=((l++ [(gt,tb)]).map (·.2)).map some):=by
        show _=_
        obtain⟨n3,n2⟩:=bn h7.out;rw[kj n3,List.map_append,HA.out,n2];simp[HN.out]
       clear q0 q1 q2 q3 f0 f1 f2 f3 k0 k1 k2 k3 l0 l1 l2 l3 e2 a0 a1 l5;obtain⟨k0,k1,k2,k3⟩:=fm d6;obtain⟨l0,l1,l2,l3⟩:=jI d6;go_wp2_with fail;have i2:=aq w5 w2.heap.size 3 (.slice (some ⟨gg,0,none⟩) (k+1) r);have j7:Fnd (w5.setCell ⟨w2.heap.size,3,none⟩ (.slice (some ⟨gg,0,none⟩) (k+1) r)) w2.heap.size (.int .i64 0) (.int .i64 0) (.pointer (some ⟨g,0,none⟩)) (.slice (some ⟨gg,0,none⟩) (k+1) r):=bS w5 w2.heap.size 3 _ _ _ d6;have g3:fV (w5.setCell ⟨w2.heap.size,3,none⟩ (.slice (some ⟨gg,0,none⟩) (k+1) r)) w3.heap.size (.slice (some ⟨gg,0,none⟩) (k+1) r) (l++ [(gt,tb)]):=g2.aside i2 d6
       go_roundg (lb.length-(k+1))
       case measure=>omega
       case rel=>exact⟨k+1,_,r,l++ [(gt,tb)],by rw[aV,O.out];rfl,by simp,by omega,by omega,by omega,f5.trans i2,j7,g3,j4⟩
     .have n4: ¬(k:Int)<(lb.length:Int):=by omega
      have hk:k=im.zj.length:=by omega
      have e7:Hid (eR im 0 im.zj= .ok (l.map (·.2))):=hid (Bl (by
       have:=HA.out;rw[g8 (by omega)]at this;exact this))
      clear HA hk;obtain⟨q0,q1,q2,q3⟩:=fm H.out;obtain⟨f0,f1,f2,f3⟩:=jI H.out
      have g1:=a7.off y a4 (λk' cur e z he D=>by
       rw[D,d]at z;injection z with z;injection z with _ h2;rw[<-h2]at he;revert he
       decide)
      go_wp2_with fail;refine sy results36 rfl rfl H.out (λw9 D c=> ?_)
      have g0:d9 w9 g im:=g1.off c (by omega) (λk' cur e z he h8=>by
       rw[h8,H.out]at z;injection z with z;injection z with _ h2;rw[<-h2]at he;revert he
       decide)
      have g4:fV w9 w.heap.size (.slice ao l.length cap) l:=by
       have h1:=i3.aside c H.out;rw[O.out];exact⟨h1.1.mono (by omega),h1.2⟩
      have T:B_ w w9:=((a5.next y (λk' hk' h=>by omega)).next c (λk' hk' h=>by omega));exact⟨T,by unfold lr;rw[HL.out];simp only[e7.out];exact⟨g,ao,cap,l,by rw[O.out],rfl,g4,g0⟩⟩
theorem qP (s:ByteArray) (w:World) (hmax:s.size<=maxLen):
  Calls prog 18 #[.string s] w λen w'=>en= .returned (.tuple #[.int .i64 (jW s).1,.int .i64 (jW s).2])/\B_ w w':=by
 have key:Calls prog 36 #[.string s] w λen w'=>B_ w w'/\ ∃p ao cap n,en= .returned (.agg #[.int .i64 (jW s).1,.int .i64 (jW s).2,.pointer p,.slice ao n cap]):=by
  refine(kU s w hmax).mono ?_;rintro en w' ⟨r,a⟩;refine⟨r,?_⟩;unfold lr at a;unfold jW
  cases hl:eZ s with
  |error e=>
   rw[hl]at a;obtain⟨e,p⟩:=e;exact⟨_,_,_,_,a⟩
  |ok im=>
   rw[hl]at a;simp only at a⊢
   cases ht:eR im 0 im.zj with
   |error k=>rw[ht]at a;exact⟨_,_,_,_,a⟩
   |ok ts=>
    rw[ht]at a;obtain⟨g,ao,cap,l,q,_⟩:=a;exact⟨_,_,_,_,q⟩
 have i:=hid key;clear key;obtain⟨E,a⟩: ∃E,jW s=E:=⟨_,rfl⟩;rw[a]at i;rw[a];clear a;obtain⟨e,p⟩:=E;dsimp only at i⊢
 go_in
 go_wp2_with fail;refine i.out.mono ?_;rintro en w1 ⟨j,m,ao,cap,n,rfl⟩;go_wp2_with fail;have c:B_ w1 (w1.alloc (.cells #[.int .i64 e,.int .i64 p,.pointer m,.slice ao n cap] 60)):=ag _ _ _;have b:=bj w1 (.cells #[.int .i64 e,.int .i64 p,.pointer m,.slice ao n cap] 60);revert c b;generalize (w1.alloc (.cells #[.int .i64 e,.int .i64 p,.pointer m,.slice ao n cap] 60))=W;intro c b;obtain⟨t,k1,k2,k3⟩:=fm b;have f:=ae b;have d:B_ W W.drew:=aD _ _;refine dr (B_ W) 5 ?_;have fSA:=hid (λwS (h:(B_ W) wS)=>(And.intro (h.kc t f) (h.kc k1 f)))
 refine cW [2,3,0,1] ?_
 iterate 4 (refine dt (v:=?_) rfl d ?_ ?_;rotate_left;(focus (intro wS h;obtain⟨x,y⟩:=fSA.out wS h;clear h;go_simp;try rfl));dsimp only[Act.put];try simp only[bW])
 try clear fSA
 refine aG (k:=4) rfl ?_;intro KS hKS;go_simp;refine hKS.out _ _ (λ_=>d) ?_;clear hKS KS;refine aG (k:=5) rfl ?_;intro KS hKS;go_simp;refine hKS.out _ _ nofun ?_;clear hKS KS;refine dg rfl ?_;go_wp2_with fail;exact cU (v:= .tuple #[.int .i64 e,.int .i64 p]) (by simp[results,results18,go_sem]) rfl ⟨rfl,(j.trans c).trans d⟩
theorem Cg {s:ByteArray} {im:Img} (h:eZ s= .ok im):WfI im:=by
 unfold eZ at h
 by_cases hb:2000<s.size
 .rw[if_pos hb]at h;cases h
 rw[if_neg hb]at h
 cases hr:iv s with
 |error j=>rw[hr]at h;cases h
 |ok im'=>
  rw[hr]at h;simp only at h
  split at h
  .cases h
  .cases h
   exact pW (by omega) hr
theorem qQ (s:ByteArray) (w:World) (hmax:s.size<=maxLen) (e p:Nat) (h: ∀w,Calls prog 36 #[.string s] w λen w'=>B_ w w'/\en= .returned (.agg #[.int .i64 e,.int .i64 p,.pointer none,S_])):
  Calls prog 19 #[.string s] w λen w'=>en= .returned (.tuple #[.string ⟨#[]⟩,.int .i64 e])/\B_ w w':=by
 have j:=hid h;clear h
 go_in
 go_wp2_with fail;refine(j.out w).mono ?_;rintro en w1 ⟨d,rfl⟩;go_wp2_with fail;have b:B_ w1 (w1.alloc (.cells #[.int .i64 e,.int .i64 p,.pointer none,S_] 60)):=ag _ _ _;have a:=bj w1 (.cells #[.int .i64 e,.int .i64 p,.pointer none,S_] 60);revert b a;generalize (w1.alloc (.cells #[.int .i64 e,.int .i64 p,.pointer none,S_] 60))=W;intro b a;obtain⟨l,k1,k2,k3⟩:=fm a;have g:=ae a;have f:=d.trans b
 go_loopg [5,6] 0 (λmm ss is wr=>ss= .string ⟨#[]⟩/\is= .int .i64 0/\wr=W)
 case atStart=>exact⟨rfl,rfl,rfl⟩
 case round=>
  obtain⟨rfl,rfl,i⟩:=hrel;subst i;go_wp2_with fail;have c:B_ wr wr.drew:=aD _ _;refine dr (B_ wr) 4 ?_;refine cW [1,2,0] ?_
  iterate 3 (refine dt (v:=?_) rfl c ?_ ?_;rotate_left;(focus (intro wS h;have m:=(h.kc l g);clear h;go_simp;try rfl));dsimp only[Act.put];try simp only[bW])
  refine aG (k:=3) rfl ?_;intro KS hKS;go_simp;refine hKS.out _ _ (λ_=>c) ?_;clear hKS KS;refine aG (k:=4) rfl ?_;intro KS hKS;go_simp;refine hKS.out _ _ nofun ?_;clear hKS KS;refine dg rfl ?_;go_wp2_with fail;exact cU (v:= .tuple #[.string ⟨#[]⟩,.int .i64 e]) (by simp[results,results19,go_sem]) rfl ⟨rfl,f.trans c⟩
theorem AG (s:ByteArray) (w:World) (hmax:s.size<=maxLen) (ts:List (List St)) (hsh: ∀t∈ts,qg t) (hl7:ts.length<=7)
  (h: ∀w,Calls prog 36 #[.string s] w λen w'=>B_ w w'/\ ∃g ao cap l,en= .returned (.agg #[.int .i64 0,.int .i64 0,.pointer (some ⟨g,0,none⟩),.slice ao (List.length l) cap])/\l.map (·.2)=ts/\fV w' w.heap.size (.slice ao l.length cap) l):
  Calls prog 19 #[.string s] w λen w'=>en= .returned (.tuple #[.string ⟨(ts.flatMap d7).toArray⟩,.int .i64 0])/\B_ w w':=by
 have Q:=hid h;clear h
 go_in
 go_wp2_with fail;refine(Q.out w).mono ?_;rintro en w1 ⟨G,g,ao,cap,l,rfl,a,P⟩
 have a1:l.length<=7:=by
  have:l.length=ts.length:=by rw[<-a];simp
  omega
 have F:Hid (∀p∈l,qg p.2):=hid (λp hp=>hsh p.2 (by rw[<-a];exact List.mem_map_of_mem hp));have r:Hid ((l.map (·.2)).flatMap d7=ts.flatMap d7):=hid (by rw[a]);obtain⟨R,j⟩: ∃R,ts.flatMap d7=R:=⟨_,rfl⟩;clear hsh a Q hl7;go_wp2_with fail;have f:B_ w1 (w1.alloc (.cells #[.int .i64 0,.int .i64 0,.pointer (some ⟨g,0,none⟩),.slice ao l.length cap] 60)):=ag _ _ _;have n:=bj w1 (.cells #[.int .i64 0,.int .i64 0,.pointer (some ⟨g,0,none⟩),.slice ao l.length cap] 60);revert f n;generalize (w1.alloc (.cells #[.int .i64 0,.int .i64 0,.pointer (some ⟨g,0,none⟩),.slice ao l.length cap] 60))=W
 intro f n;have C:=P.but f;have I:=G.trans f
 go_loopg [5,6] l.length (λmm ss ks wr=> ∃(k:Nat) (s:L_),ss= .string ⟨s.toArray⟩/\s.length<=20001*k/\ks= .int .i64 k/\k<=l.length/\k+mm<=l.length/\l.length<=k+mm/\B_ W wr/\Hid (((l.take k).map (·.2)).flatMap d7=s))
 case atStart=>exact⟨0,[],rfl,by simp,rfl,by omega,by omega,by omega,cq _ _,rfl⟩
 case round=>
  obtain⟨k,s',rfl,a2,rfl,Z,M,a0,b,E⟩:=hrel;clear M;have z:=b.kp n;obtain⟨S,k1,k2,k3⟩:=fm z;have y:=ae z
  by_cases a:k<l.length
  .have O:(k:Int)<(l.length:Int):=by omega
   have i:=aM a;obtain⟨p,A⟩: ∃p,l[k]=p:=⟨_,rfl⟩;have d:l[k]∈l:=cS a;rw[A]at i d;obtain⟨gp,tp⟩:=p;obtain⟨gq,L,X,Y,c⟩:=aL (ah C.1 b (λ_ _ h=>h)) (by omega);subst L;have T:wr.cell? ⟨gq,k,none⟩=some (.slice (some ⟨gp,0,none⟩) tp.length tp.length):=c _ _ (by simp[ky,i]);have J:StB wr gp tp:=(C.2 _ d).off b (λh=>h) (λ_ _ _ h=>h);have B:=F.out _ d;have D:=th B
   have HT:Hid (((l.take (k+1)).map (·.2)).flatMap d7=s'++d7 tp):=by
    show _=_
    rw[List.take_add_one,i,List.map_append,List.flatMap_append,E.out];simp
   clear c i A E;have x:=hid (λ(wx:World) (h:B_ wr wx)=>xL gp tp wx (J.off h (λh=>h) (λ_ _ _ h=>h)) B);go_wp2_with fail;refine(x.out wr (cq _ _)).mono ?_;rintro en w3 ⟨rfl,H⟩;revert HT D;generalize d7 tp=wt;intro D HT;have n1: ¬9223372036854775807<s'.length+wt.length:=by omega
   clear T S k1 k2 k3 x;go_wp2_with fail
   go_roundg (l.length-(k+1))
   case measure=>omega
   case rel=>exact⟨k+1,s'++wt,congrArg Value.string (sO _ _),by simp;omega,by simp,by omega,by omega,by omega,b.trans H,HT.out⟩
  .have O: ¬(k:Int)<(l.length:Int):=by omega
   have e:s'=R:=by rw[<-j,<-r.out,<-E.out,g8 (by omega)]
   rw[<-j]at e;have q:=hid e;clear E r e j;go_wp2_with fail;have m:B_ wr wr.drew:=aD _ _;refine dr (B_ wr) 4 ?_;refine cW [1,2,0] ?_
   iterate 3 (refine dt (v:=?_) rfl m ?_ ?_;rotate_left;(focus (intro wS h;have T:=(h.kc S y);clear h;go_simp;try rfl));dsimp only[Act.put];try simp only[bW])
   refine aG (k:=3) rfl ?_;intro KS hKS;go_simp;refine hKS.out _ _ (λ_=>m) ?_;clear hKS KS;refine aG (k:=4) rfl ?_;intro KS hKS;go_simp;refine hKS.out _ _ nofun ?_;clear hKS KS;refine dg rfl ?_;go_wp2_with fail;exact cU (v:= .tuple #[.string ⟨s'.toArray⟩,.int .i64 0]) (by simp[results,results19,go_sem]) rfl ⟨by rw[q.out],(I.trans b).trans m⟩
theorem xR (s:ByteArray) (w:World) (hmax:s.size<=maxLen):
  Calls prog 19 #[.string s] w λen w'=>en= .returned (.tuple #[.string ⟨(te s).1.toArray⟩,.int .i64 (te s).2])/\B_ w w':=by
 have a:=λw=>kU s w hmax
 unfold te
 cases hl:eZ s with
 |error e=>
  obtain⟨e,p⟩:=e;exact qQ s w hmax e p (λw=>(a w).mono (λen w' h=>⟨h.1,by have:=h.2;unfold lr at this;rw[hl]at this;exact this⟩))
 |ok im=>
  simp only
  cases ht:eR im 0 im.zj with
  |error k=>exact qQ s w hmax 4 k (λw=>(a w).mono (λen w' h=>⟨h.1,by have:=h.2;unfold lr at this;rw[hl]at this;simp only[ht]at this;exact this⟩))
  |ok ts=>
   have d:WfI im:=Cg hl;have hm:=zD ht;refine AG s w hmax ts (λt htt=> ?_) (by rw[hm.1];exact d.nb) (λw=>(a w).mono (λen w' h=>⟨h.1,?_⟩))
   .obtain⟨b,f,i⟩:=hm.2 t htt;have c:=d.bod b f;exact(oH d c i).short c.len.2 c.loc.1
   .have:=h.2;unfold lr at this;rw[hl]at this;simp only[ht]at this;obtain⟨g,ao,cap,l,j,m,n,_⟩:=this;exact⟨g,ao,cap,l,j,m,n⟩
end
end Go.Proofs.YtpfkkmacakjmbaaGreatDoor
