import Derived.Test.YtpfkkmacakjmbaaGreatDoorP19
set_option maxRecDepth 100000
set_option maxHeartbeats 6400000
set_option linter.unusedSimpArgs false
set_option linter.unusedVariables false
namespace Go.Proofs.YtpfkkmacakjmbaaGreatDoor
section
open Go Go.RowKit Sp
attribute [local go_sem ↓] Go.wp_at_zero Go.wp_at_succ
theorem TbV.apart {w:World} {base:Nat} {v:Value} {bs:List ba} (h:TbV w base v bs) {g e:Nat} {cur:Array Value} (hh:w.heap[g]?=some (.cells cur e)) (hne:e≠115): ¬v.ownBlock=some g:=by
 obtain⟨l,h1,_⟩:=h;exact eb h1 hh hne
theorem TbV.ge {w:World} {base:Nat} {v:Value} {bs:List ba} (h:TbV w base v bs): ∀g,v.ownBlock=some g→base≤g:=by
 obtain⟨l,h1,_⟩:=h;exact aj h1
def xF (s:ByteArray) (SC:List Cls) (ms:List Sig) (cs:List bz) (bs:List ba) (j:Nat) (bad:Bool):Prop:=
 ((bad||decide (j<s.size))=true∧dp s= .error j)∨((bad||decide (j<s.size))=false∧ ∃im,dp s= .ok im∧im.classes=SC∧cs=SC.map toX∧im.sigs=ms∧bs=im.bodies.map (aW ms))
theorem va (s:ByteArray) (w:World) (hs:s.size≤2000):
  Calls Tryz.prog 63 #[.string s] w fun en w'=>But (fun _=>False) w w'∧ ∃g p,en= .returned (.tuple #[.pointer (some ⟨g,0,none⟩),.int .i64 p])∧w.heap.size≤g∧
   ((∃j,dp s= .error j∧p=(j:Int)∧w'.heap[g]?=some (.cells #[.slice none 0 0,.slice none 0 0,.slice none 0 0] 109))∨(p= -1∧ ∃im,dp s= .ok im∧dE w' g im)):=by
 go_in
 go_wp2_with fail;refine(rv s w).mono ?_;rintro en w0 ⟨rfl,o6,t4,p5⟩;have f4:w.heap.size<w.heap.size+1:=by omega
 go_wp2_with fail;refine(gW w.heap.size (w.heap.size+1) s _ _ w0 hs p5 f4 (by omega)).mono ?_;rintro en w1 ⟨rfl,f7,v0,cs,j0,b0,p6,l1,f5,q0⟩;obtain⟨a0,cap0,s4⟩:=l1.len;subst s4;have t5:=f7.size;have g4:But (fun k=>k=w.heap.size∨w.heap.size+1≤k) w w1:=(o6.mono (fun _ _ h=>h.elim)).trans f7;clear o6 f7 p5;go_wp2_with fail;refine(gX w.heap.size (w.heap.size+1) s j0 b0 a0 cs.length cap0 _ w1 hs f5 p6 f4 (by omega)).mono ?_;rintro en w2 ⟨rfl,i0,v1,ms,j1,b1,p8,p4,n7,n1⟩;obtain⟨a1,cap1,s5⟩:=aq p4;subst s5;have p2:=l1.but i0 (fun g e cur _ _ hg h=>by omega);have t6:=i0.size;have k9:But (fun k=>k=w.heap.size∨w.heap.size+1≤k) w w2:=g4.next i0 (fun _ _ h=>Or.inl h)
 clear i0 p6 l1 g4
 --the classes,if there are any
 obtain⟨SC,i4,f6⟩: ∃SC:List Cls,SC.length=cs.length∧((b0=false∧ ∃SC',di s 4 [] 0= .ok (SC',j0)∧SC'=SC∧cs=SC.map toX∧WfC SC)∨(b0=true∧di s 4 [] 0= .error j0)):=by
  rcases q0 with⟨h1,SC,h2,h3,h4⟩ |h
  ·exact⟨SC,by rw[h3,List.length_map],Or.inl ⟨h1,SC,h2,rfl,h3,h4⟩⟩
  ·exact⟨List.replicate cs.length ⟨-1,[]⟩,by simp,Or.inr h⟩
 have e7:b1=false→cs=SC.map toX∧WfC SC:=by
  intro h;rcases n1 with⟨_,h2⟩ | ⟨h2,_⟩
  ·rcases f6 with⟨_,_,_,_,h3⟩ | ⟨h3,_⟩
   ·exact h3
   ·rw[h3]at h2;simp[kw]at h2
  ·rw[h]at h2;cases h2
 obtain⟨R,i3⟩: ∃R,(if b1=true then .error j1 else eG s SC ms 6 [] j1)=R:=⟨_,rfl⟩
 have e2:s8 (b1=false) s SC ms R 6 [] j1 b1:=by
  cases b1 with
  |true=>exact Or.inr ⟨rfl,i3.symm⟩
  |false=>exact Or.inl ⟨rfl,rfl,[],rfl,by simp,rfl,i3⟩
 have k3:=hid e2;have i6:=hid e7;have e5:=hid (fun bs l X j2 j3 j4 b2 b3 b4=>xE (X:=X) (bs:=bs) (l:=l) (j2:=j2) (j3:=j3) (j4:=j4) (b2:=b2) (b3:=b3) (b4:=b4) f6 i4 n1 i3);have r1:=hid i4;rw[←i4]at p8 p2 f5;clear e2 e7 q0 n1 f6 i3 i4;go_wp2_with fail
 go_loopg [] 7 (fun mm wr=> ∃(a2:Option Addr) (a7 j:Nat) (bad' mn:Bool) (bs:List ba) (x0 x1 x2 x3 x4:Value),w.heap.size+1≤wr.heap.size∧But (fun k=>k=w.heap.size∨w.heap.size+1≤k) w wr∧XrB wr w.heap.size s j bad' (.slice a0 SC.length cap0) (.slice a1 ms.length cap1) ⟨.slice a2 bs.length a7,x0,x1,x2,x3,x4,mn⟩∧TcV wr (w.heap.size+1) (.slice a0 SC.length cap0) cs∧TmV wr (w.heap.size+1) (.slice a1 ms.length cap1) ms∧TbV wr (w.heap.size+1) (.slice a2 bs.length a7) bs∧Hid ((mn=false∧bs.length≤6∧ ∃m1,mm=m1+1∧s8 (b1=false) s SC ms R m1 bs j bad')∨(mn=true∧xF s SC ms cs bs j bad')))
 case atStart=>exact⟨none,0,j1,b1,false,[],_,_,_,_,_,by omega,k9,p8,p2,p4,⟨[],du _ _ _ _,rfl,by simp⟩,hid (Or.inl ⟨rfl,by simp,6,rfl,k3.out⟩)⟩
 case round=>
  obtain⟨a2,a7,j,bad',mn,bs,x0,x1,x2,x3,x4,v2,l0,f8,l4,i2,i5,h9⟩:=hrel
  by_cases hstop:mn=true∨bad'=true
  ·have h0:xF s SC ms cs bs j bad':=by
    rcases h9.out with⟨h1,_,m1,_,hb⟩ | ⟨_,h⟩
    ·have r8:bad'=true:=by
      rcases hstop with h|h
      ·rw[h1]at h;cases h
      ·exact h
     subst r8;rcases hb with⟨h,_⟩ | ⟨_,h⟩
     ·cases h
     ·have:=e5.out bs [] ⟨0,0,0,[],[]⟩ j j j true true true (Or.inr ⟨rfl,h⟩) (Or.inr ⟨rfl,by simp[dU]⟩) (Or.inr ⟨rfl,by simp[fh]⟩);rcases this with⟨_,h⟩ | ⟨h,_⟩
      ·exact Or.inl ⟨by simp,h⟩
      ·simp at h
    ·exact h
   have HF:=hid h0;have e3:=hid (ja w.heap.size s j bad' _ _ _ wr f8 hstop);clear h0 h9 e5 k3 i6;go_wp2_with fail;refine e3.out.mono ?_;rintro en w3 ⟨rfl,k,rfl⟩;clear e3 hstop;go_wp2_with fail;refine(lz w.heap.size s j bad' _ _ _ (wr.drewN k) (f8.drewN k)).mono ?_;rintro en w4 ⟨a8,q2⟩;have d6:But (fun _=>False) w w4:=((l0.next (But.drewN (fun _=>False) wr k) (fun _ _ h=>h.elim)).next a8 (fun _ _ h=>h.elim)).mono (fun k hk h=>by omega);have q7:w.heap.size≤(wr.drewN k).heap.size:=by show w.heap.size≤wr.heap.size;omega
   have i1:But (fun _=>False) wr w4:=(But.drewN _ _ _).trans a8;unfold As at q2;rcases q2 with⟨hb,g,hg,rfl,s0⟩ | ⟨hb,rfl⟩
   ·have k0:Hid (dp s= .error j):=by
     rcases HF.out with⟨_,h⟩ | ⟨h,_⟩
     ·exact hid h
     ·rw[hb]at h;cases h
    clear HF;go_wp2_with fail;exact bodyPost_ret (v:= .tuple #[.pointer (some ⟨g,0,none⟩),.int .i64 j]) (by simp[results,Tryz.results63,go_sem]) rfl ⟨d6,g,j,rfl,by omega,Or.inl ⟨j,k0.out,rfl,s0⟩⟩
   ·have r5:=f8.lt
    have k0:Hid (∃im,dp s= .ok im∧dE w4 w.heap.size im):=by
     rcases HF.out with⟨h,_⟩ | ⟨_,im,s3,n4,n5,h5,n6⟩
     ·rw[hb]at h;cases h
     ·have f0:=l4.but i1 (fun _ _ _ _ _ _ h=>h);have g5:=i2.but i1 (fun _ _ _ _ _ _ h=>h);have e6:=i5.but i1 (fun _ _ _ _ _ _ h=>h);have e4:=f8.but i1 (fun h=>h);refine hid ⟨im,s3,?_,?_,?_⟩
      ·rw[n4,←n5];exact f0.tx e4.c0 e4.lt
      ·rw[h5];exact g5.tx e4.c1 e4.lt
      ·rw[h5,←n6];exact e6.tx e4.c2 e4.lt
    clear HF;go_wp2_with fail;exact bodyPost_ret (v:= .tuple #[.pointer (some ⟨w.heap.size,0,none⟩),.int .i64 (-1)]) (by simp[results,Tryz.results63,go_sem]) rfl ⟨d6,w.heap.size,-1,rfl,Nat.le_refl _,Or.inr ⟨rfl,k0.out⟩⟩
  ·have s2:mn=false:=by cases mn;rfl;exact absurd (Or.inl rfl) hstop
   have r4:bad'=false:=by cases bad';rfl;exact absurd (Or.inr rfl) hstop
   subst s2 r4;obtain⟨_,t1,m1,t3,f7⟩:=h9.out.resolve_right (fun h=>by cases h.1);have h8:=hid f7;clear f7;clear hstop h9 k3
   by_cases hgo:bs.length<6∧pk s j≠59
   ·obtain⟨q3,o0⟩:=hgo;obtain⟨hG,BS,p0,q5,r3,q4⟩:=h8.out.next f5 q3 o0;obtain⟨g7,q6⟩:=i6.out hG;have o5:=hid q4;have q9:=hid g7;have r2:=hid q6;have e3:=hid (jb w.heap.size (w.heap.size+1) s j a0 a2 SC.length cap0 bs.length a7 _ x0 x1 x2 x3 x4 wr ms BS (BS.map (aW ms)) rfl f5 n7 r3 (fun b hb=>Or.inr (q5 b hb)) hs f8 i2 (by rw[←p0];exact i5) f4 q3 o0);clear o0 q4 p0 q5 g7 q6 h8;go_wp2_with fail;refine e3.out.mono ?_;rintro en w4 ⟨a8,rfl,i7⟩;obtain⟨c,m,r,al,capl,lo,j4,b6,e4,l6,s1,e6⟩:=i7;clear e3;have f0:=l4.but a8 (fun g e cur _ _ hg h=>by omega);have g5:=i2.but a8 (fun g e cur _ _ hg h=>by omega)
    have f2:=i5.but a8 (fun g e cur _ _ hg h=>by omega);have d6:But (fun k=>k=w.heap.size∨w.heap.size+1≤k) w w4:=l0.next a8 (fun _ _ h=>Or.inl h);have q7:=a8.size;have e0:BtB w4 (w.heap.size+1) (.slice al lo.length capl) lo:=World.ownsRow.mono l6 (by omega);have o4:=hid (o5.out c m r lo j4 b6 e6);clear e6 o5;have g3:=hid (ly w.heap.size (w.heap.size+1) s j4 b6 SC a0 a1 al ms.length lo.length cap0 cap1 capl _ w4 (Or.inr ⟨r2.out,by rw[←q9.out];exact f0⟩) f5 n7 (by omega) hs e4 rfl f4);go_wp2_with fail;refine g3.out.mono ?_;rintro en w5 ⟨c7,j7⟩;obtain⟨ai,capi,items,j5,a5,m5,rfl,m4,l5,n3,g6,h7⟩:=j7
    have g2:=hid (iI.fin g6 h7);have l2:=f0.but c7 (fun g e cur _ _ hg h=>by omega);have m2:=g5.but c7 (fun g e cur _ _ hg h=>by omega);have a4:=f2.but c7 (fun g e cur _ _ hg h=>by omega);have m0:=e0.but c7 (fun g hg h=>by have:=aj e0 g hg;omega);have s6:=c7.size;clear g6 h7 g3;have g1:=hid (fw w.heap.size (w.heap.size+1) w4.heap.size s j5 a5 false _ _ _ a2 a7 bs ⟨c,m,r,lo,items⟩ al ai capl capi w5 (by omega) n3 hs m4 a4 m0 l5 f4 (by omega) (by omega));go_wp2_with fail;refine g1.out.mono ?_;rintro en w6 ⟨rfl,a3,a6,e8,t0,n0,f3⟩;clear g1
    obtain⟨m',t2,p1⟩:=o4.out ⟨c,m,r,lo,items⟩ (tkP s 46 j5 a5).1 (tkP s 46 j5 a5).2 (by
     rcases g2.out with⟨h1,is,h2,h3⟩ |h
     ·exact Or.inl ⟨h1,is,h2,by rw[h3]⟩
     ·exact Or.inr h)
    have q8:=hid p1;have n2:=a4.ge
    have l3:=l2.but a3 (fun g e cur hh he hg h=>by
     rcases h with h|h
     ·omega
     ·exact a4.apart hh (by rcases he with he|he<;>(rw[he];decide)) h)
    have m3:=m2.but a3 (fun g e cur hh he hg h=>by
     rcases h with h|h
     ·omega
     ·exact a4.apart hh (by rw[he];decide) h)
    have e9:But (fun k=>k=w.heap.size∨w.heap.size+1≤k) w w6:=(d6.next c7 (fun _ _ h=>Or.inl h)).next a3 (fun k hk h=>by
     rcases h with h|h
     ·exact Or.inl h
     ·exact Or.inr (n2 k h))
    have s9:=a3.size;clear p1 o4 g2;go_wp2_with fail
    go_roundg (m'+1)
    case measure=>omega
    case rel=>exact⟨a6,e8,_,_,false,bs++ [⟨c,m,r,lo,items⟩],_,_,_,_,_,by omega,e9,n0,l3,m3,f3,hid (Or.inl ⟨rfl,by simp;omega,m',rfl,q8.out⟩)⟩
   ·have e1: ¬bs.length<6∨pk s j=59:=by
     by_cases h6:bs.length<6
     ·right
      by_cases hp:pk s j=59
      ·exact hp
      ·exact absurd ⟨h6,hp⟩ hgo
     ·exact Or.inl h6
    have g0:=hid (h8.out.fin (e1.imp id (fun h=>by simp[h])));have e3:=hid (jc w.heap.size s j a0 a2 SC.length cap0 bs.length a7 _ x0 x1 x2 x3 x4 wr f5 hs f8 e1);clear e1 hgo h8;obtain⟨TK,q1⟩: ∃TK,tkP s 59 j false=TK:=⟨_,rfl⟩;rw[q1]at g0 e3;obtain⟨j2,b2⟩:=TK;dsimp only at g0 e3;have o1:=hid (fun l X j3 j4 b3 b4=>e5.out bs l X j2 j3 j4 b2 b3 b4 g0.out)
    have o3:Hid (b2=true∨b1=false):=by
     rcases g0.out with⟨_,h,_⟩ | ⟨h,_⟩
     ·exact hid (Or.inr h)
     ·exact hid (Or.inl h)
    clear q1 g0 e5;go_wp2_with fail;refine e3.out.mono ?_;rintro en w4 ⟨a8,rfl,i7⟩;obtain⟨al,capl,lo,j4,b6,e4,l6,s1,e6⟩:=i7;clear e3;have f0:=l4.but a8 (fun g e cur _ _ hg h=>by omega);have g5:=i2.but a8 (fun g e cur _ _ hg h=>by omega);have f2:=i5.but a8 (fun g e cur _ _ hg h=>by omega);have d6:But (fun k=>k=w.heap.size∨w.heap.size+1≤k) w w4:=l0.next a8 (fun _ _ h=>Or.inl h);have q7:=a8.size;have e0:BtB w4 (w.heap.size+1) (.slice al lo.length capl) lo:=World.ownsRow.mono l6 (by omega);have f1:=e6;rw[r1.out]at f1;have o2:=hid (fun X j5 b5=>o1.out lo X j4 j5 b6 b5 f1)
    have p3:b6=true∨(WfC SC∧TcV w4 (w.heap.size+1) (.slice a0 SC.length cap0) (SC.map toX)):=by
     rcases o3.out with h|h
     ·left
      rcases e6 with⟨_,h2⟩ | ⟨h2,_⟩
      ·rw[h]at h2;simp[dU]at h2
      ·exact h2
     ·obtain⟨h1,h2⟩:=i6.out h;exact Or.inr ⟨h2,by rw[←h1];exact f0⟩
    have g3:=hid (ly w.heap.size (w.heap.size+1) s j4 b6 SC a0 a1 al ms.length lo.length cap0 cap1 capl _ w4 p3 f5 n7 (by omega) hs e4 rfl f4);clear e6 f1 o1 o3 p3;go_wp2_with fail;refine g3.out.mono ?_;rintro en w5 ⟨c7,j7⟩;obtain⟨ai,capi,items,j5,a5,m5,rfl,m4,l5,n3,g6,h7⟩:=j7;have g2:=hid (iI.fin g6 h7);have l2:=f0.but c7 (fun g e cur _ _ hg h=>by omega);have m2:=g5.but c7 (fun g e cur _ _ hg h=>by omega);have a4:=f2.but c7 (fun g e cur _ _ hg h=>by omega);have m0:=e0.but c7 (fun g hg h=>by have:=aj e0 g hg;omega);have s6:=c7.size;clear g6 h7 g3;have g1:=hid (fw w.heap.size (w.heap.size+1) w4.heap.size s j5 a5 true _ _ _ a2 a7 bs ⟨45,0,105,lo,items⟩ al ai capl capi w5 (by omega) n3 hs m4 a4 m0 l5 f4 (by omega) (by omega))
    go_wp2_with fail;refine g1.out.mono ?_;rintro en w6 ⟨rfl,a3,a6,e8,t0,n0,f3⟩;clear g1
    have r0:Hid (xF s SC ms cs (bs++ [⟨45,0,105,lo,items⟩]) (tkP s 46 j5 a5).1 (tkP s 46 j5 a5).2):=by
     refine hid (o2.out ⟨45,0,105,lo,items⟩ _ _ ?_);rcases g2.out with⟨h1,is,h2,h3⟩ |h
     ·exact Or.inl ⟨h1,is,h2,by rw[h3]⟩
     ·exact Or.inr h
    have n2:=a4.ge
    have l3:=l2.but a3 (fun g e cur hh he hg h=>by
     rcases h with h|h
     ·omega
     ·exact a4.apart hh (by rcases he with he|he<;>(rw[he];decide)) h)
    have m3:=m2.but a3 (fun g e cur hh he hg h=>by
     rcases h with h|h
     ·omega
     ·exact a4.apart hh (by rw[he];decide) h)
    have e9:But (fun k=>k=w.heap.size∨w.heap.size+1≤k) w w6:=(d6.next c7 (fun _ _ h=>Or.inl h)).next a3 (fun k hk h=>by
     rcases h with h|h
     ·exact Or.inl h
     ·exact Or.inr (n2 k h))
    have s9:=a3.size;clear o2 g2;go_wp2_with fail
    go_roundg 0
    case measure=>omega
    case rel=>exact⟨a6,e8,_,_,true,bs++ [⟨45,0,105,lo,items⟩],_,_,_,_,_,by omega,e9,n0,l3,m3,f3,hid (Or.inr ⟨rfl,r0.out⟩)⟩
end
section
open Go Go.RowKit Sp
theorem At {cs:List Cls} {gs:List Sig} {b:Bod} (h:WfB cs gs b) (hn:cs.length≤4):(b.cls= -1)∨eD b:=by
 rcases h.cls with⟨h1,_⟩ | ⟨h1,h2,h3,h4⟩
 ·exact Or.inl h1
 ·exact Or.inr ⟨h1,by omega,h3⟩
theorem xG {c:UInt8} {n:Nat} (h:aI n c=true) (hn:n≤4):c=UInt8.ofNat (65+(kl c).toNat):=by
 rw[←mO h hn]
 congr 2
 unfold kl;have:(UInt8.ofNat (65+(c.toNat-65)))=c:=mO h hn;rw[this];omega
theorem xH {n x:Nat} (h:x<n) (hn:n≤4):aI n (UInt8.ofNat (65+x))=true∧kl (UInt8.ofNat (65+x))=x:=by
 have hv:(UInt8.ofNat (65+x)).toNat=65+x:=by simp;omega
 constructor
 ·simp only[aI,hv,Bool.and_eq_true,decide_eq_true_eq];omega
 ·unfold kl;rw[hv];omega
theorem lA {cs:List Cls} {gs:List Sig} {BS:List Bod} (hw:WfC cs) (hn:cs.length≤4) (hB: ∀b∈BS,(b.cls= -1)∨eD b) (m:Nat):
  ∀(f f' x:Nat),x<cs.length→x<f→x<f'→fM (cs.map toX) (BS.map (aW gs)) m f (UInt8.ofNat (65+x))=cq cs BS m f' x:=by
 intro f
 induction f with
 |zero=>intro f' x _ h _;omega
 |succ f ih=>
  intro f' x hx h1 h2;obtain⟨g,rfl⟩: ∃g,f'=g+1:=⟨f'-1,by omega⟩;have hv:(UInt8.ofNat (65+x)).toNat=65+x:=by simp;omega
  have a0:=oz (gs:=gs) (m:=m) hB (x:=x) (by omega);rw[fM,if_neg (show¬(UInt8.ofNat (65+x)).toNat=45 by omega),a0,cq,if_neg (show¬(x:Int)<0 by omega)]
  split
  ·rfl
  ·obtain⟨hl,hk⟩:=xH hx hn;have hp:=kv hw hn hl;rw[hk]at hp;have a1:=cU hw (p:=(x:Int)) (by omega);rcases hp with⟨e1,e2⟩ | ⟨e1,e2,e3⟩
   ·rw[e2]
    have e4: ∀k,fM (cs.map toX) (BS.map (aW gs)) m k 45= -1:=by
     intro k
     cases k with
     |zero=>rfl
     |succ k=>rw[fM];simp
    have e5: ∀k,cq cs BS m k (bV cs x)= -1:=by
     intro k
     cases k with
     |zero=>rfl
     |succ k=>rw[cq,if_pos e1]
    rw[e4,e5]
   ·have e6:=xG e2 hn;rw[e3]at e6;rw[e6];have e7:((bV cs x).toNat:Int)=bV cs x:=by omega
    have e8:(bV cs x).toNat<cs.length:=by omega
    have:=ih g (bV cs x).toNat e8 (by omega) (by omega);rw[this,e7]
theorem xI {cs:List Cls} {gs:List Sig} {BS:List Bod} {x:Ins} {nl n:Nat} (hw:WfC cs) (hn:cs.length≤4) (hB: ∀b∈BS,(b.cls= -1)∨eD b) (hx:WfX cs gs.length nl x):eu (cs.map toX) (BS.map (aW gs)) n (bj x)=cw cs BS n x:=by
 unfold eu cw;have e1:(bj x).op=x.op:=rfl;have e2:(bj x).num=x.b:=rfl;rw[e1,e2]
 by_cases h1:x.op.toNat=106∨x.op.toNat=102
 ·rw[if_pos h1];have h9: ¬x.op.toNat=99:=by omega
  rcases h1 with h|h<;>simp[h]
 ·rw[if_neg h1];have a0:=not_or.1 h1
  by_cases h9:x.op.toNat=99
  ·rw[if_pos h9];have ha:=hx.cls (by omega)
   have e3:(bj x).cls=UInt8.ofNat (65+x.a):=by
    unfold bj;rw[if_pos (by omega)]
   rw[e3,List.length_map,lA hw hn hB x.b cs.length 5 x.a ha ha (by omega)];simp[h9]
  ·rw[if_neg h9];simp[h9,a0.1,a0.2]
theorem find?_map' {α β:Type} (f:α→β) (p:β→Bool): ∀l:List α,(l.map f).find? p=(l.find? (fun x=>p (f x))).map f:=by
 intro l
 induction l with
 |nil=>rfl
 |cons x l ih=>
  simp only[List.map_cons,List.find?_cons,ih]
  cases p (f x)<;>rfl
theorem find?_congr' {α:Type} {p q:α→Bool}: ∀{l:List α},(∀x∈l,p x=q x)→l.find? p=l.find? q:=by
 intro l
 induction l with
 |nil=>intro _;rfl
 |cons x l ih=>
  intro h;rw[List.find?_cons,List.find?_cons,h x (by simp),ih (fun y hy=>h y (by simp[hy]))]
theorem findSome?_map' {α β γ:Type} (f:α→β) (p:β→Option γ): ∀l:List α,(l.map f).findSome? p=l.findSome? (fun x=>p (f x)):=by
 intro l
 induction l with
 |nil=>rfl
 |cons x l ih=>simp only[List.map_cons,List.findSome?_cons,ih]
theorem findSome?_congr' {α γ:Type} {p q:α→Option γ}: ∀{l:List α},(∀x∈l,p x=q x)→l.findSome? p=l.findSome? q:=by
 intro l
 induction l with
 |nil=>intro _;rfl
 |cons x l ih=>
  intro h;rw[List.findSome?_cons,List.findSome?_cons,h x (by simp),ih (fun y hy=>h y (by simp[hy]))]
theorem zo {cs:List Cls} {gs:List Sig} {BS:List Bod} {c:List Ins} {nl:Nat} (hw:WfC cs) (hn:cs.length≤4) (hB: ∀b∈BS,(b.cls= -1)∨eD b) (hx: ∀x∈c,WfX cs gs.length nl x):ky (cs.map toX) (BS.map (aW gs)) (c.map bj)=unl cs BS c:=by
 unfold ky unl;rw[List.length_map,find?_map',find?_congr' (fun x hm=>xI hw hn hB (hx x hm)),Option.map_map]
 rfl
theorem xJ {im:Img} (hW:WfI im):((im.bodies.map (aW im.sigs)).findSome? fun x=>ky (im.classes.map toX) (im.bodies.map (aW im.sigs)) x.items)=im.bodies.findSome? (fun b=>unl im.classes im.bodies b.code):=by
 rw[findSome?_map'];refine findSome?_congr' (fun b hb=> ?_);exact zo hW.cls hW.nc (fun b hb=>At (hW.bod b hb) hW.nc) (hW.bod b hb).code
theorem oC (b:Nat) (im:Img) (w:World) (hW:WfI im) (hT:dE w b im):
  Calls Tryz.prog 104 #[.pointer (some ⟨b,0,none⟩)] w fun e w'=>e= .returned (.int .i64 (jT (im.bodies.findSome? (fun b=>unl im.classes im.bodies b.code))))∧But (fun _=>False) w w':=by
 rw[←xJ hW];refine iG b (im.classes.map toX) (im.bodies.map (aW im.sigs)) w (by rw[List.length_map];have:=hW.nc;omega) (by rw[List.length_map];have:=hW.nb;omega) ?_ hT.cls hT.bod;intro x hx;obtain⟨b,hb,rfl⟩:=List.mem_map.1 hx;have:=(hW.bod b hb).len.2;simp only[aW,List.length_map];omega
end
section
open Go Go.RowKit Sp
attribute [local go_sem ↓] Go.wp_at_zero Go.wp_at_succ
theorem te (b:Nat) (cs:List bz) (ms:List Sig) (p n:Nat) (k ans:UInt8) (w:World) {ap:Option Addr} {np cp:Nat} (hn:cs.length≤100) (hT:TxC w b cs):
  Calls Tryz.prog 140 #[.pointer (some ⟨b,0,none⟩),.agg #[.int .i64 p,.int .u8 112,.int .u8 k.toNat,.int .i64 n,.slice ap np cp],.int .u8 ans.toNat] w fun e w'=>But (fun _=>False) w w'∧ ∃v,e= .returned v∧BtB w' w.heap.size v [k,bH (bX cs k) n]:=by
 go_in
 go_wp2_with fail;have a2:But (fun _=>False) w (w.alloc (.cells #[.int .i64 p,.int .u8 112,.int .u8 k.toNat,.int .i64 n,.slice ap np cp] 219)):=But.alloc _ _ _;have a1:=heap_alloc_new w (.cells #[.int .i64 p,.int .u8 112,.int .u8 k.toNat,.int .i64 n,.slice ap np cp] 219);revert a2 a1;generalize (w.alloc (.cells #[.int .i64 p,.int .u8 112,.int .u8 k.toNat,.int .i64 n,.slice ap np cp] 219))=W;intro a2 a1;obtain⟨k0,k1,k2,k3,k4⟩:=bc a1;have gltW:=ae a1;have a6:=hid a1;clear a1;have a3:But (fun _=>False) W W.drew:=But.drew _ _;have a0:=hid (pB b cs k n W.drew hn ((hT.but a2).but a3));refine aB (But (fun _=>False) W) 9 (by kernel_rfl) ?_
 iterate 7 (refine aG (v:=?_) rfl (by kernel_rfl) (fun _ _ _ h=>h) rfl a3 ?_ ?_;rotate_left;(focus (intro wS h;have q0:=(h.kc k2 gltW);have q1:=(h.kc k3 gltW);clear h;go_simp;try rfl));dsimp only[Act.put];try simp only[aK])
 refine ag rfl (by kernel_rfl) ?_;intro KS hKS;go_simp;refine a0.out.mono ?_;rintro en wx ⟨rfl,a5⟩;rw[a5];clear a5 wx a0;refine hKS.out _ _ (fun _=>a3) ?_;clear hKS KS;obtain⟨z,a4⟩: ∃z,bH (bX cs k) n=z:=⟨_,rfl⟩;rw[a4];have HZ:=hid a4;clear a4;refine ag rfl (by kernel_rfl) ?_;intro KS hKS;go_simp;refine hKS.out _ _ (fun _=>a3.trans (But.alloc _ _ _)) ?_;clear hKS KS;refine ag rfl (by kernel_rfl) ?_;intro KS hKS;go_simp;refine hKS.out _ _ nofun ?_;clear hKS KS;refine aF rfl (by kernel_rfl) ?_;have hz:=a2.size;go_wp2_with fail;exact cB (.slice (some ⟨W.heap.size,0,none⟩) 2 2) Tryz.results140 rfl rfl ⟨a2.trans ((But.alloc _ _ _).trans (But.drew _ _)),_,rfl,by rw[HZ.out];exact BtB.but (BtB.lit W w.heap.size hz [k,z] (by simp)) (But.drew (fun _=>False) _) (fun _ _ h=>h)⟩
theorem vd (b:Nat) (cs:List bz) (ms:List Sig) (p n:Nat) (k ans:UInt8) (w:World) {ap:Option Addr} {np cp:Nat} (hm:ms.length≤100) (hM:TxM w b ms):
  Calls Tryz.prog 140 #[.pointer (some ⟨b,0,none⟩),.agg #[.int .i64 p,.int .u8 99,.int .u8 k.toNat,.int .i64 n,.slice ap np cp],.int .u8 ans.toNat] w fun e w'=>But (fun _=>False) w w'∧ ∃v,e= .returned v∧BtB w' w.heap.size v [k,(cC ms n).arg]:=by
 go_in
 go_wp2_with fail;have a2:But (fun _=>False) w (w.alloc (.cells #[.int .i64 p,.int .u8 99,.int .u8 k.toNat,.int .i64 n,.slice ap np cp] 219)):=But.alloc _ _ _;have a1:=heap_alloc_new w (.cells #[.int .i64 p,.int .u8 99,.int .u8 k.toNat,.int .i64 n,.slice ap np cp] 219);revert a2 a1;generalize (w.alloc (.cells #[.int .i64 p,.int .u8 99,.int .u8 k.toNat,.int .i64 n,.slice ap np cp] 219))=W;intro a2 a1;obtain⟨k0,k1,k2,k3,k4⟩:=bc a1;have gltW:=ae a1;have a7:=hid a1;clear a1;have a4:But (fun _=>False) W W.drew:=But.drew _ _;have a0:=hid (eS b ms n W.drew hm ((hM.but a2).but a4));refine aB (But (fun _=>False) W) 8 (by kernel_rfl) ?_
 iterate 5 (refine aG (v:=?_) rfl (by kernel_rfl) (fun _ _ _ h=>h) rfl a4 ?_ ?_;rotate_left;(focus (intro wS h;have q0:=(h.kc k2 gltW);have q1:=(h.kc k3 gltW);clear h;go_simp;try rfl));dsimp only[Act.put];try simp only[aK])
 refine ag rfl (by kernel_rfl) ?_;intro KS hKS;go_simp;refine a0.out.mono ?_;rintro en wx ⟨rfl,a6⟩;clear a0;have a3:=a4.trans a6;refine hKS.out _ _ (fun _=>a3) ?_;clear hKS KS;obtain⟨z,a5⟩: ∃z,cC ms n=z:=⟨_,rfl⟩;rw[a5];have HZ:=hid a5;clear a5;obtain⟨za,zr⟩:=z;dsimp only;refine ag rfl (by kernel_rfl) ?_;intro KS hKS;go_simp;refine hKS.out _ _ (fun _=>a3) ?_;clear hKS KS;refine ag rfl (by kernel_rfl) ?_;intro KS hKS;go_simp;refine hKS.out _ _ (fun _=>a3.trans (But.alloc _ _ _)) ?_;clear hKS KS;refine ag rfl (by kernel_rfl) ?_;intro KS hKS;go_simp;refine hKS.out _ _ nofun ?_;clear hKS KS;refine aF rfl (by kernel_rfl) ?_
 have hz:=a2.size;go_wp2_with fail;have a8:=a3.size;exact cB (.slice (some ⟨wx.heap.size,0,none⟩) 2 2) Tryz.results140 rfl rfl ⟨(a2.trans a3).trans (But.alloc _ _ _),_,rfl,by rw[HZ.out];exact BtB.lit wx w.heap.size (by omega) [k,za] (by simp)⟩
theorem jU (b:Nat) (cs:List bz) (ms:List Sig) (p n:Nat) (c k ans:UInt8) (w:World) {ap:Option Addr} {np cp:Nat} (hn:cs.length≤100) (hm:ms.length≤100) (hT:TxC w b cs) (hM:TxM w b ms):
  Calls Tryz.prog 140 #[.pointer (some ⟨b,0,none⟩),.agg #[.int .i64 p,.int .u8 c.toNat,.int .u8 k.toNat,.int .i64 n,.slice ap np cp],.int .u8 ans.toNat] w fun e w'=>But (fun _=>False) w w'∧ ∃v,e= .returned v∧BtB w' w.heap.size v (az cs ms c k n ans):=by
 by_cases h112:c.toNat=112
 ·have hc:c=112:=UInt8.toNat_inj.1 h112;subst hc;exact te b cs ms p n k ans w hn hT
 by_cases h99:c.toNat=99
 ·have hc:c=99:=UInt8.toNat_inj.1 h99;subst hc;exact vd b cs ms p n k ans w hm hM
 exact pD b cs ms p n c k ans w h112 h99
theorem eY {w:World} {g t:Nat} {x0 x1 x2:Value} (h:w.heap[g]?=some (.cells #[x0,x1,x2] t)):w.cell? ⟨g,0,none⟩=some x0∧w.cell? ⟨g,1,none⟩=some x1∧w.cell? ⟨g,2,none⟩=some x2:=by
 refine⟨?_,?_,?_⟩
 ·rw[cell_of_row w g 0 _ _ (0,0) h];rfl
 ·rw[cell_of_row w g 1 _ _ (0,0) h];rfl
 ·rw[cell_of_row w g 2 _ _ (0,0) h];rfl
theorem kB {ms:List Sig} {n:Nat} (h:n<ms.length):(cC ms n).arg=fW ms n∧(cC ms n).ret=dR ms n:=by
 unfold cC fW dR;rw[List.getElem?_eq_getElem h];exact⟨rfl,rfl⟩
theorem mR {x:Ins} (h:x.op.toNat=110∨x.op.toNat=120∨x.op.toNat=103∨x.op.toNat=112∨x.op.toNat=99):(bj x).cls=b8 x.a:=by unfold bj;rw[if_pos h];rfl
def eE (g:Nat) (im:Img):Value:=match im.bodies.findSome? (fun b=>unl im.classes im.bodies b.code)with
 |some q=> .agg #[.int .i64 3,.int .i64 q,.pointer none,.slice none 0 0]
 |none=> .agg #[.int .i64 0,.int .i64 0,.pointer (some ⟨g,0,none⟩),.slice none 0 0]
theorem oD (g j:Nat) (w:World):
  Calls Tryz.prog 64 #[.pointer (some ⟨g,0,none⟩),.int .i64 j] w fun en w'=>But (fun _=>False) w w'∧en= .returned (.agg #[.int .i64 2,.int .i64 j,.pointer none,.slice none 0 0]):=by
 have a1: ¬(j:Int)= -1:=by omega
 have e1:((j:Int)== -1)=false:=by rw[beq_eq_false_iff_ne];omega
 have e2:((j:Int)!= -1)=true:=by simp[bne,e1]
 go_in
 go_wp2_with fail;have h9:=heap_alloc_new w (.cells #[.int .i64 2,.int .i64 j,.pointer none,.slice none 0 0] 60);have a0:But (fun _=>False) w (w.alloc (.cells #[.int .i64 2,.int .i64 j,.pointer none,.slice none 0 0] 60)):=But.alloc _ _ _;revert h9 a0;generalize (w.alloc (.cells #[.int .i64 2,.int .i64 j,.pointer none,.slice none 0 0] 60))=w9;intro h9 a0;obtain⟨r0,r1,r2,r3⟩:=dD h9;exact bodyPost_ret (v:= .agg #[.int .i64 2,.int .i64 j,.pointer none,.slice none 0 0]) (by simp[results,Tryz.results64,go_sem,r0,r1,r2,r3]) rfl ⟨a0,rfl⟩
end
end Go.Proofs.YtpfkkmacakjmbaaGreatDoor
