import Derived.Test.YtpfkkmacakjmbaaGreatDoorP19
set_option maxRecDepth 100000
set_option maxHeartbeats 6400000
set_option linter.unusedSimpArgs false
set_option linter.unusedVariables false
namespace Go.Proofs.YtpfkkmacakjmbaaGreatDoor
section
open Go Go.RowKit Sp
attribute [local go_sem ↓] Go.wp_at_zero Go.wp_at_succ
theorem TbV.apart {w:World} {base:Nat} {v:Value} {bs:List cS} (h:TbV w base v bs) {g e:Nat} {cur:Array Value} (hh:w.heap[g]?=some (.cells cur e)) (hne:e≠115): ¬v.ownBlock=some g:=by
 obtain⟨l,h1,_⟩:=h;exact fp h1 hh hne
theorem TbV.ge {w:World} {base:Nat} {v:Value} {bs:List cS} (h:TbV w base v bs): ∀g,v.ownBlock=some g→base≤g:=by
 obtain⟨l,h1,_⟩:=h;exact ay h1
def wT (s:ByteArray) (SC:List Cls) (ms:List Sig) (cs:List bB) (bs:List cS) (j:Nat) (bad:Bool):Prop:=
 ((bad||decide (j<s.size))=true∧dC s= .error j)∨((bad||decide (j<s.size))=false∧ ∃im,dC s= .ok im∧im.classes=SC∧cs=SC.map toX∧im.sigs=ms∧bs=im.bodies.map (aN ms))
theorem uG (s:ByteArray) (w:World) (hs:s.size≤2000):
  Calls Tryz.prog 63 #[.string s] w fun en w'=>But (fun _=>False) w w'∧ ∃g p,en= .returned (.tuple #[.pointer (some ⟨g,0,none⟩),.int .i64 p])∧w.heap.size≤g∧
   ((∃j,dC s= .error j∧p=(j:Int)∧w'.heap[g]?=some (.cells #[.slice none 0 0,.slice none 0 0,.slice none 0 0] 109))∨(p= -1∧ ∃im,dC s= .ok im∧dk w' g im)):=by
 go_in
 go_wp2_with fail;refine(wQ s w).mono ?_;rintro en w0 ⟨rfl,o6,v3,p5⟩;have f6:w.heap.size<w.heap.size+1:=by omega
 go_wp2_with fail;refine(lG w.heap.size (w.heap.size+1) s _ _ w0 hs p5 f6 (by omega)).mono ?_;rintro en w1 ⟨rfl,f8,v0,cs,j0,b0,p6,l0,hcl,q1⟩;obtain⟨a0,cap0,s9⟩:=l0.len;subst s9;have v4:=f8.size;have g5:But (fun k=>k=w.heap.size∨w.heap.size+1≤k) w w1:=(o6.mono (fun _ _ h=>h.elim)).trans f8;clear o6 f8 p5;go_wp2_with fail;refine(lH w.heap.size (w.heap.size+1) s j0 b0 a0 cs.length cap0 _ w1 hs hcl p6 f6 (by omega)).mono ?_;rintro en w2 ⟨rfl,i1,v1,ms,j1,b1,q0,p4,n9,n3⟩;obtain⟨a1,cap1,t0⟩:=au p4;subst t0;have p2:=l0.but i1 (fun g e cur _ _ hg h=>by omega);have v5:=i1.size;have k3:But (fun k=>k=w.heap.size∨w.heap.size+1≤k) w w2:=g5.next i1 (fun _ _ h=>Or.inl h)
 clear i1 p6 l0 g5
 --the classes,if there are any
 obtain⟨SC,i5,f7⟩: ∃SC:List Cls,SC.length=cs.length∧((b0=false∧ ∃SC',dW s 4 [] 0= .ok (SC',j0)∧SC'=SC∧cs=SC.map toX∧WfC SC)∨(b0=true∧dW s 4 [] 0= .error j0)):=by
  rcases q1 with⟨h1,SC,h2,h3,h4⟩ |h
  ·exact⟨SC,by rw[h3,List.length_map],Or.inl ⟨h1,SC,h2,rfl,h3,h4⟩⟩
  ·exact⟨List.replicate cs.length ⟨-1,[]⟩,by simp,Or.inr h⟩
 have e8:b1=false→cs=SC.map toX∧WfC SC:=by
  intro h;rcases n3 with⟨_,h2⟩ | ⟨h2,_⟩
  ·rcases f7 with⟨_,_,_,_,h3⟩ | ⟨h3,_⟩
   ·exact h3
   ·rw[h3]at h2;simp[pR]at h2
  ·rw[h]at h2;cases h2
 obtain⟨R,i4⟩: ∃R,(if b1=true then .error j1 else eO s SC ms 6 [] j1)=R:=⟨_,rfl⟩
 have e3:sZ (b1=false) s SC ms R 6 [] j1 b1:=by
  cases b1 with
  |true=>exact Or.inr ⟨rfl,i4.symm⟩
  |false=>exact Or.inl ⟨rfl,rfl,[],rfl,by simp,rfl,i4⟩
 have k1:=hid e3;have i7:=hid e8;have e6:=hid (fun bs l X j2 j3 j4 b2 b3 b4=>wR (X:=X) (bs:=bs) (l:=l) (j2:=j2) (j3:=j3) (j4:=j4) (b2:=b2) (b3:=b3) (b4:=b4) f7 i5 n3 i4);have r2:=hid i5;rw[←i5]at q0 p2 hcl;clear e3 e8 q1 n3 f7 i4 i5;go_wp2_with fail
 go_loopg [] 7 (fun mm wr=> ∃(a2:Option Addr) (a7 j:Nat) (bad' mn:Bool) (bs:List cS) (x0 x1 x2 x3 x4:Value),w.heap.size+1≤wr.heap.size∧But (fun k=>k=w.heap.size∨w.heap.size+1≤k) w wr∧XrB wr w.heap.size s j bad' (.slice a0 SC.length cap0) (.slice a1 ms.length cap1) ⟨.slice a2 bs.length a7,x0,x1,x2,x3,x4,mn⟩∧TcV wr (w.heap.size+1) (.slice a0 SC.length cap0) cs∧TmV wr (w.heap.size+1) (.slice a1 ms.length cap1) ms∧TbV wr (w.heap.size+1) (.slice a2 bs.length a7) bs∧Hid ((mn=false∧bs.length≤6∧ ∃m1,mm=m1+1∧sZ (b1=false) s SC ms R m1 bs j bad')∨(mn=true∧wT s SC ms cs bs j bad')))
 case atStart=>exact⟨none,0,j1,b1,false,[],_,_,_,_,_,by omega,k3,q0,p2,p4,⟨[],cC _ _ _ _,rfl,by simp⟩,hid (Or.inl ⟨rfl,by simp,6,rfl,k1.out⟩)⟩
 case round=>
  obtain⟨a2,a7,j,bad',mn,bs,x0,x1,x2,x3,x4,v6,k9,g0,l5,i3,i6,i0⟩:=hrel
  by_cases hstop:mn=true∨bad'=true
  ·have h5:wT s SC ms cs bs j bad':=by
    rcases i0.out with⟨h1,_,m1,_,hb⟩ | ⟨_,h⟩
    ·have s0:bad'=true:=by
      rcases hstop with h|h
      ·rw[h1]at h;cases h
      ·exact h
     subst s0;rcases hb with⟨h,_⟩ | ⟨_,h⟩
     ·cases h
     ·have:=e6.out bs [] ⟨0,0,0,[],[]⟩ j j j true true true (Or.inr ⟨rfl,h⟩) (Or.inr ⟨rfl,by simp[gr]⟩) (Or.inr ⟨rfl,by simp[fT]⟩);rcases this with⟨_,h⟩ | ⟨h,_⟩
      ·exact Or.inl ⟨by simp,h⟩
      ·simp at h
    ·exact h
   have HF:=hid h5;have e4:=hid (nj w.heap.size s j bad' _ _ _ wr g0 hstop);clear h5 i0 e6 k1 i7;go_wp2_with fail;refine e4.out.mono ?_;rintro en w3 ⟨rfl,k,rfl⟩;clear e4 hstop;go_wp2_with fail;refine(rp w.heap.size s j bad' _ _ _ (wr.drewN k) (g0.drewN k)).mono ?_;rintro en w4 ⟨a8,q3⟩;have e0:But (fun _=>False) w w4:=((k9.next (But.drewN (fun _=>False) wr k) (fun _ _ h=>h.elim)).next a8 (fun _ _ h=>h.elim)).mono (fun k hk h=>by omega);have q8:w.heap.size≤(wr.drewN k).heap.size:=by show w.heap.size≤wr.heap.size;omega
   have i2:But (fun _=>False) wr w4:=(But.drewN _ _ _).trans a8;unfold Aw at q3;rcases q3 with⟨hb,g,hg,rfl,s1⟩ | ⟨hb,rfl⟩
   ·have k0:Hid (dC s= .error j):=by
     rcases HF.out with⟨_,h⟩ | ⟨h,_⟩
     ·exact hid h
     ·rw[hb]at h;cases h
    clear HF;go_wp2_with fail;exact bodyPost_ret (v:= .tuple #[.pointer (some ⟨g,0,none⟩),.int .i64 j]) (by simp[results,Tryz.results63,go_sem]) rfl ⟨e0,g,j,rfl,by omega,Or.inl ⟨j,k0.out,rfl,s1⟩⟩
   ·have r6:=g0.lt
    have k0:Hid (∃im,dC s= .ok im∧dk w4 w.heap.size im):=by
     rcases HF.out with⟨h,_⟩ | ⟨_,im,s4,n6,n7,h7,n8⟩
     ·rw[hb]at h;cases h
     ·have f2:=l5.but i2 (fun _ _ _ _ _ _ h=>h);have g6:=i3.but i2 (fun _ _ _ _ _ _ h=>h);have e7:=i6.but i2 (fun _ _ _ _ _ _ h=>h);have e5:=g0.but i2 (fun h=>h);refine hid ⟨im,s4,?_,?_,?_⟩
      ·rw[n6,←n7];exact f2.tx e5.c0 e5.lt
      ·rw[h7];exact g6.tx e5.c1 e5.lt
      ·rw[h7,←n8];exact e7.tx e5.c2 e5.lt
    clear HF;go_wp2_with fail;exact bodyPost_ret (v:= .tuple #[.pointer (some ⟨w.heap.size,0,none⟩),.int .i64 (-1)]) (by simp[results,Tryz.results63,go_sem]) rfl ⟨e0,w.heap.size,-1,rfl,Nat.le_refl _,Or.inr ⟨rfl,k0.out⟩⟩
  ·have s3:mn=false:=by cases mn;rfl;exact absurd (Or.inl rfl) hstop
   have r5:bad'=false:=by cases bad';rfl;exact absurd (Or.inr rfl) hstop
   subst s3 r5;obtain⟨_,t6,m1,v2,f8⟩:=i0.out.resolve_right (fun h=>by cases h.1);have h9:=hid f8;clear f8;clear hstop i0 k1
   by_cases hgo:bs.length<6∧pk s j≠59
   ·obtain⟨q4,o0⟩:=hgo;obtain⟨hG,BS,p0,q6,r4,q5⟩:=h9.out.next hcl q4 o0;obtain⟨h0,q7⟩:=i7.out hG;have o5:=hid q5;have r0:=hid h0;have r3:=hid q7;have e4:=hid (nk w.heap.size (w.heap.size+1) s j a0 a2 SC.length cap0 bs.length a7 _ x0 x1 x2 x3 x4 wr ms BS (BS.map (aN ms)) rfl hcl n9 r4 (fun b hb=>Or.inr (q6 b hb)) hs g0 i3 (by rw[←p0];exact i6) f6 q4 o0);clear o0 q5 p0 q6 h0 q7 h9;go_wp2_with fail;refine e4.out.mono ?_;rintro en w4 ⟨a8,rfl,i9⟩;obtain⟨c,m,r,al,capl,lo,j4,a9,e5,m2,s2,e7⟩:=i9;clear e4;have f2:=l5.but a8 (fun g e cur _ _ hg h=>by omega);have g6:=i3.but a8 (fun g e cur _ _ hg h=>by omega)
    have f4:=i6.but a8 (fun g e cur _ _ hg h=>by omega);have e0:But (fun k=>k=w.heap.size∨w.heap.size+1≤k) w w4:=k9.next a8 (fun _ _ h=>Or.inl h);have q8:=a8.size;have e1:BtB w4 (w.heap.size+1) (.slice al lo.length capl) lo:=World.ownsRow.mono m2 (by omega);have o4:=hid (o5.out c m r lo j4 a9 e7);clear e7 o5;have g4:=hid (l8 w.heap.size (w.heap.size+1) s j4 a9 SC a0 a1 al ms.length lo.length cap0 cap1 capl _ w4 (Or.inr ⟨r3.out,by rw[←r0.out];exact f2⟩) hcl n9 (by omega) hs e5 rfl f6);go_wp2_with fail;refine g4.out.mono ?_;rintro en w5 ⟨b9,j7⟩;obtain⟨ai,capi,items,j5,a5,m5,rfl,n1,m0,n5,g7,h8⟩:=j7
    have g3:=hid (jg.fin g7 h8);have l3:=f2.but b9 (fun g e cur _ _ hg h=>by omega);have m4:=g6.but b9 (fun g e cur _ _ hg h=>by omega);have a4:=f4.but b9 (fun g e cur _ _ hg h=>by omega);have m3:=e1.but b9 (fun g hg h=>by have:=ay e1 g hg;omega);have t3:=b9.size;clear g7 h8 g4;have g2:=hid (kW w.heap.size (w.heap.size+1) w4.heap.size s j5 a5 false _ _ _ a2 a7 bs ⟨c,m,r,lo,items⟩ al ai capl capi w5 (by omega) n5 hs n1 a4 m3 m0 f6 (by omega) (by omega));go_wp2_with fail;refine g2.out.mono ?_;rintro en w6 ⟨rfl,a3,a6,f0,t5,n2,f5⟩;clear g2
    obtain⟨m',t9,p1⟩:=o4.out ⟨c,m,r,lo,items⟩ (tkP s 46 j5 a5).1 (tkP s 46 j5 a5).2 (by
     rcases g3.out with⟨h1,is,h2,h3⟩ |h
     ·exact Or.inl ⟨h1,is,h2,by rw[h3]⟩
     ·exact Or.inr h)
    have q9:=hid p1;have n4:=a4.ge
    have l4:=l3.but a3 (fun g e cur hh he hg h=>by
     rcases h with h|h
     ·omega
     ·exact a4.apart hh (by rcases he with he|he<;>(rw[he];decide)) h)
    have n0:=m4.but a3 (fun g e cur hh he hg h=>by
     rcases h with h|h
     ·omega
     ·exact a4.apart hh (by rw[he];decide) h)
    have f1:But (fun k=>k=w.heap.size∨w.heap.size+1≤k) w w6:=(e0.next b9 (fun _ _ h=>Or.inl h)).next a3 (fun k hk h=>by
     rcases h with h|h
     ·exact Or.inl h
     ·exact Or.inr (n4 k h))
    have t4:=a3.size;clear p1 o4 g3;go_wp2_with fail
    go_roundg (m'+1)
    case measure=>omega
    case rel=>exact⟨a6,f0,_,_,false,bs++ [⟨c,m,r,lo,items⟩],_,_,_,_,_,by omega,f1,n2,l4,n0,f5,hid (Or.inl ⟨rfl,by simp;omega,m',rfl,q9.out⟩)⟩
   ·have e2: ¬bs.length<6∨pk s j=59:=by
     by_cases h6:bs.length<6
     ·right
      by_cases hp:pk s j=59
      ·exact hp
      ·exact absurd ⟨h6,hp⟩ hgo
     ·exact Or.inl h6
    have g1:=hid (h9.out.fin (e2.imp id (fun h=>by simp[h])));have e4:=hid (nw w.heap.size s j a0 a2 SC.length cap0 bs.length a7 _ x0 x1 x2 x3 x4 wr hcl hs g0 e2);clear e2 hgo h9;obtain⟨TK,q2⟩: ∃TK,tkP s 59 j false=TK:=⟨_,rfl⟩;rw[q2]at g1 e4;obtain⟨j2,b2⟩:=TK;dsimp only at g1 e4;have o1:=hid (fun l X j3 j4 b3 b4=>e6.out bs l X j2 j3 j4 b2 b3 b4 g1.out)
    have o3:Hid (b2=true∨b1=false):=by
     rcases g1.out with⟨_,h,_⟩ | ⟨h,_⟩
     ·exact hid (Or.inr h)
     ·exact hid (Or.inl h)
    clear q2 g1 e6;go_wp2_with fail;refine e4.out.mono ?_;rintro en w4 ⟨a8,rfl,i9⟩;obtain⟨al,capl,lo,j4,a9,e5,m2,s2,e7⟩:=i9;clear e4;have f2:=l5.but a8 (fun g e cur _ _ hg h=>by omega);have g6:=i3.but a8 (fun g e cur _ _ hg h=>by omega);have f4:=i6.but a8 (fun g e cur _ _ hg h=>by omega);have e0:But (fun k=>k=w.heap.size∨w.heap.size+1≤k) w w4:=k9.next a8 (fun _ _ h=>Or.inl h);have q8:=a8.size;have e1:BtB w4 (w.heap.size+1) (.slice al lo.length capl) lo:=World.ownsRow.mono m2 (by omega);have f3:=e7;rw[r2.out]at f3;have o2:=hid (fun X j5 b5=>o1.out lo X j4 j5 a9 b5 f3)
    have p3:a9=true∨(WfC SC∧TcV w4 (w.heap.size+1) (.slice a0 SC.length cap0) (SC.map toX)):=by
     rcases o3.out with h|h
     ·left
      rcases e7 with⟨_,h2⟩ | ⟨h2,_⟩
      ·rw[h]at h2;simp[gr]at h2
      ·exact h2
     ·obtain⟨h1,h2⟩:=i7.out h;exact Or.inr ⟨h2,by rw[←h1];exact f2⟩
    have g4:=hid (l8 w.heap.size (w.heap.size+1) s j4 a9 SC a0 a1 al ms.length lo.length cap0 cap1 capl _ w4 p3 hcl n9 (by omega) hs e5 rfl f6);clear e7 f3 o1 o3 p3;go_wp2_with fail;refine g4.out.mono ?_;rintro en w5 ⟨b9,j7⟩;obtain⟨ai,capi,items,j5,a5,m5,rfl,n1,m0,n5,g7,h8⟩:=j7;have g3:=hid (jg.fin g7 h8);have l3:=f2.but b9 (fun g e cur _ _ hg h=>by omega);have m4:=g6.but b9 (fun g e cur _ _ hg h=>by omega);have a4:=f4.but b9 (fun g e cur _ _ hg h=>by omega);have m3:=e1.but b9 (fun g hg h=>by have:=ay e1 g hg;omega);have t3:=b9.size;clear g7 h8 g4;have g2:=hid (kW w.heap.size (w.heap.size+1) w4.heap.size s j5 a5 true _ _ _ a2 a7 bs ⟨45,0,105,lo,items⟩ al ai capl capi w5 (by omega) n5 hs n1 a4 m3 m0 f6 (by omega) (by omega))
    go_wp2_with fail;refine g2.out.mono ?_;rintro en w6 ⟨rfl,a3,a6,f0,t5,n2,f5⟩;clear g2
    have r1:Hid (wT s SC ms cs (bs++ [⟨45,0,105,lo,items⟩]) (tkP s 46 j5 a5).1 (tkP s 46 j5 a5).2):=by
     refine hid (o2.out ⟨45,0,105,lo,items⟩ _ _ ?_);rcases g3.out with⟨h1,is,h2,h3⟩ |h
     ·exact Or.inl ⟨h1,is,h2,by rw[h3]⟩
     ·exact Or.inr h
    have n4:=a4.ge
    have l4:=l3.but a3 (fun g e cur hh he hg h=>by
     rcases h with h|h
     ·omega
     ·exact a4.apart hh (by rcases he with he|he<;>(rw[he];decide)) h)
    have n0:=m4.but a3 (fun g e cur hh he hg h=>by
     rcases h with h|h
     ·omega
     ·exact a4.apart hh (by rw[he];decide) h)
    have f1:But (fun k=>k=w.heap.size∨w.heap.size+1≤k) w w6:=(e0.next b9 (fun _ _ h=>Or.inl h)).next a3 (fun k hk h=>by
     rcases h with h|h
     ·exact Or.inl h
     ·exact Or.inr (n4 k h))
    have t4:=a3.size;clear o2 g3;go_wp2_with fail
    go_roundg 0
    case measure=>omega
    case rel=>exact⟨a6,f0,_,_,true,bs++ [⟨45,0,105,lo,items⟩],_,_,_,_,_,by omega,f1,n2,l4,n0,f5,hid (Or.inr ⟨rfl,r1.out⟩)⟩
end
section
open Go Go.RowKit Sp
theorem zb {cs:List Cls} {gs:List Sig} {b:Bod} (h:WfB cs gs b) (hn:cs.length≤4):(b.cls= -1)∨jf b:=by
 rcases h.cls with⟨h1,_⟩ | ⟨h1,h2,h3,h4⟩
 ·exact Or.inl h1
 ·exact Or.inr ⟨h1,by omega,h3⟩
theorem wU {c:UInt8} {n:Nat} (h:aH n c=true) (hn:n≤4):c=UInt8.ofNat (65+(kl c).toNat):=by
 rw[←m8 h hn]
 congr 2
 unfold kl;have:(UInt8.ofNat (65+(c.toNat-65)))=c:=m8 h hn;rw[this];omega
theorem yL {n x:Nat} (h:x<n) (hn:n≤4):aH n (UInt8.ofNat (65+x))=true∧kl (UInt8.ofNat (65+x))=x:=by
 have hv:(UInt8.ofNat (65+x)).toNat=65+x:=by simp;omega
 constructor
 ·simp only[aH,hv,Bool.and_eq_true,decide_eq_true_eq];omega
 ·unfold kl;rw[hv];omega
theorem l9 {cs:List Cls} {gs:List Sig} {BS:List Bod} (hw:WfC cs) (hn:cs.length≤4) (hB: ∀b∈BS,(b.cls= -1)∨jf b) (m:Nat):
  ∀(f f' x:Nat),x<cs.length→x<f→x<f'→gM (cs.map toX) (BS.map (aN gs)) m f (UInt8.ofNat (65+x))=cd cs BS m f' x:=by
 intro f
 induction f with
 |zero=>intro f' x _ h _;omega
 |succ f ih=>
  intro f' x hx h1 h2;obtain⟨g,rfl⟩: ∃g,f'=g+1:=⟨f'-1,by omega⟩;have hv:(UInt8.ofNat (65+x)).toNat=65+x:=by simp;omega
  have a0:=oX (gs:=gs) (m:=m) hB (x:=x) (by omega);rw[gM,if_neg (show¬(UInt8.ofNat (65+x)).toNat=45 by omega),a0,cd,if_neg (show¬(x:Int)<0 by omega)]
  split
  ·rfl
  ·obtain⟨hl,hk⟩:=yL hx hn;have hp:=kS hw hn hl;rw[hk]at hp;have a1:=dh hw (p:=(x:Int)) (by omega);rcases hp with⟨e1,e2⟩ | ⟨e1,e2,e3⟩
   ·rw[e2]
    have e4: ∀k,gM (cs.map toX) (BS.map (aN gs)) m k 45= -1:=by
     intro k
     cases k with
     |zero=>rfl
     |succ k=>rw[gM];simp
    have e5: ∀k,cd cs BS m k (bZ cs x)= -1:=by
     intro k
     cases k with
     |zero=>rfl
     |succ k=>rw[cd,if_pos e1]
    rw[e4,e5]
   ·have e6:=wU e2 hn;rw[e3]at e6;rw[e6];have e7:((bZ cs x).toNat:Int)=bZ cs x:=by omega
    have e8:(bZ cs x).toNat<cs.length:=by omega
    have:=ih g (bZ cs x).toNat e8 (by omega) (by omega);rw[this,e7]
theorem wV {cs:List Cls} {gs:List Sig} {BS:List Bod} {x:Ins} {nl n:Nat} (hw:WfC cs) (hn:cs.length≤4) (hB: ∀b∈BS,(b.cls= -1)∨jf b) (hx:WfX cs gs.length nl x):fJ (cs.map toX) (BS.map (aN gs)) n (aK x)=cO cs BS n x:=by
 unfold fJ cO;have e1:(aK x).op=x.op:=rfl;have e2:(aK x).num=x.b:=rfl;rw[e1,e2]
 by_cases h1:x.op.toNat=106∨x.op.toNat=102
 ·rw[if_pos h1];have h9: ¬x.op.toNat=99:=by omega
  rcases h1 with h|h<;>simp[h]
 ·rw[if_neg h1];have a0:=not_or.1 h1
  by_cases h9:x.op.toNat=99
  ·rw[if_pos h9];have ha:=hx.cls (by omega)
   have e3:(aK x).cls=UInt8.ofNat (65+x.a):=by
    unfold aK;rw[if_pos (by omega)]
   rw[e3,List.length_map,l9 hw hn hB x.b cs.length 5 x.a ha ha (by omega)];simp[h9]
  ·rw[if_neg h9];simp[h9,a0.1,a0.2]
theorem find?_map' {α β:Type} (f:α→β) (p:β→Bool): ∀l:List α,(l.map f).find? p=(l.find? (fun x=>p (f x))).map f:=by
 intro l
 induction l with
 |nil=>rfl
 |cons x l ih=>
  simp only[List.map_cons,List.find?_cons,ih]
  cases p (f x)<;>rfl
theorem find?_congr' {α:Type} {p q:α→Bool}: ∀{l:List α},(∀x∈l,p x=q x)→l.find? p=l.find? q:=by
 intro l
 induction l with
 |nil=>intro _;rfl
 |cons x l ih=>
  intro h;rw[List.find?_cons,List.find?_cons,h x (by simp),ih (fun y hy=>h y (by simp[hy]))]
theorem findSome?_map' {α β γ:Type} (f:α→β) (p:β→Option γ): ∀l:List α,(l.map f).findSome? p=l.findSome? (fun x=>p (f x)):=by
 intro l
 induction l with
 |nil=>rfl
 |cons x l ih=>simp only[List.map_cons,List.findSome?_cons,ih]
theorem findSome?_congr' {α γ:Type} {p q:α→Option γ}: ∀{l:List α},(∀x∈l,p x=q x)→l.findSome? p=l.findSome? q:=by
 intro l
 induction l with
 |nil=>intro _;rfl
 |cons x l ih=>
  intro h;rw[List.findSome?_cons,List.findSome?_cons,h x (by simp),ih (fun y hy=>h y (by simp[hy]))]
theorem yk {cs:List Cls} {gs:List Sig} {BS:List Bod} {c:List Ins} {nl:Nat} (hw:WfC cs) (hn:cs.length≤4) (hB: ∀b∈BS,(b.cls= -1)∨jf b) (hx: ∀x∈c,WfX cs gs.length nl x):mA (cs.map toX) (BS.map (aN gs)) (c.map aK)=unl cs BS c:=by
 unfold mA unl;rw[List.length_map,find?_map',find?_congr' (fun x hm=>wV hw hn hB (hx x hm)),Option.map_map]
 rfl
theorem wW {im:Img} (hW:WfI im):((im.bodies.map (aN im.sigs)).findSome? fun x=>mA (im.classes.map toX) (im.bodies.map (aN im.sigs)) x.items)=im.bodies.findSome? (fun b=>unl im.classes im.bodies b.code):=by
 rw[findSome?_map'];refine findSome?_congr' (fun b hb=> ?_);exact yk hW.cls hW.nc (fun b hb=>zb (hW.bod b hb) hW.nc) (hW.bod b hb).code
theorem oZ (b:Nat) (im:Img) (w:World) (hW:WfI im) (hT:dk w b im):
  Calls Tryz.prog 104 #[.pointer (some ⟨b,0,none⟩)] w fun e w'=>e= .returned (.int .i64 (pS (im.bodies.findSome? (fun b=>unl im.classes im.bodies b.code))))∧But (fun _=>False) w w':=by
 rw[←wW hW];refine mB b (im.classes.map toX) (im.bodies.map (aN im.sigs)) w (by rw[List.length_map];have:=hW.nc;omega) (by rw[List.length_map];have:=hW.nb;omega) ?_ hT.cls hT.bod;intro x hx;obtain⟨b,hb,rfl⟩:=List.mem_map.1 hx;have:=(hW.bod b hb).len.2;simp only[aN,List.length_map];omega
end
section
open Go Go.RowKit Sp
attribute [local go_sem ↓] Go.wp_at_zero Go.wp_at_succ
theorem s5 (b:Nat) (cs:List bB) (ms:List Sig) (p n:Nat) (k ans:UInt8) (w:World) {ap:Option Addr} {np cp:Nat} (hn:cs.length≤100) (hT:TxC w b cs):
  Calls Tryz.prog 140 #[.pointer (some ⟨b,0,none⟩),.agg #[.int .i64 p,.int .u8 112,.int .u8 k.toNat,.int .i64 n,.slice ap np cp],.int .u8 ans.toNat] w fun e w'=>But (fun _=>False) w w'∧ ∃v,e= .returned v∧BtB w' w.heap.size v [k,eP (bQ cs k) n]:=by
 go_in
 go_wp2_with fail;have a2:But (fun _=>False) w (w.alloc (.cells #[.int .i64 p,.int .u8 112,.int .u8 k.toNat,.int .i64 n,.slice ap np cp] 219)):=But.alloc _ _ _;have a1:=heap_alloc_new w (.cells #[.int .i64 p,.int .u8 112,.int .u8 k.toNat,.int .i64 n,.slice ap np cp] 219);revert a2 a1;generalize (w.alloc (.cells #[.int .i64 p,.int .u8 112,.int .u8 k.toNat,.int .i64 n,.slice ap np cp] 219))=W;intro a2 a1;obtain⟨k0,k1,k2,k3,k4⟩:=bC a1;have gltW:=ae a1;have a6:=hid a1;clear a1;have a3:But (fun _=>False) W W.drew:=But.drew _ _;have a0:=hid (pK b cs k n W.drew hn ((hT.but a2).but a3));refine az (But (fun _=>False) W) 9 (by kernel_rfl) ?_
 iterate 7 (refine aB (v:=?_) rfl (by kernel_rfl) (fun _ _ _ h=>h) rfl a3 ?_ ?_;rotate_left;(focus (intro wS h;have q0:=(h.kc k2 gltW);have q1:=(h.kc k3 gltW);clear h;go_simp;try rfl));dsimp only[Act.put];try simp only[aR])
 refine ag rfl (by kernel_rfl) ?_;intro KS hKS;go_simp;refine a0.out.mono ?_;rintro en wx ⟨rfl,a5⟩;rw[a5];clear a5 wx a0;refine hKS.out _ _ (fun _=>a3) ?_;clear hKS KS;obtain⟨z,a4⟩: ∃z,eP (bQ cs k) n=z:=⟨_,rfl⟩;rw[a4];have HZ:=hid a4;clear a4;refine ag rfl (by kernel_rfl) ?_;intro KS hKS;go_simp;refine hKS.out _ _ (fun _=>a3.trans (But.alloc _ _ _)) ?_;clear hKS KS;refine ag rfl (by kernel_rfl) ?_;intro KS hKS;go_simp;refine hKS.out _ _ nofun ?_;clear hKS KS;refine aD rfl (by kernel_rfl) ?_;have hz:=a2.size;go_wp2_with fail;exact cB (.slice (some ⟨W.heap.size,0,none⟩) 2 2) Tryz.results140 rfl rfl ⟨a2.trans ((But.alloc _ _ _).trans (But.drew _ _)),_,rfl,by rw[HZ.out];exact BtB.but (BtB.lit W w.heap.size hz [k,z] (by simp)) (But.drew (fun _=>False) _) (fun _ _ h=>h)⟩
theorem uH (b:Nat) (cs:List bB) (ms:List Sig) (p n:Nat) (k ans:UInt8) (w:World) {ap:Option Addr} {np cp:Nat} (hm:ms.length≤100) (hM:TxM w b ms):
  Calls Tryz.prog 140 #[.pointer (some ⟨b,0,none⟩),.agg #[.int .i64 p,.int .u8 99,.int .u8 k.toNat,.int .i64 n,.slice ap np cp],.int .u8 ans.toNat] w fun e w'=>But (fun _=>False) w w'∧ ∃v,e= .returned v∧BtB w' w.heap.size v [k,(cQ ms n).arg]:=by
 go_in
 go_wp2_with fail;have a2:But (fun _=>False) w (w.alloc (.cells #[.int .i64 p,.int .u8 99,.int .u8 k.toNat,.int .i64 n,.slice ap np cp] 219)):=But.alloc _ _ _;have a1:=heap_alloc_new w (.cells #[.int .i64 p,.int .u8 99,.int .u8 k.toNat,.int .i64 n,.slice ap np cp] 219);revert a2 a1;generalize (w.alloc (.cells #[.int .i64 p,.int .u8 99,.int .u8 k.toNat,.int .i64 n,.slice ap np cp] 219))=W;intro a2 a1;obtain⟨k0,k1,k2,k3,k4⟩:=bC a1;have gltW:=ae a1;have a7:=hid a1;clear a1;have a4:But (fun _=>False) W W.drew:=But.drew _ _;have a0:=hid (fA b ms n W.drew hm ((hM.but a2).but a4));refine az (But (fun _=>False) W) 8 (by kernel_rfl) ?_
 iterate 5 (refine aB (v:=?_) rfl (by kernel_rfl) (fun _ _ _ h=>h) rfl a4 ?_ ?_;rotate_left;(focus (intro wS h;have q0:=(h.kc k2 gltW);have q1:=(h.kc k3 gltW);clear h;go_simp;try rfl));dsimp only[Act.put];try simp only[aR])
 refine ag rfl (by kernel_rfl) ?_;intro KS hKS;go_simp;refine a0.out.mono ?_;rintro en wx ⟨rfl,a6⟩;clear a0;have a3:=a4.trans a6;refine hKS.out _ _ (fun _=>a3) ?_;clear hKS KS;obtain⟨z,a5⟩: ∃z,cQ ms n=z:=⟨_,rfl⟩;rw[a5];have HZ:=hid a5;clear a5;obtain⟨za,zr⟩:=z;dsimp only;refine ag rfl (by kernel_rfl) ?_;intro KS hKS;go_simp;refine hKS.out _ _ (fun _=>a3) ?_;clear hKS KS;refine ag rfl (by kernel_rfl) ?_;intro KS hKS;go_simp;refine hKS.out _ _ (fun _=>a3.trans (But.alloc _ _ _)) ?_;clear hKS KS;refine ag rfl (by kernel_rfl) ?_;intro KS hKS;go_simp;refine hKS.out _ _ nofun ?_;clear hKS KS;refine aD rfl (by kernel_rfl) ?_
 have hz:=a2.size;go_wp2_with fail;have a8:=a3.size;exact cB (.slice (some ⟨wx.heap.size,0,none⟩) 2 2) Tryz.results140 rfl rfl ⟨(a2.trans a3).trans (But.alloc _ _ _),_,rfl,by rw[HZ.out];exact BtB.lit wx w.heap.size (by omega) [k,za] (by simp)⟩
theorem ny (b:Nat) (cs:List bB) (ms:List Sig) (p n:Nat) (c k ans:UInt8) (w:World) {ap:Option Addr} {np cp:Nat} (hn:cs.length≤100) (hm:ms.length≤100) (hT:TxC w b cs) (hM:TxM w b ms):
  Calls Tryz.prog 140 #[.pointer (some ⟨b,0,none⟩),.agg #[.int .i64 p,.int .u8 c.toNat,.int .u8 k.toNat,.int .i64 n,.slice ap np cp],.int .u8 ans.toNat] w fun e w'=>But (fun _=>False) w w'∧ ∃v,e= .returned v∧BtB w' w.heap.size v (aE cs ms c k n ans):=by
 by_cases h112:c.toNat=112
 ·have hc:c=112:=UInt8.toNat_inj.1 h112;subst hc;exact s5 b cs ms p n k ans w hn hT
 by_cases h99:c.toNat=99
 ·have hc:c=99:=UInt8.toNat_inj.1 h99;subst hc;exact uH b cs ms p n k ans w hm hM
 exact pN b cs ms p n c k ans w h112 h99
theorem eu {w:World} {g t:Nat} {x0 x1 x2:Value} (h:w.heap[g]?=some (.cells #[x0,x1,x2] t)):w.cell? ⟨g,0,none⟩=some x0∧w.cell? ⟨g,1,none⟩=some x1∧w.cell? ⟨g,2,none⟩=some x2:=by
 refine⟨?_,?_,?_⟩
 ·rw[cell_of_row w g 0 _ _ (0,0) h];rfl
 ·rw[cell_of_row w g 1 _ _ (0,0) h];rfl
 ·rw[cell_of_row w g 2 _ _ (0,0) h];rfl
theorem pY {ms:List Sig} {n:Nat} (h:n<ms.length):(cQ ms n).arg=ip ms n∧(cQ ms n).ret=fc ms n:=by
 unfold cQ ip fc;rw[List.getElem?_eq_getElem h];exact⟨rfl,rfl⟩
theorem rq {x:Ins} (h:x.op.toNat=110∨x.op.toNat=120∨x.op.toNat=103∨x.op.toNat=112∨x.op.toNat=99):(aK x).cls=dg x.a:=by unfold aK;rw[if_pos h];rfl
def kX (g:Nat) (im:Img):Value:=match im.bodies.findSome? (fun b=>unl im.classes im.bodies b.code)with
 |some q=> .agg #[.int .i64 3,.int .i64 q,.pointer none,.slice none 0 0]
 |none=> .agg #[.int .i64 0,.int .i64 0,.pointer (some ⟨g,0,none⟩),.slice none 0 0]
theorem uI (g j:Nat) (w:World):
  Calls Tryz.prog 64 #[.pointer (some ⟨g,0,none⟩),.int .i64 j] w fun en w'=>But (fun _=>False) w w'∧en= .returned (.agg #[.int .i64 2,.int .i64 j,.pointer none,.slice none 0 0]):=by
 have a1: ¬(j:Int)= -1:=by omega
 have e1:((j:Int)== -1)=false:=by rw[beq_eq_false_iff_ne];omega
 have e2:((j:Int)!= -1)=true:=by simp[bne,e1]
 go_in
 go_wp2_with fail;have h9:=heap_alloc_new w (.cells #[.int .i64 2,.int .i64 j,.pointer none,.slice none 0 0] 60);have a0:But (fun _=>False) w (w.alloc (.cells #[.int .i64 2,.int .i64 j,.pointer none,.slice none 0 0] 60)):=But.alloc _ _ _;revert h9 a0;generalize (w.alloc (.cells #[.int .i64 2,.int .i64 j,.pointer none,.slice none 0 0] 60))=w9;intro h9 a0;obtain⟨r0,r1,r2,r3⟩:=iE h9;exact bodyPost_ret (v:= .agg #[.int .i64 2,.int .i64 j,.pointer none,.slice none 0 0]) (by simp[results,Tryz.results64,go_sem,r0,r1,r2,r3]) rfl ⟨a0,rfl⟩
end
end Go.Proofs.YtpfkkmacakjmbaaGreatDoor
