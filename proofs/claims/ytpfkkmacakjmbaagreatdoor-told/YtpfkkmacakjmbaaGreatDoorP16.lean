import Derived.Test.YtpfkkmacakjmbaaGreatDoorP15
set_option maxRecDepth 100000
set_option maxHeartbeats 6400000
set_option linter.unusedSimpArgs false
set_option linter.unusedVariables false
namespace Go.Proofs.YtpfkkmacakjmbaaGreatDoor
section
open Go Go.RowKit Sp
attribute [local go_sem ↓] Go.wp_at_zero Go.wp_at_succ
theorem TbV.apart {w:World} {base:Nat} {v:Value} {bs:List bu} (h:TbV w base v bs) {g e:Nat} {cur:Array Value} (hh:w.heap[g]?=some (.cells cur e)) (hne:e≠115): ¬v.ownBlock=some g:=by
 obtain⟨l,h1,_⟩:=h;exact et h1 hh hne
theorem TbV.ge {w:World} {base:Nat} {v:Value} {bs:List bu} (h:TbV w base v bs): ∀g,v.ownBlock=some g→base≤g:=by
 obtain⟨l,h1,_⟩:=h;exact aA h1
def xQ (s:ByteArray) (SC:List Cls) (ms:List Sig) (cs:List bv) (bs:List bu) (j:Nat) (bad:Bool):Prop:=
 ((bad||decide (j<s.size))=true∧fM s= .error j)∨((bad||decide (j<s.size))=false∧ ∃im,fM s= .ok im∧im.classes=SC∧cs=SC.map toX∧im.sigs=ms∧bs=im.bodies.map (aN ms))
theorem vK (s:ByteArray) (w:World) (hs:s.size≤2000):
  Calls Tryz.prog 63 #[.string s] w fun en w'=>But (fun _=>False) w w'∧ ∃g p,en= .returned (.tuple #[.pointer (some ⟨g,0,none⟩),.int .i64 p])∧w.heap.size≤g∧
   ((∃j,fM s= .error j∧p=(j:Int)∧w'.heap[g]?=some (.cells #[.slice none 0 0,.slice none 0 0,.slice none 0 0] 109))∨(p= -1∧ ∃im,fM s= .ok im∧dn w' g im)):=by
 go_in
 go_wp2_with fail;refine(rK s w).mono ?_;rintro en w0 ⟨rfl,o3,t0,p2⟩;have f2:w.heap.size<w.heap.size+1:=by omega
 go_wp2_with fail;refine(il w.heap.size (w.heap.size+1) s _ _ w0 hs p2 f2 (by omega)).mono ?_;rintro en w1 ⟨rfl,f4,v0,cs,j0,b0,p3,k0,hcl,p5⟩;obtain⟨a0,cap0,s0⟩:=k0.len;subst s0;have t3:=f4.size;have g1:But (fun k=>k=w.heap.size∨w.heap.size+1≤k) w w1:=(o3.mono (fun _ _ h=>h.elim)).trans f4;clear o3 f4 p2;go_wp2_with fail;refine(io w.heap.size (w.heap.size+1) s j0 b0 a0 cs.length cap0 _ w1 hs hcl p3 f2 (by omega)).mono ?_;rintro en w2 ⟨rfl,h7,v1,ms,j1,b1,p4,p1,n6,n0⟩;obtain⟨a1,cap1,s1⟩:=aw p1;subst s1;have o6:=k0.but h7 (fun g e cur _ _ hg h=>by omega);have t4:=h7.size;have i9:But (fun k=>k=w.heap.size∨w.heap.size+1≤k) w w2:=g1.next h7 (fun _ _ h=>Or.inl h)
 clear h7 p3 k0 g1
 --the classes,if there are any
 obtain⟨SC,i1,f3⟩: ∃SC:List Cls,SC.length=cs.length∧((b0=false∧ ∃SC',eT s 4 [] 0= .ok (SC',j0)∧SC'=SC∧cs=SC.map toX∧WfC SC)∨(b0=true∧eT s 4 [] 0= .error j0)):=by
  rcases p5 with⟨h1,SC,h2,h3,h4⟩ |h
  ·exact⟨SC,by rw[h3,List.length_map],Or.inl ⟨h1,SC,h2,rfl,h3,h4⟩⟩
  ·exact⟨List.replicate cs.length ⟨-1,[]⟩,by simp,Or.inr h⟩
 have e5:b1=false→cs=SC.map toX∧WfC SC:=by
  intro h;rcases n0 with⟨_,h2⟩ | ⟨h2,_⟩
  ·rcases f3 with⟨_,_,_,_,h3⟩ | ⟨h3,_⟩
   ·exact h3
   ·rw[h3]at h2;simp[kV]at h2
  ·rw[h]at h2;cases h2
 obtain⟨R,i0⟩: ∃R,(if b1=true then .error j1 else jU s SC ms 6 [] j1)=R:=⟨_,rfl⟩
 have e0:tJ (b1=false) s SC ms R 6 [] j1 b1:=by
  cases b1 with
  |true=>exact Or.inr ⟨rfl,i0.symm⟩
  |false=>exact Or.inl ⟨rfl,rfl,[],rfl,by simp,rfl,i0⟩
 have i7:=hid e0;have i3:=hid e5;have e3:=hid (fun bs l X j2 j3 j4 b2 b3 b4=>xP (X:=X) (bs:=bs) (l:=l) (j2:=j2) (j3:=j3) (j4:=j4) (b2:=b2) (b3:=b3) (b4:=b4) f3 i1 n0 i0);have q8:=hid i1;rw[←i1]at p4 o6 hcl;clear e0 e5 p5 n0 f3 i0 i1;go_wp2_with fail
 go_loopg [] 7 (fun mm wr=> ∃(a2:Option Addr) (a7 j:Nat) (bad' mn:Bool) (bs:List bu) (x0 x1 x2 x3 x4:Value),w.heap.size+1≤wr.heap.size∧But (fun k=>k=w.heap.size∨w.heap.size+1≤k) w wr∧XrB wr w.heap.size s j bad' (.slice a0 SC.length cap0) (.slice a1 ms.length cap1) ⟨.slice a2 bs.length a7,x0,x1,x2,x3,x4,mn⟩∧TcV wr (w.heap.size+1) (.slice a0 SC.length cap0) cs∧TmV wr (w.heap.size+1) (.slice a1 ms.length cap1) ms∧TbV wr (w.heap.size+1) (.slice a2 bs.length a7) bs∧Hid ((mn=false∧bs.length≤6∧ ∃m1,mm=m1+1∧tJ (b1=false) s SC ms R m1 bs j bad')∨(mn=true∧xQ s SC ms cs bs j bad')))
 case atStart=>exact⟨none,0,j1,b1,false,[],_,_,_,_,_,by omega,i9,p4,o6,p1,⟨[],fN _ _ _ _,rfl,by simp⟩,hid (Or.inl ⟨rfl,by simp,6,rfl,i7.out⟩)⟩
 case round=>
  obtain⟨a2,a7,j,bad',mn,bs,x0,x1,x2,x3,x4,t5,j7,f5,l3,h9,i2,h5⟩:=hrel
  by_cases hstop:mn=true∨bad'=true
  ·have g5:xQ s SC ms cs bs j bad':=by
    rcases h5.out with⟨h1,_,m1,_,hb⟩ | ⟨_,h⟩
    ·have r3:bad'=true:=by
      rcases hstop with h|h
      ·rw[h1]at h;cases h
      ·exact h
     subst r3;rcases hb with⟨h,_⟩ | ⟨_,h⟩
     ·cases h
     ·have:=e3.out bs [] ⟨0,0,0,[],[]⟩ j j j true true true (Or.inr ⟨rfl,h⟩) (Or.inr ⟨rfl,by simp[eg]⟩) (Or.inr ⟨rfl,by simp[fy]⟩);rcases this with⟨_,h⟩ | ⟨h,_⟩
      ·exact Or.inl ⟨by simp,h⟩
      ·simp at h
    ·exact h
   have HF:=hid g5;have e1:=hid (jw w.heap.size s j bad' _ _ _ wr f5 hstop);clear g5 h5 e3 i7 i3;go_wp2_with fail;refine e1.out.mono ?_;rintro en w3 ⟨rfl,k,rfl⟩;clear e1 hstop;go_wp2_with fail;refine(me w.heap.size s j bad' _ _ _ (wr.drewN k) (f5.drewN k)).mono ?_;rintro en w4 ⟨a8,p8⟩;have b9:But (fun _=>False) w w4:=((j7.next (But.drewN (fun _=>False) wr k) (fun _ _ h=>h.elim)).next a8 (fun _ _ h=>h.elim)).mono (fun k hk h=>by omega);have q4:w.heap.size≤(wr.drewN k).heap.size:=by show w.heap.size≤wr.heap.size;omega
   have h8:But (fun _=>False) wr w4:=(But.drewN _ _ _).trans a8;unfold AP at p8;rcases p8 with⟨hb,g,hg,rfl,r4⟩ | ⟨hb,rfl⟩
   ·have i6:Hid (fM s= .error j):=by
     rcases HF.out with⟨_,h⟩ | ⟨h,_⟩
     ·exact hid h
     ·rw[hb]at h;cases h
    clear HF;go_wp2_with fail;exact bodyPost_ret (v:= .tuple #[.pointer (some ⟨g,0,none⟩),.int .i64 j]) (by simp[results,Tryz.results63,go_sem]) rfl ⟨b9,g,j,rfl,by omega,Or.inl ⟨j,i6.out,rfl,r4⟩⟩
   ·have r2:=f5.lt
    have i6:Hid (∃im,fM s= .ok im∧dn w4 w.heap.size im):=by
     rcases HF.out with⟨h,_⟩ | ⟨_,im,r8,n3,n4,g6,n5⟩
     ·rw[hb]at h;cases h
     ·have e8:=l3.but h8 (fun _ _ _ _ _ _ h=>h);have g2:=h9.but h8 (fun _ _ _ _ _ _ h=>h);have e4:=i2.but h8 (fun _ _ _ _ _ _ h=>h);have e2:=f5.but h8 (fun h=>h);refine hid ⟨im,r8,?_,?_,?_⟩
      ·rw[n3,←n4];exact e8.tx e2.c0 e2.lt
      ·rw[g6];exact g2.tx e2.c1 e2.lt
      ·rw[g6,←n5];exact e4.tx e2.c2 e2.lt
    clear HF;go_wp2_with fail;exact bodyPost_ret (v:= .tuple #[.pointer (some ⟨w.heap.size,0,none⟩),.int .i64 (-1)]) (by simp[results,Tryz.results63,go_sem]) rfl ⟨b9,w.heap.size,-1,rfl,Nat.le_refl _,Or.inr ⟨rfl,i6.out⟩⟩
  ·have r6:mn=false:=by cases mn;rfl;exact absurd (Or.inl rfl) hstop
   have r1:bad'=false:=by cases bad';rfl;exact absurd (Or.inr rfl) hstop
   subst r6 r1;obtain⟨_,s5,m1,s9,f4⟩:=h5.out.resolve_right (fun h=>by cases h.1);have h0:=hid f4;clear f4;clear hstop h5 i7
   by_cases hgo:bs.length<6∧pk s j≠59
   ·obtain⟨q0,n7⟩:=hgo;obtain⟨hG,BS,o4,q2,r0,q1⟩:=h0.out.next hcl q0 n7;obtain⟨g4,q3⟩:=i3.out hG;have o2:=hid q1;have q6:=hid g4;have q9:=hid q3;have e1:=hid (jx w.heap.size (w.heap.size+1) s j a0 a2 SC.length cap0 bs.length a7 _ x0 x1 x2 x3 x4 wr ms BS (BS.map (aN ms)) rfl hcl n6 r0 (fun b hb=>Or.inr (q2 b hb)) hs f5 h9 (by rw[←o4];exact i2) f2 q0 n7);clear n7 q1 o4 q2 g4 q3 h0;go_wp2_with fail;refine e1.out.mono ?_;rintro en w4 ⟨a8,rfl,i4⟩;obtain⟨c,m,r,al,capl,lo,j4,a9,e2,l5,r5,e4⟩:=i4;clear e1;have e8:=l3.but a8 (fun g e cur _ _ hg h=>by omega);have g2:=h9.but a8 (fun g e cur _ _ hg h=>by omega)
    have f0:=i2.but a8 (fun g e cur _ _ hg h=>by omega);have b9:But (fun k=>k=w.heap.size∨w.heap.size+1≤k) w w4:=j7.next a8 (fun _ _ h=>Or.inl h);have q4:=a8.size;have c6:BtB w4 (w.heap.size+1) (.slice al lo.length capl) lo:=World.ownsRow.mono l5 (by omega);have o1:=hid (o2.out c m r lo j4 a9 e4);clear e4 o2;have g0:=hid (md w.heap.size (w.heap.size+1) s j4 a9 SC a0 a1 al ms.length lo.length cap0 cap1 capl _ w4 (Or.inr ⟨q9.out,by rw[←q6.out];exact e8⟩) hcl n6 (by omega) hs e2 rfl f2);go_wp2_with fail;refine g0.out.mono ?_;rintro en w5 ⟨b6,i5⟩;obtain⟨ai,capi,items,j5,a5,m5,rfl,m3,l4,n2,g3,g7⟩:=i5
    have f8:=hid (iX.fin g3 g7);have k9:=e8.but b6 (fun g e cur _ _ hg h=>by omega);have m0:=g2.but b6 (fun g e cur _ _ hg h=>by omega);have a4:=f0.but b6 (fun g e cur _ _ hg h=>by omega);have l6:=c6.but b6 (fun g hg h=>by have:=aA c6 g hg;omega);have s2:=b6.size;clear g3 g7 g0;have f7:=hid (fF w.heap.size (w.heap.size+1) w4.heap.size s j5 a5 false _ _ _ a2 a7 bs ⟨c,m,r,lo,items⟩ al ai capl capi w5 (by omega) n2 hs m3 a4 l6 l4 f2 (by omega) (by omega));go_wp2_with fail;refine f7.out.mono ?_;rintro en w6 ⟨rfl,a3,a6,e6,s4,m4,f1⟩;clear f7
    obtain⟨m',s6,o5⟩:=o1.out ⟨c,m,r,lo,items⟩ (tkP s 46 j5 a5).1 (tkP s 46 j5 a5).2 (by
     rcases f8.out with⟨h1,is,h2,h3⟩ |h
     ·exact Or.inl ⟨h1,is,h2,by rw[h3]⟩
     ·exact Or.inr h)
    have q5:=hid o5;have n1:=a4.ge
    have l0:=k9.but a3 (fun g e cur hh he hg h=>by
     rcases h with h|h
     ·omega
     ·exact a4.apart hh (by rcases he with he|he<;>(rw[he];decide)) h)
    have m2:=m0.but a3 (fun g e cur hh he hg h=>by
     rcases h with h|h
     ·omega
     ·exact a4.apart hh (by rw[he];decide) h)
    have e7:But (fun k=>k=w.heap.size∨w.heap.size+1≤k) w w6:=(b9.next b6 (fun _ _ h=>Or.inl h)).next a3 (fun k hk h=>by
     rcases h with h|h
     ·exact Or.inl h
     ·exact Or.inr (n1 k h))
    have s3:=a3.size;clear o5 o1 f8;go_wp2_with fail
    go_roundg (m'+1)
    case measure=>omega
    case rel=>exact⟨a6,e6,_,_,false,bs++ [⟨c,m,r,lo,items⟩],_,_,_,_,_,by omega,e7,m4,l0,m2,f1,hid (Or.inl ⟨rfl,by simp;omega,m',rfl,q5.out⟩)⟩
   ·have d6: ¬bs.length<6∨pk s j=59:=by
     by_cases h6:bs.length<6
     ·right
      by_cases hp:pk s j=59
      ·exact hp
      ·exact absurd ⟨h6,hp⟩ hgo
     ·exact Or.inl h6
    have f6:=hid (h0.out.fin (d6.imp id (fun h=>by simp[h])));have e1:=hid (jy w.heap.size s j a0 a2 SC.length cap0 bs.length a7 _ x0 x1 x2 x3 x4 wr hcl hs f5 d6);clear d6 hgo h0;obtain⟨TK,p6⟩: ∃TK,tkP s 59 j false=TK:=⟨_,rfl⟩;rw[p6]at f6 e1;obtain⟨j2,b2⟩:=TK;dsimp only at f6 e1;have n8:=hid (fun l X j3 j4 b3 b4=>e3.out bs l X j2 j3 j4 b2 b3 b4 f6.out)
    have o0:Hid (b2=true∨b1=false):=by
     rcases f6.out with⟨_,h,_⟩ | ⟨h,_⟩
     ·exact hid (Or.inr h)
     ·exact hid (Or.inl h)
    clear p6 f6 e3;go_wp2_with fail;refine e1.out.mono ?_;rintro en w4 ⟨a8,rfl,i4⟩;obtain⟨al,capl,lo,j4,a9,e2,l5,r5,e4⟩:=i4;clear e1;have e8:=l3.but a8 (fun g e cur _ _ hg h=>by omega);have g2:=h9.but a8 (fun g e cur _ _ hg h=>by omega);have f0:=i2.but a8 (fun g e cur _ _ hg h=>by omega);have b9:But (fun k=>k=w.heap.size∨w.heap.size+1≤k) w w4:=j7.next a8 (fun _ _ h=>Or.inl h);have q4:=a8.size;have c6:BtB w4 (w.heap.size+1) (.slice al lo.length capl) lo:=World.ownsRow.mono l5 (by omega);have e9:=e4;rw[q8.out]at e9;have n9:=hid (fun X j5 b5=>n8.out lo X j4 j5 a9 b5 e9)
    have p0:a9=true∨(WfC SC∧TcV w4 (w.heap.size+1) (.slice a0 SC.length cap0) (SC.map toX)):=by
     rcases o0.out with h|h
     ·left
      rcases e4 with⟨_,h2⟩ | ⟨h2,_⟩
      ·rw[h]at h2;simp[eg]at h2
      ·exact h2
     ·obtain⟨h1,h2⟩:=i3.out h;exact Or.inr ⟨h2,by rw[←h1];exact e8⟩
    have g0:=hid (md w.heap.size (w.heap.size+1) s j4 a9 SC a0 a1 al ms.length lo.length cap0 cap1 capl _ w4 p0 hcl n6 (by omega) hs e2 rfl f2);clear e4 e9 n8 o0 p0;go_wp2_with fail;refine g0.out.mono ?_;rintro en w5 ⟨b6,i5⟩;obtain⟨ai,capi,items,j5,a5,m5,rfl,m3,l4,n2,g3,g7⟩:=i5;have f8:=hid (iX.fin g3 g7);have k9:=e8.but b6 (fun g e cur _ _ hg h=>by omega);have m0:=g2.but b6 (fun g e cur _ _ hg h=>by omega);have a4:=f0.but b6 (fun g e cur _ _ hg h=>by omega);have l6:=c6.but b6 (fun g hg h=>by have:=aA c6 g hg;omega);have s2:=b6.size;clear g3 g7 g0;have f7:=hid (fF w.heap.size (w.heap.size+1) w4.heap.size s j5 a5 true _ _ _ a2 a7 bs ⟨45,0,105,lo,items⟩ al ai capl capi w5 (by omega) n2 hs m3 a4 l6 l4 f2 (by omega) (by omega))
    go_wp2_with fail;refine f7.out.mono ?_;rintro en w6 ⟨rfl,a3,a6,e6,s4,m4,f1⟩;clear f7
    have q7:Hid (xQ s SC ms cs (bs++ [⟨45,0,105,lo,items⟩]) (tkP s 46 j5 a5).1 (tkP s 46 j5 a5).2):=by
     refine hid (n9.out ⟨45,0,105,lo,items⟩ _ _ ?_);rcases f8.out with⟨h1,is,h2,h3⟩ |h
     ·exact Or.inl ⟨h1,is,h2,by rw[h3]⟩
     ·exact Or.inr h
    have n1:=a4.ge
    have l0:=k9.but a3 (fun g e cur hh he hg h=>by
     rcases h with h|h
     ·omega
     ·exact a4.apart hh (by rcases he with he|he<;>(rw[he];decide)) h)
    have m2:=m0.but a3 (fun g e cur hh he hg h=>by
     rcases h with h|h
     ·omega
     ·exact a4.apart hh (by rw[he];decide) h)
    have e7:But (fun k=>k=w.heap.size∨w.heap.size+1≤k) w w6:=(b9.next b6 (fun _ _ h=>Or.inl h)).next a3 (fun k hk h=>by
     rcases h with h|h
     ·exact Or.inl h
     ·exact Or.inr (n1 k h))
    have s3:=a3.size;clear n9 f8;go_wp2_with fail
    go_roundg 0
    case measure=>omega
    case rel=>exact⟨a6,e6,_,_,true,bs++ [⟨45,0,105,lo,items⟩],_,_,_,_,_,by omega,e7,m4,l0,m2,f1,hid (Or.inr ⟨rfl,q7.out⟩)⟩
end
section
open Go Go.RowKit Sp
theorem AQ {cs:List Cls} {gs:List Sig} {b:Bod} (h:WfB cs gs b) (hn:cs.length≤4):(b.cls= -1)∨eQ b:=by
 rcases h.cls with⟨h1,_⟩ | ⟨h1,h2,h3,h4⟩
 ·exact Or.inl h1
 ·exact Or.inr ⟨h1,by omega,h3⟩
theorem xR {c:UInt8} {n:Nat} (h:aO n c=true) (hn:n≤4):c=UInt8.ofNat (65+(kl c).toNat):=by
 rw[←nC h hn]
 congr 2
 unfold kl;have:(UInt8.ofNat (65+(c.toNat-65)))=c:=nC h hn;rw[this];omega
theorem xS {n x:Nat} (h:x<n) (hn:n≤4):aO n (UInt8.ofNat (65+x))=true∧kl (UInt8.ofNat (65+x))=x:=by
 have hv:(UInt8.ofNat (65+x)).toNat=65+x:=by simp;omega
 constructor
 ·simp only[aO,hv,Bool.and_eq_true,decide_eq_true_eq];omega
 ·unfold kl;rw[hv];omega
theorem gM {cs:List Cls} {gs:List Sig} {BS:List Bod} (hw:WfC cs) (hn:cs.length≤4) (hB: ∀b∈BS,(b.cls= -1)∨eQ b) (m:Nat):
  ∀(f f' x:Nat),x<cs.length→x<f→x<f'→eG (cs.map toX) (BS.map (aN gs)) m f (UInt8.ofNat (65+x))=cE cs BS m f' x:=by
 intro f
 induction f with
 |zero=>intro f' x _ h _;omega
 |succ f ih=>
  intro f' x hx h1 h2;obtain⟨g,rfl⟩: ∃g,f'=g+1:=⟨f'-1,by omega⟩;have hv:(UInt8.ofNat (65+x)).toNat=65+x:=by simp;omega
  have a0:=pb (gs:=gs) (m:=m) hB (x:=x) (by omega);rw[eG,if_neg (show¬(UInt8.ofNat (65+x)).toNat=45 by omega),a0,cE,if_neg (show¬(x:Int)<0 by omega)]
  split
  ·rfl
  ·obtain⟨hl,hk⟩:=xS hx hn;have hp:=kU hw hn hl;rw[hk]at hp;have a1:=dk hw (p:=(x:Int)) (by omega);rcases hp with⟨e1,e2⟩ | ⟨e1,e2,e3⟩
   ·rw[e2]
    have e4: ∀k,eG (cs.map toX) (BS.map (aN gs)) m k 45= -1:=by
     intro k
     cases k with
     |zero=>rfl
     |succ k=>rw[eG];simp
    have e5: ∀k,cE cs BS m k (cS cs x)= -1:=by
     intro k
     cases k with
     |zero=>rfl
     |succ k=>rw[cE,if_pos e1]
    rw[e4,e5]
   ·have e6:=xR e2 hn;rw[e3]at e6;rw[e6];have e7:((cS cs x).toNat:Int)=cS cs x:=by omega
    have e8:(cS cs x).toNat<cs.length:=by omega
    have:=ih g (cS cs x).toNat e8 (by omega) (by omega);rw[this,e7]
theorem xT {cs:List Cls} {gs:List Sig} {BS:List Bod} {x:Ins} {nl n:Nat} (hw:WfC cs) (hn:cs.length≤4) (hB: ∀b∈BS,(b.cls= -1)∨eQ b) (hx:WfX cs gs.length nl x):eH (cs.map toX) (BS.map (aN gs)) n (aL x)=km cs BS n x:=by
 unfold eH km;have e1:(aL x).op=x.op:=rfl;have e2:(aL x).num=x.b:=rfl;rw[e1,e2]
 by_cases h1:x.op.toNat=106∨x.op.toNat=102
 ·rw[if_pos h1];have h9: ¬x.op.toNat=99:=by omega
  rcases h1 with h|h<;>simp[h]
 ·rw[if_neg h1];have a0:=not_or.1 h1
  by_cases h9:x.op.toNat=99
  ·rw[if_pos h9];have ha:=hx.cls (by omega)
   have e3:(aL x).cls=UInt8.ofNat (65+x.a):=by
    unfold aL;rw[if_pos (by omega)]
   rw[e3,List.length_map,gM hw hn hB x.b cs.length 5 x.a ha ha (by omega)];simp[h9]
  ·rw[if_neg h9];simp[h9,a0.1,a0.2]
theorem find?_map' {α β:Type} (f:α→β) (p:β→Bool): ∀l:List α,(l.map f).find? p=(l.find? (fun x=>p (f x))).map f:=by
 intro l
 induction l with
 |nil=>rfl
 |cons x l ih=>
  simp only[List.map_cons,List.find?_cons,ih]
  cases p (f x)<;>rfl
theorem find?_congr' {α:Type} {p q:α→Bool}: ∀{l:List α},(∀x∈l,p x=q x)→l.find? p=l.find? q:=by
 intro l
 induction l with
 |nil=>intro _;rfl
 |cons x l ih=>
  intro h;rw[List.find?_cons,List.find?_cons,h x (by simp),ih (fun y hy=>h y (by simp[hy]))]
theorem findSome?_map' {α β γ:Type} (f:α→β) (p:β→Option γ): ∀l:List α,(l.map f).findSome? p=l.findSome? (fun x=>p (f x)):=by
 intro l
 induction l with
 |nil=>rfl
 |cons x l ih=>simp only[List.map_cons,List.findSome?_cons,ih]
theorem findSome?_congr' {α γ:Type} {p q:α→Option γ}: ∀{l:List α},(∀x∈l,p x=q x)→l.findSome? p=l.findSome? q:=by
 intro l
 induction l with
 |nil=>intro _;rfl
 |cons x l ih=>
  intro h;rw[List.findSome?_cons,List.findSome?_cons,h x (by simp),ih (fun y hy=>h y (by simp[hy]))]
theorem zF {cs:List Cls} {gs:List Sig} {BS:List Bod} {c:List Ins} {nl:Nat} (hw:WfC cs) (hn:cs.length≤4) (hB: ∀b∈BS,(b.cls= -1)∨eQ b) (hx: ∀x∈c,WfX cs gs.length nl x):kX (cs.map toX) (BS.map (aN gs)) (c.map aL)=unl cs BS c:=by
 unfold kX unl;rw[List.length_map,find?_map',find?_congr' (fun x hm=>xT hw hn hB (hx x hm)),Option.map_map]
 rfl
theorem xU {im:Img} (hW:WfI im):((im.bodies.map (aN im.sigs)).findSome? fun x=>kX (im.classes.map toX) (im.bodies.map (aN im.sigs)) x.items)=im.bodies.findSome? (fun b=>unl im.classes im.bodies b.code):=by
 rw[findSome?_map'];refine findSome?_congr' (fun b hb=> ?_);exact zF hW.cls hW.nc (fun b hb=>AQ (hW.bod b hb) hW.nc) (hW.bod b hb).code
theorem pg (b:Nat) (im:Img) (w:World) (hW:WfI im) (hT:dn w b im):
  Calls Tryz.prog 104 #[.pointer (some ⟨b,0,none⟩)] w fun e w'=>e= .returned (.int .i64 (ky (im.bodies.findSome? (fun b=>unl im.classes im.bodies b.code))))∧But (fun _=>False) w w':=by
 rw[←xU hW];refine iV b (im.classes.map toX) (im.bodies.map (aN im.sigs)) w (by rw[List.length_map];have:=hW.nc;omega) (by rw[List.length_map];have:=hW.nb;omega) ?_ hT.cls hT.bod;intro x hx;obtain⟨b,hb,rfl⟩:=List.mem_map.1 hx;have:=(hW.bod b hb).len.2;simp only[aN,List.length_map];omega
end
section
open Go Go.RowKit Sp
attribute [local go_sem ↓] Go.wp_at_zero Go.wp_at_succ
theorem tK (b:Nat) (cs:List bv) (ms:List Sig) (p n:Nat) (k ans:UInt8) (w:World) {ap:Option Addr} {np cp:Nat} (hn:cs.length≤100) (hT:TxC w b cs):
  Calls Tryz.prog 140 #[.pointer (some ⟨b,0,none⟩),.agg #[.int .i64 p,.int .u8 112,.int .u8 k.toNat,.int .i64 n,.slice ap np cp],.int .u8 ans.toNat] w fun e w'=>But (fun _=>False) w w'∧ ∃v,e= .returned v∧BtB w' w.heap.size v [k,bM (bH cs k) n]:=by
 go_in
 go_wp2_with fail;have a2:But (fun _=>False) w (w.alloc (.cells #[.int .i64 p,.int .u8 112,.int .u8 k.toNat,.int .i64 n,.slice ap np cp] 219)):=But.alloc _ _ _;have a1:=heap_alloc_new w (.cells #[.int .i64 p,.int .u8 112,.int .u8 k.toNat,.int .i64 n,.slice ap np cp] 219);revert a2 a1;generalize (w.alloc (.cells #[.int .i64 p,.int .u8 112,.int .u8 k.toNat,.int .i64 n,.slice ap np cp] 219))=W;intro a2 a1;obtain⟨k0,k1,k2,k3,k4⟩:=bn a1;have gltW:=ae a1;have a6:=hid a1;clear a1;have a3:But (fun _=>False) W W.drew:=But.drew _ _;have a0:=hid (qa b cs k n W.drew hn ((hT.but a2).but a3));refine aD (But (fun _=>False) W) 9 (by kernel_rfl) ?_
 iterate 7 (refine aJ (v:=?_) rfl (by kernel_rfl) (fun _ _ _ h=>h) rfl a3 ?_ ?_;rotate_left;(focus (intro wS h;have q0:=(h.kc k2 gltW);have q1:=(h.kc k3 gltW);clear h;go_simp;try rfl));dsimp only[Act.put];try simp only[aK])
 refine ag rfl (by kernel_rfl) ?_;intro KS hKS;go_simp;refine a0.out.mono ?_;rintro en wx ⟨rfl,a5⟩;rw[a5];clear a5 wx a0;refine hKS.out _ _ (fun _=>a3) ?_;clear hKS KS;obtain⟨z,a4⟩: ∃z,bM (bH cs k) n=z:=⟨_,rfl⟩;rw[a4];have HZ:=hid a4;clear a4;refine ag rfl (by kernel_rfl) ?_;intro KS hKS;go_simp;refine hKS.out _ _ (fun _=>a3.trans (But.alloc _ _ _)) ?_;clear hKS KS;refine ag rfl (by kernel_rfl) ?_;intro KS hKS;go_simp;refine hKS.out _ _ nofun ?_;clear hKS KS;refine aH rfl (by kernel_rfl) ?_;have hz:=a2.size;go_wp2_with fail;exact b8 (.slice (some ⟨W.heap.size,0,none⟩) 2 2) Tryz.results140 rfl rfl ⟨a2.trans ((But.alloc _ _ _).trans (But.drew _ _)),_,rfl,by rw[HZ.out];exact BtB.but (BtB.lit W w.heap.size hz [k,z] (by simp)) (But.drew (fun _=>False) _) (fun _ _ h=>h)⟩
theorem vL (b:Nat) (cs:List bv) (ms:List Sig) (p n:Nat) (k ans:UInt8) (w:World) {ap:Option Addr} {np cp:Nat} (hm:ms.length≤100) (hM:TxM w b ms):
  Calls Tryz.prog 140 #[.pointer (some ⟨b,0,none⟩),.agg #[.int .i64 p,.int .u8 99,.int .u8 k.toNat,.int .i64 n,.slice ap np cp],.int .u8 ans.toNat] w fun e w'=>But (fun _=>False) w w'∧ ∃v,e= .returned v∧BtB w' w.heap.size v [k,(cM ms n).arg]:=by
 go_in
 go_wp2_with fail;have a2:But (fun _=>False) w (w.alloc (.cells #[.int .i64 p,.int .u8 99,.int .u8 k.toNat,.int .i64 n,.slice ap np cp] 219)):=But.alloc _ _ _;have a1:=heap_alloc_new w (.cells #[.int .i64 p,.int .u8 99,.int .u8 k.toNat,.int .i64 n,.slice ap np cp] 219);revert a2 a1;generalize (w.alloc (.cells #[.int .i64 p,.int .u8 99,.int .u8 k.toNat,.int .i64 n,.slice ap np cp] 219))=W;intro a2 a1;obtain⟨k0,k1,k2,k3,k4⟩:=bn a1;have gltW:=ae a1;have a7:=hid a1;clear a1;have a4:But (fun _=>False) W W.drew:=But.drew _ _;have a0:=hid (fd b ms n W.drew hm ((hM.but a2).but a4));refine aD (But (fun _=>False) W) 8 (by kernel_rfl) ?_
 iterate 5 (refine aJ (v:=?_) rfl (by kernel_rfl) (fun _ _ _ h=>h) rfl a4 ?_ ?_;rotate_left;(focus (intro wS h;have q0:=(h.kc k2 gltW);have q1:=(h.kc k3 gltW);clear h;go_simp;try rfl));dsimp only[Act.put];try simp only[aK])
 refine ag rfl (by kernel_rfl) ?_;intro KS hKS;go_simp;refine a0.out.mono ?_;rintro en wx ⟨rfl,a6⟩;clear a0;have a3:=a4.trans a6;refine hKS.out _ _ (fun _=>a3) ?_;clear hKS KS;obtain⟨z,a5⟩: ∃z,cM ms n=z:=⟨_,rfl⟩;rw[a5];have HZ:=hid a5;clear a5;obtain⟨za,zr⟩:=z;dsimp only;refine ag rfl (by kernel_rfl) ?_;intro KS hKS;go_simp;refine hKS.out _ _ (fun _=>a3) ?_;clear hKS KS;refine ag rfl (by kernel_rfl) ?_;intro KS hKS;go_simp;refine hKS.out _ _ (fun _=>a3.trans (But.alloc _ _ _)) ?_;clear hKS KS;refine ag rfl (by kernel_rfl) ?_;intro KS hKS;go_simp;refine hKS.out _ _ nofun ?_;clear hKS KS;refine aH rfl (by kernel_rfl) ?_
 have hz:=a2.size;go_wp2_with fail;have a8:=a3.size;exact b8 (.slice (some ⟨wx.heap.size,0,none⟩) 2 2) Tryz.results140 rfl rfl ⟨(a2.trans a3).trans (But.alloc _ _ _),_,rfl,by rw[HZ.out];exact BtB.lit wx w.heap.size (by omega) [k,za] (by simp)⟩
theorem kA (b:Nat) (cs:List bv) (ms:List Sig) (p n:Nat) (c k ans:UInt8) (w:World) {ap:Option Addr} {np cp:Nat} (hn:cs.length≤100) (hm:ms.length≤100) (hT:TxC w b cs) (hM:TxM w b ms):
  Calls Tryz.prog 140 #[.pointer (some ⟨b,0,none⟩),.agg #[.int .i64 p,.int .u8 c.toNat,.int .u8 k.toNat,.int .i64 n,.slice ap np cp],.int .u8 ans.toNat] w fun e w'=>But (fun _=>False) w w'∧ ∃v,e= .returned v∧BtB w' w.heap.size v (ay cs ms c k n ans):=by
 by_cases h112:c.toNat=112
 ·have hc:c=112:=UInt8.toNat_inj.1 h112;subst hc;exact tK b cs ms p n k ans w hn hT
 by_cases h99:c.toNat=99
 ·have hc:c=99:=UInt8.toNat_inj.1 h99;subst hc;exact vL b cs ms p n k ans w hm hM
 exact qc b cs ms p n c k ans w h112 h99
theorem fm {w:World} {g t:Nat} {x0 x1 x2:Value} (h:w.heap[g]?=some (.cells #[x0,x1,x2] t)):w.cell? ⟨g,0,none⟩=some x0∧w.cell? ⟨g,1,none⟩=some x1∧w.cell? ⟨g,2,none⟩=some x2:=by
 refine⟨?_,?_,?_⟩
 ·rw[cell_of_row w g 0 _ _ (0,0) h];rfl
 ·rw[cell_of_row w g 1 _ _ (0,0) h];rfl
 ·rw[cell_of_row w g 2 _ _ (0,0) h];rfl
theorem kZ {ms:List Sig} {n:Nat} (h:n<ms.length):(cM ms n).arg=gU ms n∧(cM ms n).ret=fh ms n:=by
 unfold cM gU fh;rw[List.getElem?_eq_getElem h];exact⟨rfl,rfl⟩
theorem nG {x:Ins} (h:x.op.toNat=110∨x.op.toNat=120∨x.op.toNat=103∨x.op.toNat=112∨x.op.toNat=99):(aL x).cls=cL x.a:=by unfold aL;rw[if_pos h];rfl
def eR (g:Nat) (im:Img):Value:=match im.bodies.findSome? (fun b=>unl im.classes im.bodies b.code)with
 |some q=> .agg #[.int .i64 3,.int .i64 q,.pointer none,.slice none 0 0]
 |none=> .agg #[.int .i64 0,.int .i64 0,.pointer (some ⟨g,0,none⟩),.slice none 0 0]
theorem ph (g j:Nat) (w:World):
  Calls Tryz.prog 64 #[.pointer (some ⟨g,0,none⟩),.int .i64 j] w fun en w'=>But (fun _=>False) w w'∧en= .returned (.agg #[.int .i64 2,.int .i64 j,.pointer none,.slice none 0 0]):=by
 have a1: ¬(j:Int)= -1:=by omega
 have e1:((j:Int)== -1)=false:=by rw[beq_eq_false_iff_ne];omega
 have e2:((j:Int)!= -1)=true:=by simp[bne,e1]
 go_in
 go_wp2_with fail;have h9:=heap_alloc_new w (.cells #[.int .i64 2,.int .i64 j,.pointer none,.slice none 0 0] 60);have a0:But (fun _=>False) w (w.alloc (.cells #[.int .i64 2,.int .i64 j,.pointer none,.slice none 0 0] 60)):=But.alloc _ _ _;revert h9 a0;generalize (w.alloc (.cells #[.int .i64 2,.int .i64 j,.pointer none,.slice none 0 0] 60))=w9;intro h9 a0;obtain⟨r0,r1,r2,r3⟩:=dT h9;exact bodyPost_ret (v:= .agg #[.int .i64 2,.int .i64 j,.pointer none,.slice none 0 0]) (by simp[results,Tryz.results64,go_sem,r0,r1,r2,r3]) rfl ⟨a0,rfl⟩
end
end Go.Proofs.YtpfkkmacakjmbaaGreatDoor
