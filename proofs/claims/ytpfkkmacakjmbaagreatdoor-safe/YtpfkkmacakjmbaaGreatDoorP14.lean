import Derived.Test.YtpfkkmacakjmbaaGreatDoorP13
set_option maxRecDepth 100000
set_option maxHeartbeats 6400000
set_option linter.all false
namespace Go.Proofs.YtpfkkmacakjmbaaGreatDoor
open Proofs.Tryz
section
open Go Go.RowKit Sp
attribute [local go_sem ↓] dG dH
theorem TbV.apart {w:World} {base:Nat} {v:Value} {bs:List bM} (h:TbV w base v bs) {g e:Nat} {cur:Array Value} (hh:w.heap[g]?=some (.cells cur e)) (hne:e≠115): ¬v.ownBlock=some g:=by
 obtain⟨l,h1,_⟩:=h;exact fH h1 hh hne
theorem TbV.ge {w:World} {base:Nat} {v:Value} {bs:List bM} (h:TbV w base v bs): ∀g,v.ownBlock=some g->base<=g:=by
 obtain⟨l,h1,_⟩:=h;exact ay h1
def AH (s:ByteArray) (SC:List Cls) (ms:List Sig) (cs:List bV) (bs:List bM) (j:Nat) (bad:Bool):Prop:=
 ((bad||decide (j<s.size))=true/\ec s= .error j)\/((bad||decide (j<s.size))=false/\ ∃im,ec s= .ok im/\im.zz=SC/\cs=SC.map toX/\im.zj=ms/\bs=im.zq.map (bu ms))
theorem yB (s:ByteArray) (w:World) (hs:s.size<=2000):
  Calls prog 63 #[.string s] w λen w'=>B_ w w'/\ ∃g p,en= .returned (.tuple #[.pointer (some ⟨g,0,none⟩),.int .i64 p])/\w.heap.size<=g/\
   ((∃j,ec s= .error j/\p=(j:Int)/\w'.heap[g]?=some (.cells #[S_,S_,S_] 109))\/(p= -1/\ ∃im,ec s= .ok im/\eS w' g im)):=by
 go_in
 go_wp2_with fail;refine(ug s w).mono ?_;rintro en w0 ⟨rfl,o4,t3,p3⟩;have f2:w.heap.size<w.heap.size+1:=by omega
 go_wp2_with fail;refine(jM w.heap.size (w.heap.size+1) s _ _ w0 hs p3 f2 (by omega)).mono ?_;rintro en w1 ⟨rfl,f5,v0,cs,j0,b0,p4,k9,f3,p6⟩;obtain⟨a0,cap0,s1⟩:=k9.len;subst s1;have t4:=f5.size;have g2:But (λk=>k=w.heap.size\/w.heap.size+1<=k) w w1:=(o4.mono (λ_ _ h=>h.elim)).trans f5;clear o4 f5 p3;go_wp2_with fail;refine(jN w.heap.size (w.heap.size+1) s j0 b0 a0 cs.length cap0 _ w1 hs f3 p4 f2 (by omega)).mono ?_;rintro en w2 ⟨rfl,h8,v1,ms,j1,b1,p5,p2,n7,n1⟩;obtain⟨a1,cap1,s2⟩:=aw p2;subst s2;have p0:=k9.but h8 (λg e cur _ _ hg h=>by omega);have t5:=h8.size;have k0:But (λk=>k=w.heap.size\/w.heap.size+1<=k) w w2:=g2.next h8 (λ_ _ h=>Or.inl h)
 clear h8 p4 k9 g2
 --the zz,if there are any
 obtain⟨SC,i2,f4⟩: ∃SC:List Cls,SC.length=cs.length/\((b0=false/\ ∃SC',ep s 4 [] 0= .ok (SC',j0)/\SC'=SC/\cs=SC.map toX/\WfC SC)\/(b0=true/\ep s 4 [] 0= .error j0)):=by
  obtain⟨h1,SC,h2,h3,h4⟩ |h:=p6
  .exact⟨SC,by rw[h3,cP],Or.inl ⟨h1,SC,h2,rfl,h3,h4⟩⟩
  .exact⟨List.replicate cs.length ⟨-1,[]⟩,by simp,Or.inr h⟩
 have e5:b1=false->cs=SC.map toX/\WfC SC:=by
  intro h;obtain⟨_,h2⟩ | ⟨h2,_⟩:=n1
  .obtain⟨_,_,_,_,h3⟩ | ⟨h3,_⟩:=f4
   .exact h3
   .rw[h3]at h2;simp[mU]at h2
  .rw[h]at h2;cases h2
 obtain⟨R,i1⟩: ∃R,(if b1=true then .error j1 else fU s SC ms 6 [] j1)=R:=⟨_,rfl⟩
 have e0:vX (b1=false) s SC ms R 6 [] j1 b1:=by
  cases b1 with
  |true=>exact Or.inr ⟨rfl,i1.symm⟩
  |false=>exact Or.inl ⟨rfl,rfl,[],rfl,by simp,rfl,i1⟩
 have j7:=hid e0;have i4:=hid e5;have e3:=hid (λbs l X j2 j3 j4 b2 b3 b4=>AG (X:=X) (bs:=bs) (l:=l) (j2:=j2) (j3:=j3) (j4:=j4) (b2:=b2) (b3:=b3) (b4:=b4) f4 i2 n1 i1);have q9:=hid i2;rw[<-i2]at p5 p0 f3;clear e0 e5 p6 n1 f4 i1 i2;go_wp2_with fail
 go_loopg [] 7 (λmm wr=> ∃(a2:Option Addr) (a7 j:Nat) (bad' mn:Bool) (bs:List bM) (x0 x1 x2 x3 x4:Value),w.heap.size+1<=wr.heap.size/\But (λk=>k=w.heap.size\/w.heap.size+1<=k) w wr/\XrB wr w.heap.size s j bad' (.slice a0 SC.length cap0) (.slice a1 ms.length cap1) ⟨.slice a2 bs.length a7,x0,x1,x2,x3,x4,mn⟩/\TcV wr (w.heap.size+1) (.slice a0 SC.length cap0) cs/\TmV wr (w.heap.size+1) (.slice a1 ms.length cap1) ms/\TbV wr (w.heap.size+1) (.slice a2 bs.length a7) bs/\Hid ((mn=false/\bs.length<=6/\ ∃m1,mm=m1+1/\vX (b1=false) s SC ms R m1 bs j bad')\/(mn=true/\AH s SC ms cs bs j bad')))
 case atStart=>exact⟨none,0,j1,b1,false,[],_,_,_,_,_,by omega,k0,p5,p0,p2,⟨[],df _ _ _ _,rfl,by simp⟩,hid (Or.inl ⟨rfl,by simp,6,rfl,j7.out⟩)⟩
 case round=>
  obtain⟨a2,a7,j,bad',mn,bs,x0,x1,x2,x3,x4,t6,k3,f6,l4,i0,i3,h7⟩:=hrel
  by_cases hstop:mn=true\/bad'=true
  .have g6:AH s SC ms cs bs j bad':=by
    obtain⟨h1,_,m1,_,hb⟩ | ⟨_,h⟩:=h7.out
    .have r4:bad'=true:=by
      obtain h|h:=hstop
      .rw[h1]at h;cases h
      .exact h
     subst r4;obtain⟨h,_⟩ | ⟨_,h⟩:=hb
     .cases h
     .have:=e3.out bs [] ⟨0,0,0,[],[]⟩ j j j true true true (Or.inr ⟨rfl,h⟩) (Or.inr ⟨rfl,by simp[fw]⟩) (Or.inr ⟨rfl,by simp[ir]⟩);obtain⟨_,h⟩ | ⟨h,_⟩:=this
      .exact Or.inl ⟨by simp,h⟩
      .simp at h
    .exact h
   have HF:=hid g6;have e1:=hid (kZ w.heap.size s j bad' _ _ _ wr f6 hstop);clear g6 h7 e3 j7 i4;go_wp2_with fail;refine e1.out.mono ?_;rintro en w3 ⟨rfl,k,rfl⟩;clear e1 hstop;go_wp2_with fail;refine(ov w.heap.size s j bad' _ _ _ (wr.drewN k) (f6.drewN k)).mono ?_;rintro en w4 ⟨a8,q0⟩;have c7:B_ w w4:=((k3.next (aK (λ_=>False) wr k) (λ_ _ h=>h.elim)).next a8 (λ_ _ h=>h.elim)).mono (λk hk h=>by omega);have q5:w.heap.size<=(wr.drewN k).heap.size:=by show w.heap.size<=wr.heap.size;omega
   have h9:B_ wr w4:=(aK _ _ _).trans a8;unfold Dn at q0;obtain⟨hb,g,hg,rfl,r5⟩ | ⟨hb,rfl⟩:=q0
   .have i7:Hid (ec s= .error j):=by
     obtain⟨_,h⟩ | ⟨h,_⟩:=HF.out
     .exact hid h
     .rw[hb]at h;cases h
    clear HF;go_wp2_with fail;exact cW (v:= .tuple #[.pointer (some ⟨g,0,none⟩),.int .i64 j]) (by simp[results,results63,go_sem]) rfl ⟨c7,g,j,rfl,by omega,Or.inl ⟨j,i7.out,rfl,r5⟩⟩
   .have r3:=f6.lt
    have i7:Hid (∃im,ec s= .ok im/\eS w4 w.heap.size im):=by
     obtain⟨h,_⟩ | ⟨_,im,s0,n4,n5,g7,n6⟩:=HF.out
     .rw[hb]at h;cases h
     .have e8:=l4.but h9 (λ_ _ _ _ _ _ h=>h);have g3:=i0.but h9 (λ_ _ _ _ _ _ h=>h);have e4:=i3.but h9 (λ_ _ _ _ _ _ h=>h);have e2:=f6.but h9 (λh=>h);refine hid ⟨im,s0,?_,?_,?_⟩
      .rw[n4,<-n5];exact e8.tx e2.c0 e2.lt
      .rw[g7];exact g3.tx e2.c1 e2.lt
      .rw[g7,<-n6];exact e4.tx e2.c2 e2.lt
    clear HF;go_wp2_with fail;exact cW (v:= .tuple #[.pointer (some ⟨w.heap.size,0,none⟩),.int .i64 (-1)]) (by simp[results,results63,go_sem]) rfl ⟨c7,w.heap.size,-1,rfl,b8 _,Or.inr ⟨rfl,i7.out⟩⟩
  .have r8:mn=false:=by cases mn;rfl;exact absurd (Or.inl rfl) hstop
   have r2:bad'=false:=by cases bad';rfl;exact absurd (Or.inr rfl) hstop
   subst r8 r2;obtain⟨_,s6,m1,t0,f5⟩:=h7.out.resolve_right (λh=>by cases h.1);have h5:=hid f5;clear f5;clear hstop h7 j7
   by_cases hgo:bs.length<6/\pk s j≠59
   .obtain⟨q1,n8⟩:=hgo;obtain⟨hG,BS,o5,q3,r1,q2⟩:=h5.out.next f3 q1 n8;obtain⟨g5,q4⟩:=i4.out hG;have o3:=hid q2;have q7:=hid g5;have r0:=hid q4;have e1:=hid (ld w.heap.size (w.heap.size+1) s j a0 a2 SC.length cap0 bs.length a7 _ x0 x1 x2 x3 x4 wr ms BS (BS.map (bu ms)) rfl f3 n7 r1 (λb hb=>Or.inr (q3 b hb)) hs f6 i0 (by rw[<-o5];exact i3) f2 q1 n8);clear n8 q2 o5 q3 g5 q4 h5;go_wp2_with fail;refine e1.out.mono ?_;rintro en w4 ⟨a8,rfl,i5⟩;obtain⟨c,m,r,al,capl,lo,j4,b6,e2,l6,r6,e4⟩:=i5;clear e1;have e8:=l4.but a8 (λg e cur _ _ hg h=>by omega);have g3:=i0.but a8 (λg e cur _ _ hg h=>by omega)
    have f0:=i3.but a8 (λg e cur _ _ hg h=>by omega);have c7:But (λk=>k=w.heap.size\/w.heap.size+1<=k) w w4:=k3.next a8 (λ_ _ h=>Or.inl h);have q5:=a8.size;have c9:BtB w4 (w.heap.size+1) (.slice al lo.length capl) lo:=dn l6 (by omega);have o2:=hid (o3.out c m r lo j4 b6 e4);clear e4 o3;have g1:=hid (ou w.heap.size (w.heap.size+1) s j4 b6 SC a0 a1 al ms.length lo.length cap0 cap1 capl _ w4 (Or.inr ⟨r0.out,by rw[<-q7.out];exact e8⟩) f3 n7 (by omega) hs e2 rfl f2);go_wp2_with fail;refine g1.out.mono ?_;rintro en w5 ⟨b9,i6⟩;obtain⟨ai,capi,items,j5,a5,m5,rfl,m4,l5,n3,g4,h0⟩:=i6;have g0:=hid (kG.fin g4 h0)
    have l0:=e8.but b9 (λg e cur _ _ hg h=>by omega);have m2:=g3.but b9 (λg e cur _ _ hg h=>by omega);have a4:=f0.but b9 (λg e cur _ _ hg h=>by omega);have m0:=c9.but b9 (λg hg h=>by have:=ay c9 g hg;omega);have s3:=b9.size;clear g4 h0 g1;have f8:=hid (iB w.heap.size (w.heap.size+1) w4.heap.size s j5 a5 false _ _ _ a2 a7 bs ⟨c,m,r,lo,items⟩ al ai capl capi w5 (by omega) n3 hs m4 a4 m0 l5 f2 (by omega) (by omega));go_wp2_with fail;refine f8.out.mono ?_;rintro en w6 ⟨rfl,a3,a6,e6,s5,n0,f1⟩;clear f8
    obtain⟨m',s9,o6⟩:=o2.out ⟨c,m,r,lo,items⟩ (tkP s 46 j5 a5).1 (tkP s 46 j5 a5).2 (by
     obtain⟨h1,is,h2,h3⟩ |h:=g0.out
     .exact Or.inl ⟨h1,is,h2,by rw[h3]⟩
     .exact Or.inr h)
    have q6:=hid o6;have n2:=a4.ge
    have l3:=l0.but a3 (λg e cur hh he hg h=>by
     obtain h|h:=h
     .omega
     .exact a4.apart hh (by rcases he with he|he<;>(rw[he];decide)) h)
    have m3:=m2.but a3 (λg e cur hh he hg h=>by
     obtain h|h:=h
     .omega
     .exact a4.apart hh (by rw[he];decide) h)
    have e7:But (λk=>k=w.heap.size\/w.heap.size+1<=k) w w6:=(c7.next b9 (λ_ _ h=>Or.inl h)).next a3 (λk hk h=>by
     obtain h|h:=h
     .exact Or.inl h
     .exact Or.inr (n2 k h))
    have s4:=a3.size;clear o6 o2 g0;go_wp2_with fail
    go_roundg (m'+1)
    case measure=>omega
    case rel=>exact⟨a6,e6,_,_,false,bs++ [⟨c,m,r,lo,items⟩],_,_,_,_,_,by omega,e7,n0,l3,m3,f1,hid (Or.inl ⟨rfl,by simp;omega,m',rfl,q6.out⟩)⟩
   .have d6: ¬bs.length<6\/pk s j=59:=by
     by_cases h6:bs.length<6
     .right
      by_cases hp:pk s j=59
      .exact hp
      .exact absurd ⟨h6,hp⟩ hgo
     .exact Or.inl h6
    have f7:=hid (h5.out.fin (d6.imp id (λh=>by simp[h])));have e1:=hid (lh w.heap.size s j a0 a2 SC.length cap0 bs.length a7 _ x0 x1 x2 x3 x4 wr f3 hs f6 d6);clear d6 hgo h5;obtain⟨TK,p8⟩: ∃TK,tkP s 59 j false=TK:=⟨_,rfl⟩;rw[p8]at f7 e1;obtain⟨j2,b2⟩:=TK;dsimp only at f7 e1;have n9:=hid (λl X j3 j4 b3 b4=>e3.out bs l X j2 j3 j4 b2 b3 b4 f7.out)
    have o1:Hid (b2=true\/b1=false):=by
     obtain⟨_,h,_⟩ | ⟨h,_⟩:=f7.out
     .exact hid (Or.inr h)
     .exact hid (Or.inl h)
    clear p8 f7 e3;go_wp2_with fail;refine e1.out.mono ?_;rintro en w4 ⟨a8,rfl,i5⟩;obtain⟨al,capl,lo,j4,b6,e2,l6,r6,e4⟩:=i5;clear e1;have e8:=l4.but a8 (λg e cur _ _ hg h=>by omega);have g3:=i0.but a8 (λg e cur _ _ hg h=>by omega);have f0:=i3.but a8 (λg e cur _ _ hg h=>by omega);have c7:But (λk=>k=w.heap.size\/w.heap.size+1<=k) w w4:=k3.next a8 (λ_ _ h=>Or.inl h);have q5:=a8.size;have c9:BtB w4 (w.heap.size+1) (.slice al lo.length capl) lo:=dn l6 (by omega);have e9:=e4;rw[q9.out]at e9;have o0:=hid (λX j5 b5=>n9.out lo X j4 j5 b6 b5 e9)
    have p1:b6=true\/(WfC SC/\TcV w4 (w.heap.size+1) (.slice a0 SC.length cap0) (SC.map toX)):=by
     obtain h|h:=o1.out
     .left
      obtain⟨_,h2⟩ | ⟨h2,_⟩:=e4
      .rw[h]at h2;simp[fw]at h2
      .exact h2
     .obtain⟨h1,h2⟩:=i4.out h;exact Or.inr ⟨h2,by rw[<-h1];exact e8⟩
    have g1:=hid (ou w.heap.size (w.heap.size+1) s j4 b6 SC a0 a1 al ms.length lo.length cap0 cap1 capl _ w4 p1 f3 n7 (by omega) hs e2 rfl f2);clear e4 e9 n9 o1 p1;go_wp2_with fail;refine g1.out.mono ?_;rintro en w5 ⟨b9,i6⟩;obtain⟨ai,capi,items,j5,a5,m5,rfl,m4,l5,n3,g4,h0⟩:=i6;have g0:=hid (kG.fin g4 h0);have l0:=e8.but b9 (λg e cur _ _ hg h=>by omega);have m2:=g3.but b9 (λg e cur _ _ hg h=>by omega);have a4:=f0.but b9 (λg e cur _ _ hg h=>by omega);have m0:=c9.but b9 (λg hg h=>by have:=ay c9 g hg;omega);have s3:=b9.size;clear g4 h0 g1;have f8:=hid (iB w.heap.size (w.heap.size+1) w4.heap.size s j5 a5 true _ _ _ a2 a7 bs ⟨45,0,105,lo,items⟩ al ai capl capi w5 (by omega) n3 hs m4 a4 m0 l5 f2 (by omega) (by omega))
    go_wp2_with fail;refine f8.out.mono ?_;rintro en w6 ⟨rfl,a3,a6,e6,s5,n0,f1⟩;clear f8
    have q8:Hid (AH s SC ms cs (bs++ [⟨45,0,105,lo,items⟩]) (tkP s 46 j5 a5).1 (tkP s 46 j5 a5).2):=by
     refine hid (o0.out ⟨45,0,105,lo,items⟩ _ _ ?_);obtain⟨h1,is,h2,h3⟩ |h:=g0.out
     .exact Or.inl ⟨h1,is,h2,by rw[h3]⟩
     .exact Or.inr h
    have n2:=a4.ge
    have l3:=l0.but a3 (λg e cur hh he hg h=>by
     obtain h|h:=h
     .omega
     .exact a4.apart hh (by rcases he with he|he<;>(rw[he];decide)) h)
    have m3:=m2.but a3 (λg e cur hh he hg h=>by
     obtain h|h:=h
     .omega
     .exact a4.apart hh (by rw[he];decide) h)
    have e7:But (λk=>k=w.heap.size\/w.heap.size+1<=k) w w6:=(c7.next b9 (λ_ _ h=>Or.inl h)).next a3 (λk hk h=>by
     obtain h|h:=h
     .exact Or.inl h
     .exact Or.inr (n2 k h))
    have s4:=a3.size;clear o0 g0;go_wp2_with fail
    go_roundg 0
    case measure=>omega
    case rel=>exact⟨a6,e6,_,_,true,bs++ [⟨45,0,105,lo,items⟩],_,_,_,_,_,by omega,e7,n0,l3,m3,f1,hid (Or.inr ⟨rfl,q8.out⟩)⟩
end
section
open Go Go.RowKit Sp
theorem Do {cs:List Cls} {gs:List Sig} {b:Bod} (h:WfB cs gs b) (hn:cs.length<=4):(b.cls= -1)\/gF b:=by
 obtain⟨h1,_⟩ | ⟨h1,h2,h3,h4⟩:=h.cls
 .exact Or.inl h1
 .exact Or.inr ⟨h1,by omega,h3⟩
theorem AI {c:UInt8} {n:Nat} (h:aN n c=true) (hn:n<=4):c=UInt8.ofNat (65+(kl c).toNat):=by
 rw[<-pE h hn]
 congr 2
 unfold kl;have:(UInt8.ofNat (65+(c.toNat-65)))=c:=pE h hn;rw[this];omega
theorem AJ {n x:Nat} (h:x<n) (hn:n<=4):aN n (UInt8.ofNat (65+x))=true/\kl (UInt8.ofNat (65+x))=x:=by
 have hv:(UInt8.ofNat (65+x)).toNat=65+x:=by simp;omega
 constructor
 .simp only[aN,hv,et,ed];omega
 .unfold kl;rw[hv];omega
theorem ow {cs:List Cls} {gs:List Sig} {BS:List Bod} (hw:WfC cs) (hn:cs.length<=4) (hB: ∀b∈BS,(b.cls= -1)\/gF b) (m:Nat):
  ∀(f f' x:Nat),x<cs.length->x<f->x<f'->iU (cs.map toX) (BS.map (bu gs)) m f (UInt8.ofNat (65+x))=cY cs BS m f' x:=by
 intro f
 induction f with
 |zero=>intro f' x _ h _;omega
 |succ f ih=>
  intro f' x hx h1 h2;obtain⟨g,rfl⟩: ∃g,f'=g+1:=⟨f'-1,by omega⟩;have hv:(UInt8.ofNat (65+x)).toNat=65+x:=by simp;omega
  have a0:=qY (gs:=gs) (m:=m) hB (x:=x) (by omega);rw[iU,if_neg (show¬(UInt8.ofNat (65+x)).toNat=45 by omega),a0,cY,if_neg (show¬(x:Int)<0 by omega)]
  split
  .rfl
  .obtain⟨hl,hk⟩:=AJ hx hn;have hp:=mS hw hn hl;rw[hk]at hp;have a1:=dW hw (p:=(x:Int)) (by omega);obtain⟨e1,e2⟩ | ⟨e1,e2,e3⟩:=hp
   .rw[e2]
    have e4: ∀k,iU (cs.map toX) (BS.map (bu gs)) m k 45= -1:=by
     intro k
     cases k with
     |zero=>rfl
     |succ k=>rw[iU];simp
    have e5: ∀k,cY cs BS m k (cX cs x)= -1:=by
     intro k
     cases k with
     |zero=>rfl
     |succ k=>rw[cY,if_pos e1]
    rw[e4,e5]
   .have e6:=AI e2 hn;rw[e3]at e6;rw[e6];have e7:((cX cs x).toNat:Int)=cX cs x:=by omega
    have e8:(cX cs x).toNat<cs.length:=by omega
    have:=ih g (cX cs x).toNat e8 (by omega) (by omega);rw[this,e7]
theorem AK {cs:List Cls} {gs:List Sig} {BS:List Bod} {x:Ins} {nl n:Nat} (hw:WfC cs) (hn:cs.length<=4) (hB: ∀b∈BS,(b.cls= -1)\/gF b) (hx:WfX cs gs.length nl x):gd (cs.map toX) (BS.map (bu gs)) n (bP x)=dp cs BS n x:=by
 unfold gd dp;have e1:(bP x).op=x.op:=rfl;have e2:(bP x).num=x.b:=rfl;rw[e1,e2]
 by_cases h1:x.op.toNat=106\/x.op.toNat=102
 .rw[if_pos h1];have h9: ¬x.op.toNat=99:=by omega
  obtain h|h:=h1<;>simp[h]
 .rw[if_neg h1];have a0:=not_or.1 h1
  by_cases h9:x.op.toNat=99
  .rw[if_pos h9];have ha:=hx.cls (by omega)
   have e3:(bP x).cls=UInt8.ofNat (65+x.a):=by
    unfold bP;rw[if_pos (by omega)]
   rw[e3,cP,ow hw hn hB x.b cs.length 5 x.a ha ha (by omega)];simp[h9]
  .rw[if_neg h9];simp[h9,a0.1,a0.2]
theorem find?_map' {α β:Type} (f:α->β) (p:β->Bool): ∀l:List α,(l.map f).find? p=(l.find? (λx=>p (f x))).map f:=by
 intro l
 induction l with
 |nil=>rfl
 |cons x l ih=>
  simp only[List.map_cons,List.find?_cons,ih]
  cases p (f x)<;>rfl
theorem find?_congr' {α:Type} {p q:α->Bool}: ∀{l:List α},(∀x∈l,p x=q x)->l.find? p=l.find? q:=by
 intro l
 induction l with
 |nil=>intro _;rfl
 |cons x l ih=>
  intro h;rw[List.find?_cons,List.find?_cons,h x (by simp),ih (λy hy=>h y (by simp[hy]))]
theorem findSome?_map' {α β γ:Type} (f:α->β) (p:β->Option γ): ∀l:List α,(l.map f).findSome? p=l.findSome? (λx=>p (f x)):=by
 intro l
 induction l with
 |nil=>rfl
 |cons x l ih=>simp only[List.map_cons,List.findSome?_cons,ih]
theorem findSome?_congr' {α γ:Type} {p q:α->Option γ}: ∀{l:List α},(∀x∈l,p x=q x)->l.findSome? p=l.findSome? q:=by
 intro l
 induction l with
 |nil=>intro _;rfl
 |cons x l ih=>
  intro h;rw[List.findSome?_cons,List.findSome?_cons,h x (by simp),ih (λy hy=>h y (by simp[hy]))]
theorem Cb {cs:List Cls} {gs:List Sig} {BS:List Bod} {c:List Ins} {nl:Nat} (hw:WfC cs) (hn:cs.length<=4) (hB: ∀b∈BS,(b.cls= -1)\/gF b) (hx: ∀x∈c,WfX cs gs.length nl x):mW (cs.map toX) (BS.map (bu gs)) (c.map bP)=unl cs BS c:=by
 unfold mW unl;rw[cP,find?_map',find?_congr' (λx hm=>AK hw hn hB (hx x hm)),Option.map_map]
 rfl
theorem AL {im:Img} (hW:WfI im):((im.zq.map (bu im.zj)).findSome? λx=>mW (im.zz.map toX) (im.zq.map (bu im.zj)) x.items)=im.zq.findSome? (λb=>unl im.zz im.zq b.code):=by
 rw[findSome?_map'];refine findSome?_congr' (λb hb=> ?_);exact Cb hW.cls hW.nc (λb hb=>Do (hW.bod b hb) hW.nc) (hW.bod b hb).code
theorem rc (b:Nat) (im:Img) (w:World) (hW:WfI im) (hT:eS w b im):
  Calls prog 104 #[.pointer (some ⟨b,0,none⟩)] w λe w'=>e= .returned (.int .i64 (ml (im.zq.findSome? (λb=>unl im.zz im.zq b.code))))/\B_ w w':=by
 rw[<-AL hW];refine kE b (im.zz.map toX) (im.zq.map (bu im.zj)) w (by rw[cP];have:=hW.nc;omega) (by rw[cP];have:=hW.nb;omega) ?_ hT.cls hT.bod;intro x hx;obtain⟨b,hb,rfl⟩:=List.mem_map.1 hx;have:=(hW.bod b hb).len.2;simp only[bu,cP];omega
end
section
open Go Go.RowKit Sp
attribute [local go_sem ↓] dG dH
theorem vY (b:Nat) (cs:List bV) (ms:List Sig) (p n:Nat) (k ans:UInt8) (w:World) {ap:Option Addr} {np cp:Nat} (hn:cs.length<=100) (hT:TxC w b cs):
  Calls prog 140 #[.pointer (some ⟨b,0,none⟩),.agg #[.int .i64 p,.int .u8 112,.int .u8 k.toNat,.int .i64 n,.slice ap np cp],.int .u8 ans.toNat] w λe w'=>B_ w w'/\ ∃v,e= .returned v/\BtB w' w.heap.size v [k,cB (cQ cs k) n]:=by
 go_in
 go_wp2_with fail;have a2:B_ w (w.alloc (.cells #[.int .i64 p,.int .u8 112,.int .u8 k.toNat,.int .i64 n,.slice ap np cp] 219)):=ag _ _ _;have a1:=aO w (.cells #[.int .i64 p,.int .u8 112,.int .u8 k.toNat,.int .i64 n,.slice ap np cp] 219);revert a2 a1;generalize (w.alloc (.cells #[.int .i64 p,.int .u8 112,.int .u8 k.toNat,.int .i64 n,.slice ap np cp] 219))=W;intro a2 a1;obtain⟨k0,k1,k2,k3,k4⟩:=bN a1;have gltW:=ae a1;have a6:=hid a1;clear a1;have a3:B_ W W.drew:=aD _ _;have a0:=hid (rZ b cs k n W.drew hn ((hT.but a2).but a3));refine aI (B_ W) 9 ?_
 iterate 7 (refine aQ (v:=?_) rfl a3 ?_ ?_;rotate_left;(focus (intro wS h;have q0:=(h.kc k2 gltW);have q1:=(h.kc k3 gltW);clear h;go_simp;try rfl));dsimp only[Act.put];try simp only[cH])
 refine az rfl ?_;intro KS hKS;go_simp;refine a0.out.mono ?_;rintro en wx ⟨rfl,a5⟩;rw[a5];clear a5 wx a0;refine hKS.out _ _ (λ_=>a3) ?_;clear hKS KS;obtain⟨z,a4⟩: ∃z,cB (cQ cs k) n=z:=⟨_,rfl⟩;rw[a4];have HZ:=hid a4;clear a4;refine az rfl ?_;intro KS hKS;go_simp;refine hKS.out _ _ (λ_=>a3.trans (ag _ _ _)) ?_;clear hKS KS;refine az rfl ?_;intro KS hKS;go_simp;refine hKS.out _ _ nofun ?_;clear hKS KS;refine aR rfl ?_;have hz:=a2.size;go_wp2_with fail;exact du (.slice (some ⟨W.heap.size,0,none⟩) 2 2) results140 rfl rfl ⟨a2.trans ((ag _ _ _).trans (aD _ _)),_,rfl,by rw[HZ.out];exact BtB.but (BtB.lit W w.heap.size hz [k,z] (by simp)) (aD (λ_=>False) _) (λ_ _ h=>h)⟩
theorem yC (b:Nat) (cs:List bV) (ms:List Sig) (p n:Nat) (k ans:UInt8) (w:World) {ap:Option Addr} {np cp:Nat} (hm:ms.length<=100) (hM:TxM w b ms):
  Calls prog 140 #[.pointer (some ⟨b,0,none⟩),.agg #[.int .i64 p,.int .u8 99,.int .u8 k.toNat,.int .i64 n,.slice ap np cp],.int .u8 ans.toNat] w λe w'=>B_ w w'/\ ∃v,e= .returned v/\BtB w' w.heap.size v [k,(dx ms n).arg]:=by
 go_in
 go_wp2_with fail;have a2:B_ w (w.alloc (.cells #[.int .i64 p,.int .u8 99,.int .u8 k.toNat,.int .i64 n,.slice ap np cp] 219)):=ag _ _ _;have a1:=aO w (.cells #[.int .i64 p,.int .u8 99,.int .u8 k.toNat,.int .i64 n,.slice ap np cp] 219);revert a2 a1;generalize (w.alloc (.cells #[.int .i64 p,.int .u8 99,.int .u8 k.toNat,.int .i64 n,.slice ap np cp] 219))=W;intro a2 a1;obtain⟨k0,k1,k2,k3,k4⟩:=bN a1;have gltW:=ae a1;have a7:=hid a1;clear a1;have a4:B_ W W.drew:=aD _ _;have a0:=hid (gV b ms n W.drew hm ((hM.but a2).but a4));refine aI (B_ W) 8 ?_
 iterate 5 (refine aQ (v:=?_) rfl a4 ?_ ?_;rotate_left;(focus (intro wS h;have q0:=(h.kc k2 gltW);have q1:=(h.kc k3 gltW);clear h;go_simp;try rfl));dsimp only[Act.put];try simp only[cH])
 refine az rfl ?_;intro KS hKS;go_simp;refine a0.out.mono ?_;rintro en wx ⟨rfl,a6⟩;clear a0;have a3:=a4.trans a6;refine hKS.out _ _ (λ_=>a3) ?_;clear hKS KS;obtain⟨z,a5⟩: ∃z,dx ms n=z:=⟨_,rfl⟩;rw[a5];have HZ:=hid a5;clear a5;obtain⟨za,zr⟩:=z;dsimp only;refine az rfl ?_;intro KS hKS;go_simp;refine hKS.out _ _ (λ_=>a3) ?_;clear hKS KS;refine az rfl ?_;intro KS hKS;go_simp;refine hKS.out _ _ (λ_=>a3.trans (ag _ _ _)) ?_;clear hKS KS;refine az rfl ?_;intro KS hKS;go_simp;refine hKS.out _ _ nofun ?_;clear hKS KS;refine aR rfl ?_;have hz:=a2.size;go_wp2_with fail;have a8:=a3.size;exact du (.slice (some ⟨wx.heap.size,0,none⟩) 2 2) results140 rfl rfl ⟨(a2.trans a3).trans (ag _ _ _),_,rfl,by rw[HZ.out];exact BtB.lit wx w.heap.size (by omega) [k,za] (by simp)⟩
theorem mo (b:Nat) (cs:List bV) (ms:List Sig) (p n:Nat) (c k ans:UInt8) (w:World) {ap:Option Addr} {np cp:Nat} (hn:cs.length<=100) (hm:ms.length<=100) (hT:TxC w b cs) (hM:TxM w b ms):
  Calls prog 140 #[.pointer (some ⟨b,0,none⟩),.agg #[.int .i64 p,.int .u8 c.toNat,.int .u8 k.toNat,.int .i64 n,.slice ap np cp],.int .u8 ans.toNat] w λe w'=>B_ w w'/\ ∃v,e= .returned v/\BtB w' w.heap.size v (aE cs ms c k n ans):=by
 by_cases h112:c.toNat=112
 .have hc:c=112:=bS h112;subst hc;exact vY b cs ms p n k ans w hn hT
 by_cases h99:c.toNat=99
 .have hc:c=99:=bS h99;subst hc;exact yC b cs ms p n k ans w hm hM
 exact r9 b cs ms p n c k ans w h112 h99
theorem ia {w:World} {g t:Nat} {x0 x1 x2:Value} (h:w.heap[g]?=some (.cells #[x0,x1,x2] t)):w.cell? ⟨g,0,none⟩=some x0/\w.cell? ⟨g,1,none⟩=some x1/\w.cell? ⟨g,2,none⟩=some x2:=by
 refine⟨?_,?_,?_⟩
 .rw[aX w g 0 _ _ (0,0) h];rfl
 .rw[aX w g 1 _ _ (0,0) h];rfl
 .rw[aX w g 2 _ _ (0,0) h];rfl
theorem mY {ms:List Sig} {n:Nat} (h:n<ms.length):(dx ms n).arg=gY ms n/\(dx ms n).ret=gZ ms n:=by
 unfold dx gY gZ;rw[aH h];exact⟨rfl,rfl⟩
theorem pJ {x:Ins} (h:x.op.toNat=110\/x.op.toNat=120\/x.op.toNat=103\/x.op.toNat=112\/x.op.toNat=99):(bP x).cls=dI x.a:=by unfold bP;rw[if_pos h];rfl
def gG (g:Nat) (im:Img):Value:=match im.zq.findSome? (λb=>unl im.zz im.zq b.code)with
 |some q=> .agg #[.int .i64 3,.int .i64 q,.pointer none,S_]
 |none=> .agg #[.int .i64 0,.int .i64 0,.pointer (some ⟨g,0,none⟩),S_]
theorem re (g j:Nat) (w:World):
  Calls prog 64 #[.pointer (some ⟨g,0,none⟩),.int .i64 j] w λen w'=>B_ w w'/\en= .returned (.agg #[.int .i64 2,.int .i64 j,.pointer none,S_]):=by
 have a1: ¬(j:Int)= -1:=by omega
 have e1:((j:Int)== -1)=false:=by rw[eA];omega
 have e2:((j:Int)!= -1)=true:=by simp[bne,e1]
 go_in
 go_wp2_with fail;have h9:=aO w (.cells #[.int .i64 2,.int .i64 j,.pointer none,S_] 60);have a0:B_ w (w.alloc (.cells #[.int .i64 2,.int .i64 j,.pointer none,S_] 60)):=ag _ _ _;revert h9 a0;generalize (w.alloc (.cells #[.int .i64 2,.int .i64 j,.pointer none,S_] 60))=w9;intro h9 a0;obtain⟨r0,r1,r2,r3⟩:=eR h9;exact cW (v:= .agg #[.int .i64 2,.int .i64 j,.pointer none,S_]) (by simp[results,results64,go_sem,r0,r1,r2,r3]) rfl ⟨a0,rfl⟩
end
end Go.Proofs.YtpfkkmacakjmbaaGreatDoor
