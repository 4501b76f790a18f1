import Derived.Test.YtpfkkmacakjmbaaGreatDoorP10
set_option maxRecDepth 100000
set_option maxHeartbeats 6400000
set_option linter.all false
namespace Go.Proofs.YtpfkkmacakjmbaaGreatDoor
open Proofs.Tryz
section
open Go Go.RowKit Sp
attribute [local go_sem ↓] eF eG
theorem TbV.apart {w:World} {base:Nat} {v:Value} {bs:List bK} (h:TbV w base v bs) {g e:Nat} {cur:Array Value} (hh:w.heap[g]?=some (.cells cur e)) (hne:e≠115): ¬v.ownBlock=some g:=by
 obtain⟨l,a,_⟩:=h;exact gd a hh hne
theorem TbV.ge {w:World} {base:Nat} {v:Value} {bs:List bK} (h:TbV w base v bs): ∀g,v.ownBlock=some g->base<=g:=by
 obtain⟨l,a,_⟩:=h;exact aC a
def Bw (s:ByteArray) (SC:List Cls) (ms:List Sig) (cs:List bP) (bs:List bK) (j:Nat) (bad:Bool):Prop:=
 ((bad||decide (j<s.size))=true/\iv s= .error j)\/((bad||decide (j<s.size))=false/\ ∃im,iv s= .ok im/\im.zq=SC/\cs=SC.map toX/\im.zx=ms/\bs=im.zj.map (aR ms))
theorem zS (s:ByteArray) (w:World) (hs:s.size<=2000):
  Calls prog 63 #[.string s] w λen w'=>B_ w w'/\ ∃g p,en= .returned (.tuple #[.pointer (some ⟨g,0,none⟩),.int .i64 p])/\w.heap.size<=g/\
   ((∃j,iv s= .error j/\p=(j:Int)/\w'.heap[g]?=some (.cells #[S_,S_,S_] 109))\/(p= -1/\ ∃im,iv s= .ok im/\d9 w' g im)):=by
 go_in
 go_wp2_with fail;refine(uZ s w).mono ?_;rintro en w0 ⟨rfl,j7,q1,l5⟩;have F:w.heap.size<w.heap.size+1:=by omega
 go_wp2_with fail;refine(kr w.heap.size (w.heap.size+1) s _ _ w0 hs l5 F (by omega)).mono ?_;rintro en w1 ⟨rfl,L,v0,cs,j0,b0,l6,f6,hcl,m2⟩;obtain⟨a0,cap0,p1⟩:=f6.len;subst p1;have q2:=L.size;have b6:But (λk=>k=w.heap.size\/w.heap.size+1<=k) w w1:=(j7.mono (λ_ _ h=>h.elim)).trans L;clear j7 L l5;go_wp2_with fail;refine(kt w.heap.size (w.heap.size+1) s j0 b0 a0 cs.length cap0 _ w1 hs hcl l6 F (by omega)).mono ?_;rintro en w2 ⟨rfl,e3,v1,ms,j1,b1,m0,l4,i1,h0⟩;obtain⟨a1,cap1,p2⟩:=aA l4;subst p2;have l0:=f6.but e3 (λg e cur _ _ y h=>by omega);have q3:=e3.size;have f4:But (λk=>k=w.heap.size\/w.heap.size+1<=k) w w2:=b6.next e3 (λ_ _ h=>Or.inl h)
 clear e3 l6 f6 b6
 --the zq,if there are any
 obtain⟨SC,e7,a8⟩: ∃SC:List Cls,SC.length=cs.length/\((b0=false/\ ∃SC',fw s 4 [] 0= .ok (SC',j0)/\SC'=SC/\cs=SC.map toX/\WfC SC)\/(b0=true/\fw s 4 [] 0= .error j0)):=by
  obtain⟨h1,SC,B,h3,h4⟩ |h:=m2
  .exact⟨SC,by rw[h3,bZ],Or.inl ⟨h1,SC,B,rfl,h3,h4⟩⟩
  .exact⟨List.replicate cs.length ⟨-1,[]⟩,by simp,Or.inr h⟩
 have a3:b1=false->cs=SC.map toX/\WfC SC:=by
  intro h;obtain⟨_,B⟩ | ⟨B,_⟩:=h0
  .obtain⟨_,_,_,_,h3⟩ | ⟨h3,_⟩:=a8
   .exact h3
   .rw[h3]at B;simp[nP]at B
  .rw[h]at B;cases B
 obtain⟨R,e6⟩: ∃R,(if b1=true then .error j1 else kf s SC ms 6 [] j1)=R:=⟨_,rfl⟩
 have I:xq (b1=false) s SC ms R 6 [] j1 b1:=by
  cases b1 with
  |true=>exact Or.inr ⟨rfl,e6.symm⟩
  |false=>exact Or.inl ⟨rfl,rfl,[],rfl,by simp,rfl,e6⟩
 have f3:=hid I;have e9:=hid a3;have H:=hid (λbs l X j2 j3 j4 b2 b3 b4=>Bv (X:=X) (bs:=bs) (l:=l) (j2:=j2) (j3:=j3) (j4:=j4) (b2:=b2) (b3:=b3) (b4:=b4) a8 e7 h0 e6);have n8:=hid e7;rw[<-e7]at m0 l0 hcl;clear I a3 m2 h0 a8 e6 e7;go_wp2_with fail
 go_loopg [] 7 (λmm wr=> ∃(a2:Option Addr) (q j:Nat) (bad' mn:Bool) (bs:List bK) (x0 x1 x2 x3 x4:Value),w.heap.size+1<=wr.heap.size/\But (λk=>k=w.heap.size\/w.heap.size+1<=k) w wr/\XrB wr w.heap.size s j bad' (.slice a0 SC.length cap0) (.slice a1 ms.length cap1) ⟨.slice a2 bs.length q,x0,x1,x2,x3,x4,mn⟩/\TcV wr (w.heap.size+1) (.slice a0 SC.length cap0) cs/\TmV wr (w.heap.size+1) (.slice a1 ms.length cap1) ms/\TbV wr (w.heap.size+1) (.slice a2 bs.length q) bs/\Hid ((mn=false/\bs.length<=6/\ ∃m1,mm=m1+1/\xq (b1=false) s SC ms R m1 bs j bad')\/(mn=true/\Bw s SC ms cs bs j bad')))
 case atStart=>exact⟨none,0,j1,b1,false,[],_,_,_,_,_,by omega,f4,m0,l0,l4,⟨[],jd _ _ _ _,rfl,by simp⟩,hid (Or.inl ⟨rfl,by simp,6,rfl,f3.out⟩)⟩
 case round=>
  obtain⟨a2,q,j,bad',mn,bs,x0,x1,x2,x3,x4,q4,f5,M,g0,e5,e8,e2⟩:=hrel
  by_cases hstop:mn=true\/bad'=true
  .have c6:Bw s SC ms cs bs j bad':=by
    obtain⟨h1,_,m1,_,hb⟩ | ⟨_,h⟩:=e2.out
    .have o3:bad'=true:=by
      obtain h|h:=hstop
      .rw[h1]at h;cases h
      .exact h
     subst o3;obtain⟨h,_⟩ | ⟨_,h⟩:=hb
     .cases h
     .have:=H.out bs [] ⟨0,0,0,[],[]⟩ j j j true true true (Or.inr ⟨rfl,h⟩) (Or.inr ⟨rfl,by simp[fR]⟩) (Or.inr ⟨rfl,by simp[iN]⟩);obtain⟨_,h⟩ | ⟨h,_⟩:=this
      .exact Or.inl ⟨by simp,h⟩
      .simp at h
    .exact h
   have HF:=hid c6;have t:=hid (lP w.heap.size s j bad' _ _ _ wr M hstop);clear c6 e2 H f3 e9;go_wp2_with fail;refine t.out.mono ?_;rintro en w3 ⟨rfl,k,rfl⟩;clear t hstop;go_wp2_with fail;refine(ph w.heap.size s j bad' _ _ _ (wr.drewN k) (M.drewN k)).mono ?_;rintro en J ⟨a,m4⟩;have A:B_ w J:=((f5.next (bp (λ_=>False) wr k) (λ_ _ h=>h.elim)).next a (λ_ _ h=>h.elim)).mono (λk hk h=>by omega);have n4:w.heap.size<=(wr.drewN k).heap.size:=by show w.heap.size<=wr.heap.size;omega
   have e4:B_ wr J:=(bp _ _ _).trans a;unfold Ex at m4;obtain⟨hb,g,y,rfl,o4⟩ | ⟨hb,rfl⟩:=m4
   .have f2:Hid (iv s= .error j):=by
     obtain⟨_,h⟩ | ⟨h,_⟩:=HF.out
     .exact hid h
     .rw[hb]at h;cases h
    clear HF;go_wp2_with fail;exact cU (v:= .tuple #[.pointer (some ⟨g,0,none⟩),.int .i64 j]) (by simp[results,results63,go_sem]) rfl ⟨A,g,j,rfl,by omega,Or.inl ⟨j,f2.out,rfl,o4⟩⟩
   .have o2:=M.lt
    have f2:Hid (∃im,iv s= .ok im/\d9 J w.heap.size im):=by
     obtain⟨h,_⟩ | ⟨_,im,p0,h8,h9,d6,i0⟩:=HF.out
     .rw[hb]at h;cases h
     .have E:=g0.but e4 (λ_ _ _ _ _ _ h=>h);have b7:=e5.but e4 (λ_ _ _ _ _ _ h=>h);have D:=e8.but e4 (λ_ _ _ _ _ _ h=>h);have x:=M.but e4 (λh=>h);refine hid ⟨im,p0,?_,?_,?_⟩
      .rw[h8,<-h9];exact E.tx x.c0 x.lt
      .rw[d6];exact b7.tx x.c1 x.lt
      .rw[d6,<-i0];exact D.tx x.c2 x.lt
    clear HF;go_wp2_with fail;exact cU (v:= .tuple #[.pointer (some ⟨w.heap.size,0,none⟩),.int .i64 (-1)]) (by simp[results,results63,go_sem]) rfl ⟨A,w.heap.size,-1,rfl,bG _,Or.inr ⟨rfl,f2.out⟩⟩
  .have o6:mn=false:=by cases mn;rfl;exact absurd (Or.inl rfl) hstop
   have o1:bad'=false:=by cases bad';rfl;exact absurd (Or.inr rfl) hstop
   subst o6 o1;obtain⟨_,p6,m1,q0,L⟩:=e2.out.resolve_right (λh=>by cases h.1);have e1:=hid L;clear L;clear hstop e2 f3
   by_cases hgo:bs.length<6/\pk s j≠59
   .obtain⟨n0,i2⟩:=hgo;obtain⟨hG,BS,k0,n2,o0,n1⟩:=e1.out.next hcl n0 i2;obtain⟨b9,n3⟩:=e9.out hG;have i7:=hid n1;have n6:=hid b9;have n9:=hid n3;have t:=hid (lQ w.heap.size (w.heap.size+1) s j a0 a2 SC.length cap0 bs.length q _ x0 x1 x2 x3 x4 wr ms BS (BS.map (aR ms)) rfl hcl i1 o0 (λb hb=>Or.inr (n2 b hb)) hs M e5 (by rw[<-k0];exact e8) F n0 i2);clear i2 n1 k0 n2 b9 n3 e1;go_wp2_with fail;refine t.out.mono ?_;rintro en J ⟨a,rfl,f0⟩;obtain⟨c,m,r,al,capl,lo,j4,z,x,g2,o5,D⟩:=f0;clear t;have E:=g0.but a (λg e cur _ _ y h=>by omega);have b7:=e5.but a (λg e cur _ _ y h=>by omega);have a5:=e8.but a (λg e cur _ _ y h=>by omega)
    have A:But (λk=>k=w.heap.size\/w.heap.size+1<=k) w J:=f5.next a (λ_ _ h=>Or.inl h);have n4:=a.size;have C:BtB J (w.heap.size+1) (.slice al lo.length capl) lo:=dh g2 (by omega);have i6:=hid (i7.out c m r lo j4 z D);clear D i7;have T:=hid (pg w.heap.size (w.heap.size+1) s j4 z SC a0 a1 al ms.length lo.length cap0 cap1 capl _ J (Or.inr ⟨n9.out,by rw[<-n6.out];exact E⟩) hcl i1 (by omega) hs x rfl F);go_wp2_with fail;refine T.out.mono ?_;rintro en w5 ⟨i,f1⟩;obtain⟨ai,capi,items,j5,n,m5,rfl,g6,g1,h7,b8,e0⟩:=f1;have S:=hid (lm.fin b8 e0);have f7:=E.but i (λg e cur _ _ y h=>by omega);have g4:=b7.but i (λg e cur _ _ y h=>by omega)
    have f:=a5.but i (λg e cur _ _ y h=>by omega);have g3:=C.but i (λg y h=>by have:=aC C g y;omega);have p3:=i.size;clear b8 e0 T;have Q:=hid (iV w.heap.size (w.heap.size+1) J.heap.size s j5 n false _ _ _ a2 q bs ⟨c,m,r,lo,items⟩ al ai capl capi w5 (by omega) h7 hs g6 f g3 g1 F (by omega) (by omega));go_wp2_with fail;refine Q.out.mono ?_;rintro en w6 ⟨rfl,d,a6,Y,p5,g7,a7⟩;clear Q
    obtain⟨m',p8,k9⟩:=i6.out ⟨c,m,r,lo,items⟩ (tkP s 46 j5 n).1 (tkP s 46 j5 n).2 (by
     obtain⟨h1,is,B,h3⟩ |h:=S.out
     .exact Or.inl ⟨h1,is,B,by rw[h3]⟩
     .exact Or.inr h)
    have n5:=hid k9;have h5:=f.ge
    have f8:=f7.but d (λg e cur hh O y h=>by
     obtain h|h:=h
     .omega
     .exact f.apart hh (by rcases O with O|O<;>(rw[O];decide)) h)
    have g5:=g4.but d (λg e cur hh O y h=>by
     obtain h|h:=h
     .omega
     .exact f.apart hh (by rw[O];decide) h)
    have Z:But (λk=>k=w.heap.size\/w.heap.size+1<=k) w w6:=(A.next i (λ_ _ h=>Or.inl h)).next d (λk hk h=>by
     obtain h|h:=h
     .exact Or.inl h
     .exact Or.inr (h5 k h))
    have p4:=d.size;clear k9 i6 S;go_wp2_with fail
    go_roundg (m'+1)
    case measure=>omega
    case rel=>exact⟨a6,Y,_,_,false,bs++ [⟨c,m,r,lo,items⟩],_,_,_,_,_,by omega,Z,g7,f8,g5,a7,hid (Or.inl ⟨rfl,by simp;omega,m',rfl,n5.out⟩)⟩
   .have G: ¬bs.length<6\/pk s j=59:=by
     by_cases h6:bs.length<6
     .right
      by_cases hp:pk s j=59
      .exact hp
      .exact absurd ⟨h6,hp⟩ hgo
     .exact Or.inl h6
    have P:=hid (e1.out.fin (G.imp id (λh=>by simp[h])));have t:=hid (lR w.heap.size s j a0 a2 SC.length cap0 bs.length q _ x0 x1 x2 x3 x4 wr hcl hs M G);clear G hgo e1;obtain⟨TK,m3⟩: ∃TK,tkP s 59 j false=TK:=⟨_,rfl⟩;rw[m3]at P t;obtain⟨j2,b2⟩:=TK;dsimp only at P t;have i3:=hid (λl X j3 j4 b3 b4=>H.out bs l X j2 j3 j4 b2 b3 b4 P.out)
    have i5:Hid (b2=true\/b1=false):=by
     obtain⟨_,h,_⟩ | ⟨h,_⟩:=P.out
     .exact hid (Or.inr h)
     .exact hid (Or.inl h)
    clear m3 P H;go_wp2_with fail;refine t.out.mono ?_;rintro en J ⟨a,rfl,f0⟩;obtain⟨al,capl,lo,j4,z,x,g2,o5,D⟩:=f0;clear t;have E:=g0.but a (λg e cur _ _ y h=>by omega);have b7:=e5.but a (λg e cur _ _ y h=>by omega);have a5:=e8.but a (λg e cur _ _ y h=>by omega);have A:But (λk=>k=w.heap.size\/w.heap.size+1<=k) w J:=f5.next a (λ_ _ h=>Or.inl h);have n4:=a.size;have C:BtB J (w.heap.size+1) (.slice al lo.length capl) lo:=dh g2 (by omega);have a4:=D;rw[n8.out]at a4;have i4:=hid (λX j5 b5=>i3.out lo X j4 j5 z b5 a4)
    have l3:z=true\/(WfC SC/\TcV J (w.heap.size+1) (.slice a0 SC.length cap0) (SC.map toX)):=by
     obtain h|h:=i5.out
     .left
      obtain⟨_,B⟩ | ⟨B,_⟩:=D
      .rw[h]at B;simp[fR]at B
      .exact B
     .obtain⟨h1,B⟩:=e9.out h;exact Or.inr ⟨B,by rw[<-h1];exact E⟩
    have T:=hid (pg w.heap.size (w.heap.size+1) s j4 z SC a0 a1 al ms.length lo.length cap0 cap1 capl _ J l3 hcl i1 (by omega) hs x rfl F);clear D a4 i3 i5 l3;go_wp2_with fail;refine T.out.mono ?_;rintro en w5 ⟨i,f1⟩;obtain⟨ai,capi,items,j5,n,m5,rfl,g6,g1,h7,b8,e0⟩:=f1;have S:=hid (lm.fin b8 e0);have f7:=E.but i (λg e cur _ _ y h=>by omega);have g4:=b7.but i (λg e cur _ _ y h=>by omega);have f:=a5.but i (λg e cur _ _ y h=>by omega);have g3:=C.but i (λg y h=>by have:=aC C g y;omega);have p3:=i.size;clear b8 e0 T;have Q:=hid (iV w.heap.size (w.heap.size+1) J.heap.size s j5 n true _ _ _ a2 q bs ⟨45,0,105,lo,items⟩ al ai capl capi w5 (by omega) h7 hs g6 f g3 g1 F (by omega) (by omega))
    go_wp2_with fail;refine Q.out.mono ?_;rintro en w6 ⟨rfl,d,a6,Y,p5,g7,a7⟩;clear Q
    have n7:Hid (Bw s SC ms cs (bs++ [⟨45,0,105,lo,items⟩]) (tkP s 46 j5 n).1 (tkP s 46 j5 n).2):=by
     refine hid (i4.out ⟨45,0,105,lo,items⟩ _ _ ?_);obtain⟨h1,is,B,h3⟩ |h:=S.out
     .exact Or.inl ⟨h1,is,B,by rw[h3]⟩
     .exact Or.inr h
    have h5:=f.ge
    have f8:=f7.but d (λg e cur hh O y h=>by
     obtain h|h:=h
     .omega
     .exact f.apart hh (by rcases O with O|O<;>(rw[O];decide)) h)
    have g5:=g4.but d (λg e cur hh O y h=>by
     obtain h|h:=h
     .omega
     .exact f.apart hh (by rw[O];decide) h)
    have Z:But (λk=>k=w.heap.size\/w.heap.size+1<=k) w w6:=(A.next i (λ_ _ h=>Or.inl h)).next d (λk hk h=>by
     obtain h|h:=h
     .exact Or.inl h
     .exact Or.inr (h5 k h))
    have p4:=d.size;clear i4 S;go_wp2_with fail
    go_roundg 0
    case measure=>omega
    case rel=>exact⟨a6,Y,_,_,true,bs++ [⟨45,0,105,lo,items⟩],_,_,_,_,_,by omega,Z,g7,f8,g5,a7,hid (Or.inr ⟨rfl,n7.out⟩)⟩
end
section
open Go Go.RowKit Sp
theorem Ey {cs:List Cls} {gs:List Sig} {b:Bod} (h:WfB cs gs b) (hn:cs.length<=4):(b.cls= -1)\/hU b:=by
 obtain⟨a,_⟩ | ⟨a,d,c,e⟩:=h.cls
 .exact Or.inl a
 .exact Or.inr ⟨a,by omega,c⟩
theorem Bx {c:UInt8} {n:Nat} (h:aQ n c=true) (hn:n<=4):c=UInt8.ofNat (65+(kl c).toNat):=by
 rw[<-qs h hn]
 congr 2
 unfold kl;have:(UInt8.ofNat (65+(c.toNat-65)))=c:=qs h hn;rw[this];omega
theorem By {n x:Nat} (h:x<n) (hn:n<=4):aQ n (UInt8.ofNat (65+x))=true/\kl (UInt8.ofNat (65+x))=x:=by
 have a:(UInt8.ofNat (65+x)).toNat=65+x:=by simp;omega
 constructor
 .simp only[aQ,a,dl,dk];omega
 .unfold kl;rw[a];omega
theorem jK {cs:List Cls} {gs:List Sig} {BS:List Bod} (hw:WfC cs) (hn:cs.length<=4) (hB: ∀b∈BS,(b.cls= -1)\/hU b) (m:Nat):
  ∀(f f' x:Nat),x<cs.length->x<f->x<f'->gM (cs.map toX) (BS.map (aR gs)) m f (UInt8.ofNat (65+x))=cO cs BS m f' x:=by
 intro f
 induction f with
 |zero=>intro f' x _ h _;omega
 |succ f ih=>
  intro f' x hx t v;obtain⟨g,rfl⟩: ∃g,f'=g+1:=⟨f'-1,by omega⟩;have y:(UInt8.ofNat (65+x)).toNat=65+x:=by simp;omega
  have c:=rX (gs:=gs) (m:=m) hB (x:=x) (by omega);rw[gM,if_neg (show¬(UInt8.ofNat (65+x)).toNat=45 by omega),c,cO,if_neg (show¬(x:Int)<0 by omega)]
  split
  .rfl
  .obtain⟨hl,r⟩:=By hx hn;have hp:=nO hw hn hl;rw[r]at hp;have s:=dZ hw (p:=(x:Int)) (by omega);obtain⟨d,a⟩ | ⟨d,a,i⟩:=hp
   .rw[a]
    have j: ∀k,gM (cs.map toX) (BS.map (aR gs)) m k 45= -1:=by
     intro k
     cases k with
     |zero=>rfl
     |succ k=>rw[gM];simp
    have l: ∀k,cO cs BS m k (dG cs x)= -1:=by
     intro k
     cases k with
     |zero=>rfl
     |succ k=>rw[cO,if_pos d]
    rw[j,l]
   .have e:=Bx a hn;rw[i]at e;rw[e];have n:((dG cs x).toNat:Int)=dG cs x:=by omega
    have q:(dG cs x).toNat<cs.length:=by omega
    have:=ih g (dG cs x).toNat q (by omega) (by omega);rw[this,n]
theorem Bz {cs:List Cls} {gs:List Sig} {BS:List Bod} {x:Ins} {nl n:Nat} (hw:WfC cs) (hn:cs.length<=4) (hB: ∀b∈BS,(b.cls= -1)\/hU b) (hx:WfX cs gs.length nl x):gO (cs.map toX) (BS.map (aR gs)) n (aJ x)=lB cs BS n x:=by
 unfold gO lB;have e:(aJ x).op=x.op:=rfl;have f:(aJ x).num=x.b:=rfl;rw[e,f]
 by_cases h1:x.op.toNat=106\/x.op.toNat=102
 .rw[if_pos h1];have d: ¬x.op.toNat=99:=by omega
  obtain h|h:=h1<;>simp[h]
 .rw[if_neg h1];have c:=not_or.1 h1
  by_cases d:x.op.toNat=99
  .rw[if_pos d];have ha:=hx.cls (by omega)
   have g:(aJ x).cls=UInt8.ofNat (65+x.a):=by
    unfold aJ;rw[if_pos (by omega)]
   rw[g,bZ,jK hw hn hB x.b cs.length 5 x.a ha ha (by omega)];simp[d]
  .rw[if_neg d];simp[d,c.1,c.2]
theorem find?_map' {α β:Type} (f:α->β) (p:β->Bool): ∀l:List α,(l.map f).find? p=(l.find? (λx=>p (f x))).map f:=by
 intro l
 induction l with
 |nil=>rfl
 |cons x l ih=>
  simp only[List.map_cons,List.find?_cons,ih]
  cases p (f x)<;>rfl
theorem find?_congr' {α:Type} {p q:α->Bool}: ∀{l:List α},(∀x∈l,p x=q x)->l.find? p=l.find? q:=by
 intro l
 induction l with
 |nil=>intro _;rfl
 |cons x l ih=>
  intro h;rw[List.find?_cons,List.find?_cons,h x (by simp),ih (λy hy=>h y (by simp[hy]))]
theorem findSome?_map' {α β γ:Type} (f:α->β) (p:β->Option γ): ∀l:List α,(l.map f).findSome? p=l.findSome? (λx=>p (f x)):=by
 intro l
 induction l with
 |nil=>rfl
 |cons x l ih=>simp only[List.map_cons,List.findSome?_cons,ih]
theorem findSome?_congr' {α γ:Type} {p q:α->Option γ}: ∀{l:List α},(∀x∈l,p x=q x)->l.findSome? p=l.findSome? q:=by
 intro l
 induction l with
 |nil=>intro _;rfl
 |cons x l ih=>
  intro h;rw[List.findSome?_cons,List.findSome?_cons,h x (by simp),ih (λy hy=>h y (by simp[hy]))]
theorem De {cs:List Cls} {gs:List Sig} {BS:List Bod} {c:List Ins} {nl:Nat} (hw:WfC cs) (hn:cs.length<=4) (hB: ∀b∈BS,(b.cls= -1)\/hU b) (hx: ∀x∈c,WfX cs gs.length nl x):nR (cs.map toX) (BS.map (aR gs)) (c.map aJ)=unl cs BS c:=by
 unfold nR unl;rw[bZ,find?_map',find?_congr' (λx hm=>Bz hw hn hB (hx x hm)),Option.map_map]
 rfl
theorem BA {im:Img} (hW:WfI im):((im.zj.map (aR im.zx)).findSome? λx=>nR (im.zq.map toX) (im.zj.map (aR im.zx)) x.items)=im.zj.findSome? (λb=>unl im.zq im.zj b.code):=by
 rw[findSome?_map'];refine findSome?_congr' (λb hb=> ?_);exact De hW.cls hW.nc (λb hb=>Ey (hW.bod b hb) hW.nc) (hW.bod b hb).code
theorem r7 (b:Nat) (im:Img) (w:World) (hW:WfI im) (hT:d9 w b im):
  Calls prog 104 #[.pointer (some ⟨b,0,none⟩)] w λe w'=>e= .returned (.int .i64 (mW (im.zj.findSome? (λb=>unl im.zq im.zj b.code))))/\B_ w w':=by
 rw[<-BA hW];refine li b (im.zq.map toX) (im.zj.map (aR im.zx)) w (by rw[bZ];have:=hW.nc;omega) (by rw[bZ];have:=hW.nb;omega) ?_ hT.cls hT.bod;intro x hx;obtain⟨b,hb,rfl⟩:=List.mem_map.1 hx;have:=(hW.bod b hb).len.2;simp only[aR,bZ];omega
end
section
open Go Go.RowKit Sp
attribute [local go_sem ↓] eF eG
theorem xt (b:Nat) (cs:List bP) (ms:List Sig) (p n:Nat) (k ans:UInt8) (w:World) {ap:Option Addr} {np cp:Nat} (hn:cs.length<=100) (hT:TxC w b cs):
  Calls prog 140 #[.pointer (some ⟨b,0,none⟩),.agg #[.int .i64 p,.int .u8 112,.int .u8 k.toNat,.int .i64 n,.slice ap np cp],.int .u8 ans.toNat] w λe w'=>B_ w w'/\ ∃v,e= .returned v/\BtB w' w.heap.size v [k,cC (bV cs k) n]:=by
 go_in
 go_wp2_with fail;have d:B_ w (w.alloc (.cells #[.int .i64 p,.int .u8 112,.int .u8 k.toNat,.int .i64 n,.slice ap np cp] 219)):=ag _ _ _;have a:=bj w (.cells #[.int .i64 p,.int .u8 112,.int .u8 k.toNat,.int .i64 n,.slice ap np cp] 219);revert d a;generalize (w.alloc (.cells #[.int .i64 p,.int .u8 112,.int .u8 k.toNat,.int .i64 n,.slice ap np cp] 219))=W;intro d a;obtain⟨q,k1,k2,k3,k4⟩:=bI a;have gltW:=ae a;have j:=hid a;clear a;have f:B_ W W.drew:=aD _ _;have c:=hid (tj b cs k n W.drew hn ((hT.but d).but f));refine aF (B_ W) 9 ?_
 iterate 7 (refine aN (v:=?_) rfl f ?_ ?_;rotate_left;(focus (intro wS h;have r:=(h.kc k2 gltW);have s:=(h.kc k3 gltW);clear h;go_simp;try rfl));dsimp only[Act.put];try simp only[bW])
 refine au rfl ?_;intro KS hKS;go_simp;refine c.out.mono ?_;rintro en wx ⟨rfl,i⟩;rw[i];clear i wx c;refine hKS.out _ _ (λ_=>f) ?_;clear hKS KS;obtain⟨z,g⟩: ∃z,cC (bV cs k) n=z:=⟨_,rfl⟩;rw[g];have l:=hid g;clear g;refine au rfl ?_;intro KS hKS;go_simp;refine hKS.out _ _ (λ_=>f.trans (ag _ _ _)) ?_;clear hKS KS;refine au rfl ?_;intro KS hKS;go_simp;refine hKS.out _ _ nofun ?_;clear hKS KS;refine aK rfl ?_;have m:=d.size;go_wp2_with fail;exact cV (.slice (some ⟨W.heap.size,0,none⟩) 2 2) results140 rfl rfl ⟨d.trans ((ag _ _ _).trans (aD _ _)),_,rfl,by rw[l.out];exact BtB.but (BtB.lit W w.heap.size m [k,z] (by simp)) (aD (λ_=>False) _) (λ_ _ h=>h)⟩
theorem zT (b:Nat) (cs:List bP) (ms:List Sig) (p n:Nat) (k ans:UInt8) (w:World) {ap:Option Addr} {np cp:Nat} (hm:ms.length<=100) (hM:TxM w b ms):
  Calls prog 140 #[.pointer (some ⟨b,0,none⟩),.agg #[.int .i64 p,.int .u8 99,.int .u8 k.toNat,.int .i64 n,.slice ap np cp],.int .u8 ans.toNat] w λe w'=>B_ w w'/\ ∃v,e= .returned v/\BtB w' w.heap.size v [k,(dC ms n).arg]:=by
 go_in
 go_wp2_with fail;have d:B_ w (w.alloc (.cells #[.int .i64 p,.int .u8 99,.int .u8 k.toNat,.int .i64 n,.slice ap np cp] 219)):=ag _ _ _;have a:=bj w (.cells #[.int .i64 p,.int .u8 99,.int .u8 k.toNat,.int .i64 n,.slice ap np cp] 219);revert d a;generalize (w.alloc (.cells #[.int .i64 p,.int .u8 99,.int .u8 k.toNat,.int .i64 n,.slice ap np cp] 219))=W;intro d a;obtain⟨s,k1,k2,k3,k4⟩:=bI a;have gltW:=ae a;have l:=hid a;clear a;have g:B_ W W.drew:=aD _ _;have c:=hid (ir b ms n W.drew hm ((hM.but d).but g));refine aF (B_ W) 8 ?_
 iterate 5 (refine aN (v:=?_) rfl g ?_ ?_;rotate_left;(focus (intro wS h;have t:=(h.kc k2 gltW);have x:=(h.kc k3 gltW);clear h;go_simp;try rfl));dsimp only[Act.put];try simp only[bW])
 refine au rfl ?_;intro KS hKS;go_simp;refine c.out.mono ?_;rintro en wx ⟨rfl,j⟩;clear c;have f:=g.trans j;refine hKS.out _ _ (λ_=>f) ?_;clear hKS KS;obtain⟨z,i⟩: ∃z,dC ms n=z:=⟨_,rfl⟩;rw[i];have m:=hid i;clear i;obtain⟨za,zr⟩:=z;dsimp only;refine au rfl ?_;intro KS hKS;go_simp;refine hKS.out _ _ (λ_=>f) ?_;clear hKS KS;refine au rfl ?_;intro KS hKS;go_simp;refine hKS.out _ _ (λ_=>f.trans (ag _ _ _)) ?_;clear hKS KS;refine au rfl ?_;intro KS hKS;go_simp;refine hKS.out _ _ nofun ?_;clear hKS KS;refine aK rfl ?_;have r:=d.size;go_wp2_with fail;have q:=f.size;exact cV (.slice (some ⟨wx.heap.size,0,none⟩) 2 2) results140 rfl rfl ⟨(d.trans f).trans (ag _ _ _),_,rfl,by rw[m.out];exact BtB.lit wx w.heap.size (by omega) [k,za] (by simp)⟩
theorem mX (b:Nat) (cs:List bP) (ms:List Sig) (p n:Nat) (c k ans:UInt8) (w:World) {ap:Option Addr} {np cp:Nat} (hn:cs.length<=100) (hm:ms.length<=100) (hT:TxC w b cs) (hM:TxM w b ms):
  Calls prog 140 #[.pointer (some ⟨b,0,none⟩),.agg #[.int .i64 p,.int .u8 c.toNat,.int .u8 k.toNat,.int .i64 n,.slice ap np cp],.int .u8 ans.toNat] w λe w'=>B_ w w'/\ ∃v,e= .returned v/\BtB w' w.heap.size v (aB cs ms c k n ans):=by
 by_cases h112:c.toNat=112
 .have hc:c=112:=ck h112;subst hc;exact xt b cs ms p n k ans w hn hT
 by_cases h99:c.toNat=99
 .have hc:c=99:=ck h99;subst hc;exact zT b cs ms p n k ans w hm hM
 exact tm b cs ms p n c k ans w h112 h99
theorem iD {w:World} {g t:Nat} {x0 x1 x2:Value} (h:w.heap[g]?=some (.cells #[x0,x1,x2] t)):w.cell? ⟨g,0,none⟩=some x0/\w.cell? ⟨g,1,none⟩=some x1/\w.cell? ⟨g,2,none⟩=some x2:=by
 refine⟨?_,?_,?_⟩
 .rw[bU w g 0 _ _ (0,0) h];rfl
 .rw[bU w g 1 _ _ (0,0) h];rfl
 .rw[bU w g 2 _ _ (0,0) h];rfl
theorem nU {ms:List Sig} {n:Nat} (h:n<ms.length):(dC ms n).arg=jv ms n/\(dC ms n).ret=gI ms n:=by
 unfold dC jv gI;rw[aM h];exact⟨rfl,rfl⟩
theorem qv {x:Ins} (h:x.op.toNat=110\/x.op.toNat=120\/x.op.toNat=103\/x.op.toNat=112\/x.op.toNat=99):(aJ x).cls=cE x.a:=by unfold aJ;rw[if_pos h];rfl
def ia (g:Nat) (im:Img):Value:=match im.zj.findSome? (λb=>unl im.zq im.zj b.code)with
 |some q=> .agg #[.int .i64 3,.int .i64 q,.pointer none,S_]
 |none=> .agg #[.int .i64 0,.int .i64 0,.pointer (some ⟨g,0,none⟩),S_]
theorem r9 (g j:Nat) (w:World):
  Calls prog 64 #[.pointer (some ⟨g,0,none⟩),.int .i64 j] w λen w'=>B_ w w'/\en= .returned (.agg #[.int .i64 2,.int .i64 j,.pointer none,S_]):=by
 have d: ¬(j:Int)= -1:=by omega
 have c:((j:Int)== -1)=false:=by rw[fh];omega
 have i:((j:Int)!= -1)=true:=by simp[bne,c]
 go_in
 go_wp2_with fail;have b:=bj w (.cells #[.int .i64 2,.int .i64 j,.pointer none,S_] 60);have a:B_ w (w.alloc (.cells #[.int .i64 2,.int .i64 j,.pointer none,S_] 60)):=ag _ _ _;revert b a;generalize (w.alloc (.cells #[.int .i64 2,.int .i64 j,.pointer none,S_] 60))=w9;intro b a;obtain⟨r0,e,f,h⟩:=fm b;exact cU (v:= .agg #[.int .i64 2,.int .i64 j,.pointer none,S_]) (by simp[results,results64,go_sem,r0,e,f,h]) rfl ⟨a,rfl⟩
end
end Go.Proofs.YtpfkkmacakjmbaaGreatDoor
