import Derived.Test.YtpfkkmacakjmbaaGreatDoorP20
set_option maxRecDepth 100000
set_option maxHeartbeats 6400000
set_option linter.all false
namespace Go.Proofs.YtpfkkmacakjmbaaGreatDoor
open Proofs.Tryz
section
open Go Go.RowKit Sp
section
variable {im:Img} {bd:Bod}
structure Dz (im:Img) (bd:Bod) (q:Nat) (ty:L_):Prop where
 len:ty.length=bd.code.length
 at': ∀k,q<=k->k<bd.code.length->cS im.zz im.zj bd.locals bd.code bd.code.length k=some (ty.getD k 0)/\(ty.getD k 0).toNat≠45
theorem A6 (hW:jG im) (hbd:lM im.zz im.zj bd) {p:Nat} {ty:L_} (h:Dz im bd (p+1) ty) (hp:p<bd.code.length):
  (stepX (im.zz.map toX) im.zj bd.locals bd.code p ty=none/\cS im.zz im.zj bd.locals bd.code bd.code.length p=none)\/ ∃ty',stepX (im.zz.map toX) im.zj bd.locals bd.code p ty=some ty'/\Dz im bd p ty':=by
 have hy:=aH hp;obtain⟨y,a6⟩: ∃y,bd.code[p]=y:=⟨_,rfl⟩;rw[a6]at hy;have a1: ∀k,k∈ek bd.code p->cB ty k=ty.getD k 0:=λk hk=>oV (by rw[h.len];exact(iZ hk).2)
 have a0:cz bd.code (cS im.zz im.zj bd.locals bd.code bd.code.length) (aA y.op) (p+1)=some ((ek bd.code p).map (cB ty)):=by
  have e:ek bd.code p=di bd.code (aA y.op) (p+1):=by unfold ek;rw[hy]
  rw[e];refine wv ?_ ?_
  .rw[<-e];exact uB hbd.full hy
  .intro q hq;rw[<-e]at hq;have hm:=iZ hq;rw[a1 q hq];exact(h.at' q (by omega) hm.2).1
 have a5:=hbd.code y (bp hy)
 have a4:=A5 hW hbd a5 (ts:=(ek bd.code p).map (cB ty)) (by rw[cP];exact uB hbd.full hy) (λc hc=>by
  obtain⟨q,hq,rfl⟩:=List.mem_map.1 hc;rw[a1 q hq];exact xn hW hbd (h.at' q (by have:=(iZ hq).1;omega) (iZ hq).2).1) (λc hc=>by
  obtain⟨q,hq,rfl⟩:=List.mem_map.1 hc;rw[a1 q hq];exact(h.at' q (by have:=(iZ hq).1;omega) (iZ hq).2).2)
 have a3:cS im.zz im.zj bd.locals bd.code bd.code.length p=dk (im.zz.map toX) im.zj bd.locals y ((ek bd.code p).map (cB ty)):=by
  rw[rl hy,a0,a4]
 unfold stepX;rw[hy];simp only
 cases hx:dk (im.zz.map toX) im.zj bd.locals y ((ek bd.code p).map (cB ty))with
 |none=>exact Or.inl ⟨rfl,by rw[a3,hx]⟩
 |some c=>
  right
  have a2:c.toNat≠45:=by
   unfold dk at hx
   split at hx
   .rename_i hh
    cases hx
    exact hh.2
   .cases hx
  refine⟨ty.set p c,rfl,by rw[List.length_set];exact h.len,λk h1 h2=> ?_⟩
  by_cases hk:p=k
  .subst hk;have e:(ty.set p c).getD p 0=c:=by simp[List.getD,h.len,hp]
   rw[e,a3,hx];exact⟨rfl,a2⟩
  .have e:(ty.set p c).getD k 0=ty.getD k 0:=by simp[List.getD,List.getElem?_set_ne hk]
   rw[e];exact h.at' k (by omega) h2
theorem DA (hW:jG im) (hbd:lM im.zz im.zj bd):okT im.zz.length (bu im.zj bd).ans=true/\(bu im.zj bd).ans=if bd.cls<0 then 105 else gZ im.zj bd.meth.toNat:=by
 obtain⟨h1,_⟩ | ⟨h1,h2,h3,h4⟩:=hbd.cls
 .simp[bu,h1,tX]
 .have hn: ¬bd.cls<0:=by omega
  have hm:bd.meth.toNat<im.zj.length:=by omega
  have e:=(mY hm).2;simp only[bu,hn,if_false,e,and_true];unfold gZ;rw[aH hm];exact kW (hW.sig _ (cN hm)).2
theorem Cr (hW:jG im) (hbd:lM im.zz im.zj bd): ∀{q:Nat} {ty:L_},q<=bd.code.length->Dz im bd q ty->sH (im.zz.map toX) (bu im.zj bd).ans (oM (im.zz.map toX) im.zj bd.locals bd.code q ty)=fe im bd:=by
 intro q
 induction q with
 |zero=>
  intro ty _ h;have h0:=tW (m:=0) hbd.full;obtain⟨e1,e2⟩:=h.at' 0 (b8 _) h0;obtain⟨a1,a2⟩:=DA hW hbd;simp only[oM,sH,fe,e1];rw[oV (by rw[h.len];exact h0),iT hW.cls hW.nc (xn hW hbd e1) a1,a2]
 |succ p ih=>
  intro ty hq h;obtain⟨h1,h2⟩ | ⟨ty',h1,h2⟩:=A6 hW hbd h (by omega)
  .simp only[oM,h1,sH,fe]
   have hr:cS im.zz im.zj bd.locals bd.code bd.code.length 0=none:=by
    cases hr:cS im.zz im.zj bd.locals bd.code bd.code.length 0 with
    |none=>rfl
    |some c=>exact absurd h2 (A3 hbd.full (by rw[hr];simp) p (by omega))
   rw[hr]
  .simp only[oM,h1];exact ih (by omega) h2
theorem Cs (hW:jG im) (hbd:lM im.zz im.zj bd):A4 (im.zz.map toX) im.zj bd.locals bd.code (bu im.zj bd).ans=fe im bd:=by
 unfold A4;exact Cr hW hbd (b8 _) ⟨by simp,λk h1 h2=>by omega⟩
end
end
section
open Go Go.RowKit Sp
attribute [local go_sem ↓] dG dH
theorem ii.but {w w':World} {g:Nat} {im:Img} (h:ii w g im) (hb:B_ w w'):ii w' g im:=by
 obtain⟨bs,h1,h2⟩:=h.bod;exact⟨h.cls.but hb,h.met.but hb,bs,h1.but hb,h2.but hb (λ_ _ _ _ h=>h)⟩
theorem yW (g:Nat) (im:Img) (w:World) (hW:jG im) (hTX:ii w g im):
  Calls prog 64 #[.pointer (some ⟨g,0,none⟩),.int .i64 (-1)] w λen w'=>B_ w w'/\en= .returned (gG g im):=by
 have a5:B_ w (w.alloc (.cells #[.int .i64 0,.int .i64 0,.pointer none,S_] 60)):=ag _ _ _;have a0:=aO w (.cells #[.int .i64 0,.int .i64 0,.pointer none,S_] 60)
 cases hfs:im.zq.findSome? (λb=>unl im.zz im.zq b.code)with
 |some q=>
  have e1:((q:Int)== -1)=false:=by rw[eA];omega
  have e2:((q:Int)!= -1)=true:=by simp[bne,e1]
  have b1: ¬(q:Int)= -1:=by omega
  have a4:=pW g im (w.alloc (.cells #[.int .i64 0,.int .i64 0,.pointer none,S_] 60)) hW (hTX.but a5);rw[hfs]at a4;simp only[ml]at a4;rw[show gG g im= .agg #[.int .i64 3,.int .i64 q,.pointer none,S_]from by unfold gG;rw[hfs]];have a1:=hid a4;clear a4 hfs
  go_in
  go_wp2_with fail;revert a5 a0 a1;generalize (w.alloc (.cells #[.int .i64 0,.int .i64 0,.pointer none,S_] 60))=W;intro a5 a0 a1;have b0:=ae a0;refine a1.out.mono ?_;rintro en w2 ⟨rfl,a7⟩;have a6:=a5.trans a7;have a3:=(a7.block w.heap.size b0 (λh=>h)).trans a0;have a8:=hid a3;obtain⟨q0,q1,q2,q3⟩:=eR a3;obtain⟨f0,f1,f2,f3⟩:=jp a3;clear a3 a0 a1;go_wp2_with fail;have h9:=eZ a8.out (.int .i64 3) (.int .i64 q) (.pointer none) S_;have a2:=gn w2 w.heap.size (.int .i64 3) (.int .i64 q) (.pointer none) S_;unfold pD at h9 a2;revert h9 a2;generalize ((((w2.setCell ⟨w.heap.size,0,none⟩ (.int .i64 3)).setCell ⟨w.heap.size,1,none⟩ (.int .i64 q)).setCell ⟨w.heap.size,2,none⟩ (.pointer none)).setCell ⟨w.heap.size,3,none⟩ S_)=w9
  intro h9 a2;obtain⟨r0,r1,r2,r3⟩:=eR h9;exact cW (v:= .agg #[.int .i64 3,.int .i64 q,.pointer none,S_]) (by simp[results,results64,go_sem,r0,r1,r2,r3]) rfl ⟨a6.next a2 (λk hk h=>by omega),rfl⟩
 |none=>
  have a4:=pW g im (w.alloc (.cells #[.int .i64 0,.int .i64 0,.pointer none,S_] 60)) hW (hTX.but a5);rw[hfs]at a4;simp only[ml]at a4;rw[show gG g im= .agg #[.int .i64 0,.int .i64 0,.pointer (some ⟨g,0,none⟩),S_]from by unfold gG;rw[hfs]];have a1:=hid a4;clear a4 hfs
  go_in
  go_wp2_with fail;revert a5 a0 a1;generalize (w.alloc (.cells #[.int .i64 0,.int .i64 0,.pointer none,S_] 60))=W;intro a5 a0 a1;have b0:=ae a0;refine a1.out.mono ?_;rintro en w2 ⟨rfl,a7⟩;have a6:=a5.trans a7;have a3:=(a7.block w.heap.size b0 (λh=>h)).trans a0;have a8:=hid a3;obtain⟨q0,q1,q2,q3⟩:=eR a3;obtain⟨f0,f1,f2,f3⟩:=jp a3;clear a3 a0 a1;go_wp2_with fail;have h9:=eZ a8.out (.int .i64 0) (.int .i64 0) (.pointer (some ⟨g,0,none⟩)) S_;have a2:=gn w2 w.heap.size (.int .i64 0) (.int .i64 0) (.pointer (some ⟨g,0,none⟩)) S_;unfold pD at h9 a2;revert h9 a2
  generalize ((((w2.setCell ⟨w.heap.size,0,none⟩ (.int .i64 0)).setCell ⟨w.heap.size,1,none⟩ (.int .i64 0)).setCell ⟨w.heap.size,2,none⟩ (.pointer (some ⟨g,0,none⟩))).setCell ⟨w.heap.size,3,none⟩ S_)=w9;intro h9 a2;obtain⟨r0,r1,r2,r3⟩:=eR h9;exact cW (v:= .agg #[.int .i64 0,.int .i64 0,.pointer (some ⟨g,0,none⟩),S_]) (by simp[results,results64,go_sem,r0,r1,r2,r3]) rfl ⟨a6.next a2 (λk hk h=>by omega),rfl⟩
theorem ii.off {F:Nat->Prop} {w w':World} {g:Nat} {im:Img} (h:ii w g im) (hb:But F w w') (hg: ¬F g) (hf: ∀k cur e,w.heap[k]?=some (.cells cur e)->(e=240\/e=243\/e=115\/e=219\/e=5\/e=3)-> ¬F k):ii w' g im:=by
 obtain⟨⟨v0,l,h0,hl,hO,hm,a2⟩,⟨v1,h1,_,a1⟩,bs,⟨v2,h2,_,hT⟩,a0⟩:=h;refine⟨⟨v0,l,(hb.cell (p:=⟨g,0,none⟩) hl hg).trans h0,bq hl hb.size,bj hO hb (λk cur hh _=>hf k cur _ hh (by simp)),hm,λx hx=>bj (a2 x hx) hb (λk cur hh _=>hf k cur _ hh (by simp))⟩,⟨v1,(hb.cell (p:=⟨g,1,none⟩) hl hg).trans h1,bq hl hb.size,bj a1 hb (λk cur hh _=>hf k cur _ hh (by simp))⟩,bs,⟨v2,(hb.cell (p:=⟨g,2,none⟩) hl hg).trans h2,bq hl hb.size,hT.but hb (λk e cur hh he _=>hf k cur e hh (by rcases he with h|h|h<;>simp[h]))⟩,a0.but hb (λk cur hh _=>hf k cur _ hh (by simp))⟩
def lV (s:ByteArray) (w:World) (en:Ending) (w':World):Prop:=
 match fY s with
 | .error (e,p)=>en= .returned (.agg #[.int .i64 e,.int .i64 p,.pointer none,S_])
 | .ok im=>
  match im.zq.findIdx? (λb=> !fe im b)with
  |some k=>en= .returned (.agg #[.int .i64 4,.int .i64 k,.pointer none,S_])
  |none=> ∃g,en= .returned (.agg #[.int .i64 0,.int .i64 0,.pointer (some ⟨g,0,none⟩),S_])/\jG im/\ii w' g im
theorem jA (s:ByteArray) (w:World) (hmax:s.size<=maxLen):
  Calls prog 60 #[.string s] w λen w'=>B_ w w'/\lV s w en w':=by
 have h0:B_ w (w.alloc (.cells #[.int .i64 0,.int .i64 0,.pointer none,S_] 60)):=ag _ _ _;have f4:=aO w (.cells #[.int .i64 0,.int .i64 0,.pointer none,S_] 60)
 by_cases hbig:400<s.size
 .have l6:400<(s.size:Int):=by omega
  have hL:fY s= .error (1,0):=by unfold fY;rw[if_pos hbig]
  have HL:=hid hL;clear hbig hL
  go_in
  go_wp2_with fail;have h9:=aO w (.cells #[.int .i64 1,.int .i64 0,.pointer none,S_] 60);have a0:B_ w (w.alloc (.cells #[.int .i64 1,.int .i64 0,.pointer none,S_] 60)):=ag _ _ _;revert h9 a0;generalize (w.alloc (.cells #[.int .i64 1,.int .i64 0,.pointer none,S_] 60))=w9;intro h9 a0;obtain⟨r0,r1,r2,r3⟩:=eR h9;exact cW (v:= .agg #[.int .i64 1,.int .i64 0,.pointer none,S_]) (by simp[results,results60,go_sem,r0,r1,r2,r3]) rfl ⟨a0,by unfold lV;rw[HL.out];rfl⟩
 .have l6: ¬400<(s.size:Int):=by omega
  go_in
  go_wp2_with fail;revert h0 f4;generalize (w.alloc (.cells #[.int .i64 0,.int .i64 0,.pointer none,S_] 60))=W;intro h0 f4;have m5:=ae f4;have g7:=hid f4;clear f4;refine(wn s W (by omega)).mono ?_;rintro en w1 ⟨i5,g,p,rfl,hg,m0⟩;have b3:=h0.trans i5;have b9:=hid ((i5.block w.heap.size m5 (λh=>h)).trans g7.out);obtain⟨j,d6,rfl,j1⟩ | ⟨rfl,im,d6,h3⟩:=m0
  .have HL:Hid (fY s= .error (2,j)):=hid (by unfold fY;rw[if_neg hbig,d6]);clear d6 hbig g7;have h5:=ae j1;go_wp2_with fail;refine(re g j w1).mono ?_;rintro en w2 ⟨a7,rfl⟩;have a6:=b3.trans a7;have f6:=(a7.block g h5 (λh=>h)).trans j1;obtain⟨t0,t1,t2⟩:=ia f6;have h6:=ae f6;have b1:=hid (a7.kp b9.out);go_wp2_with fail;have a3:B_ w2 (w2.alloc (.cells #[.int .i64 2,.int .i64 j,.pointer none,S_] 60)):=ag _ _ _;have a5:=aO w2 (.cells #[.int .i64 2,.int .i64 j,.pointer none,S_] 60);revert a3 a5;generalize (w2.alloc (.cells #[.int .i64 2,.int .i64 j,.pointer none,S_] 60))=w3
   intro a3 a5;have b0:=a3.kp b1.out;have u2:=a3.kc t2 h6;clear t0 t1 t2;obtain⟨k0,k1,k2,k3⟩:=eR a5;obtain⟨q0,q1,q2,q3⟩:=eR b0;obtain⟨f0,f1,f2,f3⟩:=jp b0;have c7:=hid b0;clear b0 b1 b9 a5
   go_loopg [6] 0 (λmm is wr=>is= .int .i64 0/\wr=w3)
   case atStart=>exact⟨rfl,rfl⟩
   case round=>
    obtain⟨rfl,i2⟩:=hrel;subst i2;go_wp2_with fail;have h9:=eZ c7.out (.int .i64 2) (.int .i64 j) (.pointer none) S_;have a0:=gn wr w.heap.size (.int .i64 2) (.int .i64 j) (.pointer none) S_;unfold pD at h9 a0;revert h9 a0;generalize ((((wr.setCell ⟨w.heap.size,0,none⟩ (.int .i64 2)).setCell ⟨w.heap.size,1,none⟩ (.int .i64 j)).setCell ⟨w.heap.size,2,none⟩ (.pointer none)).setCell ⟨w.heap.size,3,none⟩ S_)=w9;intro h9 a0;obtain⟨r0,r1,r2,r3⟩:=eR h9;exact cW (v:= .agg #[.int .i64 2,.int .i64 j,.pointer none,S_]) (by simp[results,results60,go_sem,r0,r1,r2,r3]) rfl ⟨(a6.trans a3).next a0 (λk hk h=>by omega),by unfold lV;rw[HL.out];rfl⟩
  .have hW:=ti (by omega) d6;have f8:=hid d6;clear d6 g7;have c9:=yW g im w1 hW h3;obtain⟨bs,⟨vb,i1,g3,lb,hO,hm,hf⟩,e4⟩:=h3.bod;obtain⟨a2,k9,rfl⟩:=aw hO;have j4:lb.length=im.zq.length:=by rw[<-e4.1,<-hm];simp
   have n8:=hW.nb;have HM:=hid hm;clear hm
   cases hfs:im.zq.findSome? (λb=>unl im.zz im.zq b.code)with
   |some q=>
    have HL:Hid (fY s= .error (3,q)):=hid (by unfold fY;rw[if_neg hbig,f8.out];simp only[hfs]);rw[show gG g im= .agg #[.int .i64 3,.int .i64 q,.pointer none,S_]from by unfold gG;rw[hfs]]at c9;have e0:=hid c9;clear c9 hfs hbig f8;go_wp2_with fail;refine e0.out.mono ?_;rintro en w2 ⟨a7,rfl⟩;have a6:=b3.trans a7;have b1:=hid (a7.kp b9.out);clear e0;go_wp2_with fail;have a3:B_ w2 (w2.alloc (.cells #[.int .i64 3,.int .i64 q,.pointer none,S_] 60)):=ag _ _ _;have a5:=aO w2 (.cells #[.int .i64 3,.int .i64 q,.pointer none,S_] 60);revert a3 a5;generalize (w2.alloc (.cells #[.int .i64 3,.int .i64 q,.pointer none,S_] 60))=w3
    intro a3 a5;have b0:=a3.kp b1.out;have u2:=((a7.trans a3).cell (p:=⟨g,2,none⟩) g3 (λh=>h)).trans i1;have b4:0<(lb.length:Int)\/ ¬0<(lb.length:Int):=Decidable.em _;obtain⟨k0,k1,k2,k3⟩:=eR a5;obtain⟨q0,q1,q2,q3⟩:=eR b0;obtain⟨f0,f1,f2,f3⟩:=jp b0;have c7:=hid b0;clear b0 b1 b9 a5
    go_loopg [6] 0 (λmm is wr=>is= .int .i64 0/\wr=w3)
    case atStart=>exact⟨rfl,rfl⟩
    case round=>
     obtain⟨rfl,i2⟩:=hrel;subst i2;obtain b4|b4:=b4
     .go_wp2_with fail;have h9:=eZ c7.out (.int .i64 3) (.int .i64 q) (.pointer none) S_;have a0:=gn wr w.heap.size (.int .i64 3) (.int .i64 q) (.pointer none) S_;unfold pD at h9 a0;revert h9 a0;generalize ((((wr.setCell ⟨w.heap.size,0,none⟩ (.int .i64 3)).setCell ⟨w.heap.size,1,none⟩ (.int .i64 q)).setCell ⟨w.heap.size,2,none⟩ (.pointer none)).setCell ⟨w.heap.size,3,none⟩ S_)=w9;intro h9 a0;obtain⟨r0,r1,r2,r3⟩:=eR h9;exact cW (v:= .agg #[.int .i64 3,.int .i64 q,.pointer none,S_]) (by simp[results,results60,go_sem,r0,r1,r2,r3]) rfl ⟨(a6.trans a3).next a0 (λk hk h=>by omega),by unfold lV;rw[HL.out];rfl⟩
     .go_wp2_with fail;have h9:=eZ c7.out (.int .i64 3) (.int .i64 q) (.pointer none) S_;have a0:=gn wr w.heap.size (.int .i64 3) (.int .i64 q) (.pointer none) S_;unfold pD at h9 a0;revert h9 a0;generalize ((((wr.setCell ⟨w.heap.size,0,none⟩ (.int .i64 3)).setCell ⟨w.heap.size,1,none⟩ (.int .i64 q)).setCell ⟨w.heap.size,2,none⟩ (.pointer none)).setCell ⟨w.heap.size,3,none⟩ S_)=w9;intro h9 a0;obtain⟨r0,r1,r2,r3⟩:=eR h9;exact cW (v:= .agg #[.int .i64 3,.int .i64 q,.pointer none,S_]) (by simp[results,results60,go_sem,r0,r1,r2,r3]) rfl ⟨(a6.trans a3).next a0 (λk hk h=>by omega),by unfold lV;rw[HL.out];rfl⟩
   |none=>
    have HL:Hid (fY s= .ok im):=hid (by unfold fY;rw[if_neg hbig,f8.out];simp only[hfs]);rw[show gG g im= .agg #[.int .i64 0,.int .i64 0,.pointer (some ⟨g,0,none⟩),S_]from by unfold gG;rw[hfs]]at c9;have e0:=hid c9;clear c9 hfs hbig f8;go_wp2_with fail;refine e0.out.mono ?_;rintro en w2 ⟨a7,rfl⟩;have a6:=b3.trans a7;have b1:=hid (a7.kp b9.out);clear e0;go_wp2_with fail;have a3:B_ w2 (w2.alloc (.cells #[.int .i64 0,.int .i64 0,.pointer (some ⟨g,0,none⟩),S_] 60)):=ag _ _ _;have a5:=aO w2 (.cells #[.int .i64 0,.int .i64 0,.pointer (some ⟨g,0,none⟩),S_] 60)
    revert a3 a5;generalize (w2.alloc (.cells #[.int .i64 0,.int .i64 0,.pointer (some ⟨g,0,none⟩),S_] 60))=w3;intro a3 a5;have b0:=a3.kp b1.out;have a4:=a7.trans a3;have e6:=a6.trans a3;have f5:g<w3.heap.size:=bq g3 a4.size;have n4:w.heap.size<w2.heap.size:=ae b1.out;have l0:=ae a5;have c7:=hid b0;have e8:=h3.but a4;have l4:=aj hO a4 (λ_ _ h=>h);have n3:=a4.kc i1 g3;have m3:g≠w2.heap.size:=by have:=bq g3 a7.size;omega
    have HF:Hid (∀x∈lb,BtB w3 0 x.2.1 x.1.locals/\ItB w3 0 x.2.2 x.1.items):=hid (λx hx=>⟨(hf x hx).1.but a4 (λ_ _ h=>h),aj (hf x hx).2 a4 (λ_ _ h=>h)⟩);have e5:=e4.but a4 (λ_ _ _ _ h=>h);clear b0 b1 b9 hf i1 hO
    go_loopg [6] lb.length (λmm ks wr=> ∃(k:Nat),ks= .int .i64 k/\k<=lb.length/\k+mm<=lb.length/\lb.length<=k+mm/\B_ w3 wr/\Hid (∀j (hj:j<im.zq.length),j<k->fe im im.zq[j]=true))
    case atStart=>exact⟨0,rfl,by omega,by omega,by omega,But.refl _ _,λj hj h=>absurd h (by omega)⟩
    case round=>
     obtain⟨k,rfl,n5,n6,n7,a8,HA⟩:=hrel;have j2:=a8.kp c7.out;have i7:=(a8.block w2.heap.size l0 (λh=>h)).trans a5;have e2:=hid j2;have h7:=ae j2;have l3:=ae i7;have i0:=a8.kc n3 f5;have m4:g<wr.heap.size:=bq f5 a8.size;have i4:=hid j4;clear j4;obtain⟨k0,k1,k2,k3⟩:=eR i7
     by_cases hlt:k<lb.length
     .have n2:(k:Int)<(lb.length:Int):=by omega
      have hx:=aH hlt;have l5:=aj l4 a8 (λ_ _ h=>h);obtain⟨gB,m1,m2,_,a1⟩:=aF l5 (by omega);obtain⟨X,hX⟩: ∃X,lb[k]=X:=⟨_,rfl⟩;have j3:k<im.zq.length:=by rw[<-i4.out];exact hlt
      have g2:=aH j3;obtain⟨bd,g1⟩: ∃bd,im.zq[k]=bd:=⟨_,rfl⟩;rw[g1]at g2;have j0:bs[k]?=some X.1:=by rw[<-HM.out,cg,hx,hX];rfl
      have e3:=(e5.but a8 (λ_ _ _ _ h=>h)).2 k X.1 bd j0 g2;have j5:lM im.zz im.zj bd:=hW.bod _ (bp g2);obtain⟨b6,b5⟩:=HF.out _ (cN hlt);rw[hX]at b6 b5 hx;have g5:=BtB.but b6 a8 (λ_ _ h=>h);have g4:ItB wr 0 X.2.2 X.1.items:=aj b5 a8 (λ_ _ h=>h);clear b6 b5 hX;have p0:wr.cell? ⟨gB,k*5,none⟩=some (.int .u8 X.1.cls.toNat):=a1 _ _ (ba (k:=0) hx (by omega));have p1:wr.cell? ⟨gB,k*5+1,none⟩=some (.int .i64 X.1.meth):=a1 _ _ (ba (k:=1) hx (by omega));have p2:wr.cell? ⟨gB,k*5+2,none⟩=some (.int .u8 X.1.ans.toNat):=a1 _ _ (ba (k:=2) hx (by omega));have p3:wr.cell? ⟨gB,k*5+3,none⟩=some X.2.1:=a1 _ _ (ba (k:=3) hx (by omega))
      have p4:wr.cell? ⟨gB,k*5+4,none⟩=some X.2.2:=a1 _ _ (ba (k:=4) hx (by omega));obtain⟨⟨xc,xm,xa,xl,xi⟩,xv,xw⟩:=X;dsimp only at p0 p1 p2 p3 p4 g5 g4 e3;obtain⟨al,capl,rfl⟩:=aw g5;obtain⟨ai,capi,rfl⟩:=aw g4;have b2:=e8.but a8;have n1:xi.length<=24:=by have h1:xi.length=bd.code.length:=e3.its.len;have:=j5.len;omega
      have g0:=sI g (im.zz.map toX) im.zj xc xm xa al ai capl capi xl xi bd.code wr (by rw[cP];have:=hW.nc;omega) (by have:=hW.ns;omega) n1 b2.cls b2.met g5 g4 e3.its
      have e1:A4 (im.zz.map toX) im.zj xl bd.code xa=fe im bd:=by
       have h1:xl=bd.locals:=e3.loc;have h2:xa=(bu im.zj bd).ans:=e3.ans;rw[h1,h2];exact Cs hW j5
      rw[e1]at g0;unfold hdV at g0;have i3:=hid g0;subst m1
      have f7:Hid ((fe im bd=false->im.zq.findIdx? (λb=> !fe im b)=some k)/\(fe im bd=true-> ∀j (hj:j<im.zq.length),j<k+1->fe im im.zq[j]=true)):=by
       refine hid ⟨λh=> ?_,λh j hj hjk=> ?_⟩
       .rw[List.findIdx?_eq_some_iff_getElem];exact⟨j3,by rw[g1,h];rfl,λj hj=>by rw[HA.out j (by omega) hj];simp⟩
       .obtain h'|h':=Nat.lt_or_ge j k
        .exact HA.out j hj h'
        .have:j=k:=by omega
         subst this;rw[g1];exact h
      clear g0 e1 a1 hx j0 g2 g1 g4 g5;go_wp2_with fail;refine i3.out.mono ?_;rintro en w4 ⟨i6,rfl⟩;have e7:=a8.trans i6;have e9:=(i6.block w.heap.size h7 (λh=>h)).trans e2.out;have j7:=hid e9;have n0:=ae e9;obtain⟨q0,q1,q2,q3⟩:=eR e9;obtain⟨f0,f1,f2,f3⟩:=jp e9;clear i3 p0 p1 p2 p3 p4 i0 e9 k0 k1 k2 k3
      cases hbt:fe im bd with
      |false=>
       have g6:=hid (f7.out.1 hbt);clear hbt f7;go_wp2_with fail;have h9:=eZ j7.out (.int .i64 4) (.int .i64 k) (.pointer none) S_;have a0:=gn w4 w.heap.size (.int .i64 4) (.int .i64 k) (.pointer none) S_;unfold pD at h9 a0;revert h9 a0;generalize ((((w4.setCell ⟨w.heap.size,0,none⟩ (.int .i64 4)).setCell ⟨w.heap.size,1,none⟩ (.int .i64 k)).setCell ⟨w.heap.size,2,none⟩ (.pointer none)).setCell ⟨w.heap.size,3,none⟩ S_)=w9;intro h9 a0;obtain⟨r0,r1,r2,r3⟩:=eR h9;exact cW (v:= .agg #[.int .i64 4,.int .i64 k,.pointer none,S_]) (by simp[results,results60,go_sem,r0,r1,r2,r3]) rfl ⟨(e6.trans e7).next a0 (λk' hk' h=>by omega),by unfold lV;rw[HL.out];simp only[g6.out]⟩
      |true=>
       have HY:=hid (f7.out.2 hbt);clear hbt f7;go_wp2_with fail
       go_roundg (lb.length-(k+1))
       case measure=>omega
       case rel=>exact⟨k+1,by simp,by omega,by omega,by omega,e7,HY⟩
     .have n2: ¬(k:Int)<(lb.length:Int):=by omega
      have g6:Hid (im.zq.findIdx? (λb=> !fe im b)=none):=by
       refine hid ?_;rw[List.findIdx?_eq_none_iff];intro x hx;obtain⟨j,hj,rfl⟩:=List.getElem_of_mem hx;simp[HA.out j hj (by have:=i4.out;omega)]
      clear HA;obtain⟨q0,q1,q2,q3⟩:=eR e2.out;obtain⟨f0,f1,f2,f3⟩:=jp e2.out;have b2:=e8.but a8;go_wp2_with fail;have h9:=eZ e2.out (.int .i64 0) (.int .i64 0) (.pointer (some ⟨g,0,none⟩)) S_;have a0:=gn wr w.heap.size (.int .i64 0) (.int .i64 0) (.pointer (some ⟨g,0,none⟩)) S_;unfold pD at h9 a0;revert h9 a0;generalize ((((wr.setCell ⟨w.heap.size,0,none⟩ (.int .i64 0)).setCell ⟨w.heap.size,1,none⟩ (.int .i64 0)).setCell ⟨w.heap.size,2,none⟩ (.pointer (some ⟨g,0,none⟩))).setCell ⟨w.heap.size,3,none⟩ S_)=w9;intro h9 a0;obtain⟨r0,r1,r2,r3⟩:=eR h9
      have h4:ii w9 g im:=b2.off a0 (by omega) (λk' cur e hh he h8=>by
       rw[h8,e2.out]at hh;injection hh with hh;injection hh with _ h2;rw[<-h2]at he;revert he
       decide)
      exact cW (v:= .agg #[.int .i64 0,.int .i64 0,.pointer (some ⟨g,0,none⟩),S_]) (by simp[results,results60,go_sem,r0,r1,r2,r3]) rfl ⟨(e6.trans a8).next a0 (λk' hk' h=>by omega),by unfold lV;rw[HL.out];simp only[g6.out];exact⟨g,rfl,hW,h4⟩⟩
theorem yX (s:ByteArray) (w:World) (hmax:s.size<=maxLen):
  Calls prog 33 #[.string s] w λen w'=>en= .returned (.tuple #[.int .i64 (gD s).1,.int .i64 (gD s).2])/\B_ w w':=by
 have key:Calls prog 60 #[.string s] w λen w'=>B_ w w'/\ ∃p ao cap n,en= .returned (.agg #[.int .i64 (gD s).1,.int .i64 (gD s).2,.pointer p,.slice ao n cap]):=by
  refine(jA s w hmax).mono ?_;rintro en w' ⟨hB,hE⟩;refine⟨hB,?_⟩;unfold lV at hE;unfold gD
  cases hl:fY s with
  |error e=>
   rw[hl]at hE;obtain⟨e,p⟩:=e;exact⟨_,_,_,_,hE⟩
  |ok im=>
   rw[hl]at hE;simp only at hE⊢
   cases ht:im.zq.findIdx? (λb=> !fe im b)with
   |some k=>rw[ht]at hE;exact⟨_,_,_,_,hE⟩
   |none=>
    rw[ht]at hE;obtain⟨g,h1,_⟩:=hE;exact⟨_,_,_,_,h1⟩
 have HK:=hid key;clear key;obtain⟨E,hE⟩: ∃E,gD s=E:=⟨_,rfl⟩;rw[hE]at HK;rw[hE];clear hE;obtain⟨e,p⟩:=E;dsimp only at HK⊢
 go_in
 go_wp2_with fail;refine HK.out.mono ?_;rintro en w1 ⟨a4,p1,ao,cap,n,rfl⟩;go_wp2_with fail;have a1:B_ w1 (w1.alloc (.cells #[.int .i64 e,.int .i64 p,.pointer p1,.slice ao n cap] 60)):=ag _ _ _;have a0:=aO w1 (.cells #[.int .i64 e,.int .i64 p,.pointer p1,.slice ao n cap] 60);revert a1 a0;generalize (w1.alloc (.cells #[.int .i64 e,.int .i64 p,.pointer p1,.slice ao n cap] 60))=W;intro a1 a0;obtain⟨k0,k1,k2,k3⟩:=eR a0;have a3:=ae a0;have a2:B_ W W.drew:=aD _ _;refine dv (B_ W) 5 ?_;have fSA:=hid (λwS (h:(B_ W) wS)=>(And.intro (h.kc k0 a3) (h.kc k1 a3)))
 refine dg [2,3,0,1] ?_
 iterate 4 (refine dw (v:=?_) rfl a2 ?_ ?_;rotate_left;(focus (intro wS h;obtain⟨q0,q1⟩:=fSA.out wS h;clear h;go_simp;try rfl));dsimp only[Act.put];try simp only[cH])
 try clear fSA
 refine aG (k:=4) rfl ?_;intro KS hKS;go_simp;refine hKS.out _ _ (λ_=>a2) ?_;clear hKS KS;refine aG (k:=5) rfl ?_;intro KS hKS;go_simp;refine hKS.out _ _ nofun ?_;clear hKS KS;refine dl rfl ?_;go_wp2_with fail;exact cW (v:= .tuple #[.int .i64 e,.int .i64 p]) (by simp[results,results33,go_sem]) rfl ⟨rfl,(a4.trans a1).trans a2⟩
end
end Go.Proofs.YtpfkkmacakjmbaaGreatDoor
