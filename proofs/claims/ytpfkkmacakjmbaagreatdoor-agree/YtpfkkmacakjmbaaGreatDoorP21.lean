import Derived.Test.YtpfkkmacakjmbaaGreatDoorP20
set_option maxRecDepth 100000
set_option maxHeartbeats 6400000
set_option linter.all false
namespace Go.Proofs.YtpfkkmacakjmbaaGreatDoor
open Proofs.Tryz
section
open Go Go.RowKit Sp
section
variable {im:Img} {bd:Bod}
structure EP (im:Img) (bd:Bod) (q:Nat) (ty:L_):Prop where
 len:ty.length=bd.code.length
 at': ∀k,q<=k->k<bd.code.length->cA im.zq im.zx bd.zy bd.code bd.code.length k=some (ty.getD k 0)/\(ty.getD k 0).toNat≠45
theorem B8 (hW:iQ im) (hbd:lE im.zq im.zx bd) {p:Nat} {ty:L_} (h:EP im bd (p+1) ty) (hp:p<bd.code.length):
  (stepX (im.zq.map toX) im.zx bd.zy bd.code p ty=none/\cA im.zq im.zx bd.zy bd.code bd.code.length p=none)\/ ∃ty',stepX (im.zq.map toX) im.zx bd.zy bd.code p ty=some ty'/\EP im bd p ty':=by
 have f:=aM hp;obtain⟨y,m⟩: ∃y,bd.code[p]=y:=⟨_,rfl⟩;rw[m]at f;have b: ∀k,k∈eu bd.code p->cC ty k=ty.getD k 0:=λk hk=>pQ (by rw[h.len];exact(jq hk).2)
 have d:bO bd.code (cA im.zq im.zx bd.zy bd.code bd.code.length) (ay y.op) (p+1)=some ((eu bd.code p).map (cC ty)):=by
  have e:eu bd.code p=cy bd.code (ay y.op) (p+1):=by unfold eu;rw[f]
  rw[e];refine xH ?_ ?_
  .rw[<-e];exact vB hbd.full f
  .intro q a;rw[<-e]at a;have hm:=jq a;rw[b q a];exact(h.at' q (by omega) hm.2).1
 have l:=hbd.code y (a9 f)
 have j:=B7 hW hbd l (ts:=(eu bd.code p).map (cC ty)) (by rw[bZ];exact vB hbd.full f) (λc hc=>by
  obtain⟨q,a,rfl⟩:=List.mem_map.1 hc;rw[b q a];exact yC hW hbd (h.at' q (by have:=(jq a).1;omega) (jq a).2).1) (λc hc=>by
  obtain⟨q,a,rfl⟩:=List.mem_map.1 hc;rw[b q a];exact(h.at' q (by have:=(jq a).1;omega) (jq a).2).2)
 have i:cA im.zq im.zx bd.zy bd.code bd.code.length p=dn (im.zq.map toX) im.zx bd.zy y ((eu bd.code p).map (cC ty)):=by
  rw[sq f,d,j]
 unfold stepX;rw[f];simp only
 cases hx:dn (im.zq.map toX) im.zx bd.zy y ((eu bd.code p).map (cC ty))with
 |none=>exact Or.inl ⟨rfl,by rw[i,hx]⟩
 |some c=>
  right
  have g:c.toNat≠45:=by
   unfold dn at hx
   split at hx
   .rename_i hh
    cases hx
    exact hh.2
   .cases hx
  refine⟨ty.set p c,rfl,by rw[List.length_set];exact h.len,λk h1 h2=> ?_⟩
  by_cases hk:p=k
  .subst hk;have e:(ty.set p c).getD p 0=c:=by simp[List.getD,h.len,hp]
   rw[e,i,hx];exact⟨rfl,g⟩
  .have e:(ty.set p c).getD k 0=ty.getD k 0:=by simp[List.getD,List.getElem?_set_ne hk]
   rw[e];exact h.at' k (by omega) h2
theorem EQ (hW:iQ im) (hbd:lE im.zq im.zx bd):okT im.zq.length (aR im.zx bd).ans=true/\(aR im.zx bd).ans=if bd.cls<0 then 105 else gI im.zx bd.meth.toNat:=by
 obtain⟨a,_⟩ | ⟨a,b,c,d⟩:=hbd.cls
 .simp[aR,a,uP]
 .have hn: ¬bd.cls<0:=by omega
  have hm:bd.meth.toNat<im.zx.length:=by omega
  have e:=(nU hm).2;simp only[aR,hn,if_false,e,and_true];unfold gI;rw[aM hm];exact lL (hW.sig _ (cS hm)).2
theorem DC (hW:iQ im) (hbd:lE im.zq im.zx bd): ∀{q:Nat} {ty:L_},q<=bd.code.length->EP im bd q ty->tS (im.zq.map toX) (aR im.zx bd).ans (pE (im.zq.map toX) im.zx bd.zy bd.code q ty)=fa im bd:=by
 intro q
 induction q with
 |zero=>
  intro ty _ h;have f:=uO (m:=0) hbd.full;obtain⟨e,i⟩:=h.at' 0 (bG _) f;obtain⟨a1,g⟩:=EQ hW hbd;simp only[pE,tS,fa,e];rw[pQ (by rw[h.len];exact f),jk hW.cls hW.nc (yC hW hbd e) a1,g]
 |succ p ih=>
  intro ty j h;obtain⟨a,b⟩ | ⟨ty',a,b⟩:=B8 hW hbd h (by omega)
  .simp only[pE,a,tS,fa]
   have d:cA im.zq im.zx bd.zy bd.code bd.code.length 0=none:=by
    cases d:cA im.zq im.zx bd.zy bd.code bd.code.length 0 with
    |none=>rfl
    |some c=>exact absurd b (B5 hbd.full (by rw[d];simp) p (by omega))
   rw[d]
  .simp only[pE,a];exact ih (by omega) b
theorem DD (hW:iQ im) (hbd:lE im.zq im.zx bd):B6 (im.zq.map toX) im.zx bd.zy bd.code (aR im.zx bd).ans=fa im bd:=by
 unfold B6;exact DC hW hbd (bG _) ⟨by simp,λk h1 h2=>by omega⟩
end
end
section
open Go Go.RowKit Sp
attribute [local go_sem ↓] eF eG
theorem eS.but {w w':World} {g:Nat} {im:Img} (h:eS w g im) (hb:B_ w w'):eS w' g im:=by
 obtain⟨bs,a,b⟩:=h.bod;exact⟨h.cls.but hb,h.met.but hb,bs,a.but hb,b.but hb (λ_ _ _ _ h=>h)⟩
theorem Au (g:Nat) (im:Img) (w:World) (hW:iQ im) (hTX:eS w g im):
  Calls prog 64 #[.pointer (some ⟨g,0,none⟩),.int .i64 (-1)] w λen w'=>B_ w w'/\en= .returned (ia g im):=by
 have i:B_ w (w.alloc (.cells #[.int .i64 0,.int .i64 0,.pointer none,S_] 60)):=ag _ _ _;have a:=bj w (.cells #[.int .i64 0,.int .i64 0,.pointer none,S_] 60)
 cases hfs:im.zj.findSome? (λb=>unl im.zq im.zj b.code)with
 |some q=>
  have x:((q:Int)== -1)=false:=by rw[fh];omega
  have H:((q:Int)!= -1)=true:=by simp[bne,x]
  have C: ¬(q:Int)= -1:=by omega
  have f:=qM g im (w.alloc (.cells #[.int .i64 0,.int .i64 0,.pointer none,S_] 60)) hW (hTX.but i);rw[hfs]at f;simp only[mW]at f;rw[show ia g im= .agg #[.int .i64 3,.int .i64 q,.pointer none,S_]from by unfold ia;rw[hfs]];have c:=hid f;clear f hfs
  go_in
  go_wp2_with fail;revert i a c;generalize (w.alloc (.cells #[.int .i64 0,.int .i64 0,.pointer none,S_] 60))=W;intro i a c;have p:=ae a;refine c.out.mono ?_;rintro en w2 ⟨rfl,j⟩;have l:=i.trans j;have e:=(j.block w.heap.size p (λh=>h)).trans a;have n:=hid e;obtain⟨D,E,F,G⟩:=fm e;obtain⟨y,z,A,B⟩:=jI e;clear e a c;go_wp2_with fail;have m:=fF n.out (.int .i64 3) (.int .i64 q) (.pointer none) S_;have d:=gQ w2 w.heap.size (.int .i64 3) (.int .i64 q) (.pointer none) S_;unfold qr at m d;revert m d;generalize ((((w2.setCell ⟨w.heap.size,0,none⟩ (.int .i64 3)).setCell ⟨w.heap.size,1,none⟩ (.int .i64 q)).setCell ⟨w.heap.size,2,none⟩ (.pointer none)).setCell ⟨w.heap.size,3,none⟩ S_)=w9
  intro m d;obtain⟨r0,r,s,t⟩:=fm m;exact cU (v:= .agg #[.int .i64 3,.int .i64 q,.pointer none,S_]) (by simp[results,results64,go_sem,r0,r,s,t]) rfl ⟨l.next d (λk hk h=>by omega),rfl⟩
 |none=>
  have f:=qM g im (w.alloc (.cells #[.int .i64 0,.int .i64 0,.pointer none,S_] 60)) hW (hTX.but i);rw[hfs]at f;simp only[mW]at f;rw[show ia g im= .agg #[.int .i64 0,.int .i64 0,.pointer (some ⟨g,0,none⟩),S_]from by unfold ia;rw[hfs]];have c:=hid f;clear f hfs
  go_in
  go_wp2_with fail;revert i a c;generalize (w.alloc (.cells #[.int .i64 0,.int .i64 0,.pointer none,S_] 60))=W;intro i a c;have p:=ae a;refine c.out.mono ?_;rintro en w2 ⟨rfl,j⟩;have l:=i.trans j;have e:=(j.block w.heap.size p (λh=>h)).trans a;have n:=hid e;obtain⟨D,E,F,G⟩:=fm e;obtain⟨y,z,A,B⟩:=jI e;clear e a c;go_wp2_with fail;have m:=fF n.out (.int .i64 0) (.int .i64 0) (.pointer (some ⟨g,0,none⟩)) S_;have d:=gQ w2 w.heap.size (.int .i64 0) (.int .i64 0) (.pointer (some ⟨g,0,none⟩)) S_;unfold qr at m d;revert m d;generalize ((((w2.setCell ⟨w.heap.size,0,none⟩ (.int .i64 0)).setCell ⟨w.heap.size,1,none⟩ (.int .i64 0)).setCell ⟨w.heap.size,2,none⟩ (.pointer (some ⟨g,0,none⟩))).setCell ⟨w.heap.size,3,none⟩ S_)=w9
  intro m d;obtain⟨r0,r,s,t⟩:=fm m;exact cU (v:= .agg #[.int .i64 0,.int .i64 0,.pointer (some ⟨g,0,none⟩),S_]) (by simp[results,results64,go_sem,r0,r,s,t]) rfl ⟨l.next d (λk hk h=>by omega),rfl⟩
theorem eS.off {F:Nat->Prop} {w w':World} {g:Nat} {im:Img} (h:eS w g im) (hb:But F w w') (hg: ¬F g) (hf: ∀k cur e,w.heap[k]?=some (.cells cur e)->(e=240\/e=243\/e=115\/e=219\/e=5\/e=3)-> ¬F k):eS w' g im:=by
 obtain⟨⟨v0,l,d,hl,j,hm,c⟩,⟨v1,f,_,b⟩,bs,⟨v2,i,_,m⟩,a⟩:=h;refine⟨⟨v0,l,(hb.cell (p:=⟨g,0,none⟩) hl hg).trans d,aP hl hb.size,bz j hb (λk cur hh _=>hf k cur _ hh (by simp)),hm,λx hx=>bz (c x hx) hb (λk cur hh _=>hf k cur _ hh (by simp))⟩,⟨v1,(hb.cell (p:=⟨g,1,none⟩) hl hg).trans f,aP hl hb.size,bz b hb (λk cur hh _=>hf k cur _ hh (by simp))⟩,bs,⟨v2,(hb.cell (p:=⟨g,2,none⟩) hl hg).trans i,aP hl hb.size,m.but hb (λk e cur hh he _=>hf k cur e hh (by rcases he with h|h|h<;>simp[h]))⟩,a.but hb (λk cur hh _=>hf k cur _ hh (by simp))⟩
def mG (s:ByteArray) (w:World) (en:Ending) (w':World):Prop:=
 match dM s with
 | .error (e,p)=>en= .returned (.agg #[.int .i64 e,.int .i64 p,.pointer none,S_])
 | .ok im=>
  match im.zj.findIdx? (λb=> !fa im b)with
  |some k=>en= .returned (.agg #[.int .i64 4,.int .i64 k,.pointer none,S_])
  |none=> ∃g,en= .returned (.agg #[.int .i64 0,.int .i64 0,.pointer (some ⟨g,0,none⟩),S_])/\iQ im/\eS w' g im
theorem j8 (s:ByteArray) (w:World) (hmax:s.size<=maxLen):
  Calls prog 60 #[.string s] w λen w'=>B_ w w'/\mG s w en w':=by
 have b7:B_ w (w.alloc (.cells #[.int .i64 0,.int .i64 0,.pointer none,S_] 60)):=ag _ _ _;have L:=bj w (.cells #[.int .i64 0,.int .i64 0,.pointer none,S_] 60)
 by_cases hbig:400<s.size
 .have g7:400<(s.size:Int):=by omega
  have hL:dM s= .error (1,0):=by unfold dM;rw[if_pos hbig]
  have T:=hid hL;clear hbig hL
  go_in
  go_wp2_with fail;have f:=bj w (.cells #[.int .i64 1,.int .i64 0,.pointer none,S_] 60);have a:B_ w (w.alloc (.cells #[.int .i64 1,.int .i64 0,.pointer none,S_] 60)):=ag _ _ _;revert f a;generalize (w.alloc (.cells #[.int .i64 1,.int .i64 0,.pointer none,S_] 60))=w9;intro f a;obtain⟨r0,P,Q,S⟩:=fm f;exact cU (v:= .agg #[.int .i64 1,.int .i64 0,.pointer none,S_]) (by simp[results,results60,go_sem,r0,P,Q,S]) rfl ⟨a,by unfold mG;rw[T.out];rfl⟩
 .have g7: ¬400<(s.size:Int):=by omega
  go_in
  go_wp2_with fail;revert b7 L;generalize (w.alloc (.cells #[.int .i64 0,.int .i64 0,.pointer none,S_] 60))=W;intro b7 L;have h7:=ae L;have b6:=hid L;clear L;refine(xF s W (by omega)).mono ?_;rintro en w1 ⟨e7,g,p,rfl,hg,h0⟩;have H:=b7.trans e7;have A:=hid ((e7.block w.heap.size h7 (λh=>h)).trans b6.out);obtain⟨j,D,rfl,f5⟩ | ⟨rfl,im,D,b8⟩:=h0
  .have T:Hid (dM s= .error (2,j)):=hid (by unfold dM;rw[if_neg hbig,D]);clear D hbig b6;have c6:=ae f5;go_wp2_with fail;refine(r9 g j w1).mono ?_;rintro en w2 ⟨l,rfl⟩;have t:=H.trans l;have a7:=(l.block g c6 (λh=>h)).trans f5;obtain⟨t0,t1,t2⟩:=iD a7;have d6:=ae a7;have y:=hid (l.kp A.out);go_wp2_with fail;have c:B_ w2 (w2.alloc (.cells #[.int .i64 2,.int .i64 j,.pointer none,S_] 60)):=ag _ _ _;have d:=bj w2 (.cells #[.int .i64 2,.int .i64 j,.pointer none,S_] 60);revert c d;generalize (w2.alloc (.cells #[.int .i64 2,.int .i64 j,.pointer none,S_] 60))=w3
   intro c d;have n:=c.kp y.out;have u2:=c.kc t2 d6;clear t0 t1 t2;obtain⟨k0,k1,k2,k3⟩:=fm d;obtain⟨q0,q1,q2,q3⟩:=fm n;obtain⟨f0,f1,f2,f3⟩:=jI n;have B:=hid n;clear n y A d
   go_loopg [6] 0 (λmm is wr=>is= .int .i64 0/\wr=w3)
   case atStart=>exact⟨rfl,rfl⟩
   case round=>
    obtain⟨rfl,e4⟩:=hrel;subst e4;go_wp2_with fail;have f:=fF B.out (.int .i64 2) (.int .i64 j) (.pointer none) S_;have a:=gQ wr w.heap.size (.int .i64 2) (.int .i64 j) (.pointer none) S_;unfold qr at f a;revert f a;generalize ((((wr.setCell ⟨w.heap.size,0,none⟩ (.int .i64 2)).setCell ⟨w.heap.size,1,none⟩ (.int .i64 j)).setCell ⟨w.heap.size,2,none⟩ (.pointer none)).setCell ⟨w.heap.size,3,none⟩ S_)=w9;intro f a;obtain⟨r0,P,Q,S⟩:=fm f;exact cU (v:= .agg #[.int .i64 2,.int .i64 j,.pointer none,S_]) (by simp[results,results60,go_sem,r0,P,Q,S]) rfl ⟨(t.trans c).next a (λk hk h=>by omega),by unfold mG;rw[T.out];rfl⟩
  .have hW:=uw (by omega) D;have Z:=hid D;clear D b6;have C:=Au g im w1 hW b8;obtain⟨bs,⟨vb,e3,b2,lb,hO,hm,hf⟩,a0⟩:=b8.bod;obtain⟨a2,g2,rfl⟩:=aA hO;have f8:lb.length=im.zj.length:=by rw[<-a0.1,<-hm];simp
   have j0:=hW.nb;have HM:=hid hm;clear hm
   cases hfs:im.zj.findSome? (λb=>unl im.zq im.zj b.code)with
   |some q=>
    have T:Hid (dM s= .error (3,q)):=hid (by unfold dM;rw[if_neg hbig,Z.out];simp only[hfs]);rw[show ia g im= .agg #[.int .i64 3,.int .i64 q,.pointer none,S_]from by unfold ia;rw[hfs]]at C;have E:=hid C;clear C hfs hbig Z;go_wp2_with fail;refine E.out.mono ?_;rintro en w2 ⟨l,rfl⟩;have t:=H.trans l;have y:=hid (l.kp A.out);clear E;go_wp2_with fail;have c:B_ w2 (w2.alloc (.cells #[.int .i64 3,.int .i64 q,.pointer none,S_] 60)):=ag _ _ _;have d:=bj w2 (.cells #[.int .i64 3,.int .i64 q,.pointer none,S_] 60);revert c d;generalize (w2.alloc (.cells #[.int .i64 3,.int .i64 q,.pointer none,S_] 60))=w3
    intro c d;have n:=c.kp y.out;have u2:=((l.trans c).cell (p:=⟨g,2,none⟩) b2 (λh=>h)).trans e3;have I:0<(lb.length:Int)\/ ¬0<(lb.length:Int):=Decidable.em _;obtain⟨k0,k1,k2,k3⟩:=fm d;obtain⟨q0,q1,q2,q3⟩:=fm n;obtain⟨f0,f1,f2,f3⟩:=jI n;have B:=hid n;clear n y A d
    go_loopg [6] 0 (λmm is wr=>is= .int .i64 0/\wr=w3)
    case atStart=>exact⟨rfl,rfl⟩
    case round=>
     obtain⟨rfl,e4⟩:=hrel;subst e4;obtain I|I:=I
     .go_wp2_with fail;have f:=fF B.out (.int .i64 3) (.int .i64 q) (.pointer none) S_;have a:=gQ wr w.heap.size (.int .i64 3) (.int .i64 q) (.pointer none) S_;unfold qr at f a;revert f a;generalize ((((wr.setCell ⟨w.heap.size,0,none⟩ (.int .i64 3)).setCell ⟨w.heap.size,1,none⟩ (.int .i64 q)).setCell ⟨w.heap.size,2,none⟩ (.pointer none)).setCell ⟨w.heap.size,3,none⟩ S_)=w9;intro f a;obtain⟨r0,P,Q,S⟩:=fm f;exact cU (v:= .agg #[.int .i64 3,.int .i64 q,.pointer none,S_]) (by simp[results,results60,go_sem,r0,P,Q,S]) rfl ⟨(t.trans c).next a (λk hk h=>by omega),by unfold mG;rw[T.out];rfl⟩
     .go_wp2_with fail;have f:=fF B.out (.int .i64 3) (.int .i64 q) (.pointer none) S_;have a:=gQ wr w.heap.size (.int .i64 3) (.int .i64 q) (.pointer none) S_;unfold qr at f a;revert f a;generalize ((((wr.setCell ⟨w.heap.size,0,none⟩ (.int .i64 3)).setCell ⟨w.heap.size,1,none⟩ (.int .i64 q)).setCell ⟨w.heap.size,2,none⟩ (.pointer none)).setCell ⟨w.heap.size,3,none⟩ S_)=w9;intro f a;obtain⟨r0,P,Q,S⟩:=fm f;exact cU (v:= .agg #[.int .i64 3,.int .i64 q,.pointer none,S_]) (by simp[results,results60,go_sem,r0,P,Q,S]) rfl ⟨(t.trans c).next a (λk hk h=>by omega),by unfold mG;rw[T.out];rfl⟩
   |none=>
    have T:Hid (dM s= .ok im):=hid (by unfold dM;rw[if_neg hbig,Z.out];simp only[hfs]);rw[show ia g im= .agg #[.int .i64 0,.int .i64 0,.pointer (some ⟨g,0,none⟩),S_]from by unfold ia;rw[hfs]]at C;have E:=hid C;clear C hfs hbig Z;go_wp2_with fail;refine E.out.mono ?_;rintro en w2 ⟨l,rfl⟩;have t:=H.trans l;have y:=hid (l.kp A.out);clear E;go_wp2_with fail;have c:B_ w2 (w2.alloc (.cells #[.int .i64 0,.int .i64 0,.pointer (some ⟨g,0,none⟩),S_] 60)):=ag _ _ _;have d:=bj w2 (.cells #[.int .i64 0,.int .i64 0,.pointer (some ⟨g,0,none⟩),S_] 60);revert c d
    generalize (w2.alloc (.cells #[.int .i64 0,.int .i64 0,.pointer (some ⟨g,0,none⟩),S_] 60))=w3;intro c d;have n:=c.kp y.out;have r:=l.trans c;have a3:=t.trans c;have a6:g<w3.heap.size:=aP b2 r.size;have i4:w.heap.size<w2.heap.size:=ae y.out;have g3:=ae d;have B:=hid n;have a5:=b8.but r;have g5:=ah hO r (λ_ _ h=>h);have i3:=r.kc e3 b2;have h5:g≠w2.heap.size:=by have:=aP b2 l.size;omega
    have HF:Hid (∀x∈lb,BtB w3 0 x.2.1 x.1.zy/\ItB w3 0 x.2.2 x.1.items):=hid (λx hx=>⟨(hf x hx).1.but r (λ_ _ h=>h),ah (hf x hx).2 r (λ_ _ h=>h)⟩);have a1:=a0.but r (λ_ _ _ _ h=>h);clear n y A hf e3 hO
    go_loopg [6] lb.length (λmm ks wr=> ∃(k:Nat),ks= .int .i64 k/\k<=lb.length/\k+mm<=lb.length/\lb.length<=k+mm/\B_ w3 wr/\Hid (∀j (hj:j<im.zj.length),j<k->fa im im.zj[j]=true))
    case atStart=>exact⟨0,rfl,by omega,by omega,by omega,cq _ _,λj hj h=>absurd h (by omega)⟩
    case round=>
     obtain⟨k,rfl,i5,i6,i7,m,HA⟩:=hrel;have f6:=m.kp B.out;have e9:=(m.block w2.heap.size g3 (λh=>h)).trans d;have F:=hid f6;have e0:=ae f6;have g4:=ae e9;have e2:=m.kc i3 a6;have h6:g<wr.heap.size:=aP a6 m.size;have e6:=hid f8;clear f8;obtain⟨k0,k1,k2,k3⟩:=fm e9
     by_cases hlt:k<lb.length
     .have i2:(k:Int)<(lb.length:Int):=by omega
      have hx:=aM hlt;have g6:=ah g5 m (λ_ _ h=>h);obtain⟨gB,h3,h4,_,i⟩:=aL g6 (by omega);obtain⟨X,hX⟩: ∃X,lb[k]=X:=⟨_,rfl⟩;have f7:k<im.zj.length:=by rw[<-e6.out];exact hlt
      have b1:=aM f7;obtain⟨bd,b0⟩: ∃bd,im.zj[k]=bd:=⟨_,rfl⟩;rw[b0]at b1;have f4:bs[k]?=some X.1:=by rw[<-HM.out,cg,hx,hX];rfl
      have G:=(a1.but m (λ_ _ _ _ h=>h)).2 k X.1 bd f4 b1;have g0:lE im.zq im.zx bd:=hW.bod _ (a9 b1);obtain⟨O,M⟩:=HF.out _ (cS hlt);rw[hX]at O M hx;have b4:=BtB.but O m (λ_ _ h=>h);have b3:ItB wr 0 X.2.2 X.1.items:=ah M m (λ_ _ h=>h);clear O M hX;have p0:wr.cell? ⟨gB,k*5,none⟩=some (.int .u8 X.1.cls.toNat):=i _ _ (br (k:=0) hx (by omega));have p1:wr.cell? ⟨gB,k*5+1,none⟩=some (.int .i64 X.1.meth):=i _ _ (br (k:=1) hx (by omega));have p2:wr.cell? ⟨gB,k*5+2,none⟩=some (.int .u8 X.1.ans.toNat):=i _ _ (br (k:=2) hx (by omega));have p3:wr.cell? ⟨gB,k*5+3,none⟩=some X.2.1:=i _ _ (br (k:=3) hx (by omega))
      have p4:wr.cell? ⟨gB,k*5+4,none⟩=some X.2.2:=i _ _ (br (k:=4) hx (by omega));obtain⟨⟨xc,xm,xa,xl,xi⟩,xv,xw⟩:=X;dsimp only at p0 p1 p2 p3 p4 b4 b3 G;obtain⟨al,capl,rfl⟩:=aA b4;obtain⟨ai,capi,rfl⟩:=aA b3;have z:=a5.but m;have i1:xi.length<=24:=by have h1:xi.length=bd.code.length:=G.its.len;have:=g0.len;omega
      have a8:=tT g (im.zq.map toX) im.zx xc xm xa al ai capl capi xl xi bd.code wr (by rw[bZ];have:=hW.nc;omega) (by have:=hW.ns;omega) i1 z.cls z.met b4 b3 G.its
      have e1:B6 (im.zq.map toX) im.zx xl bd.code xa=fa im bd:=by
       have h1:xl=bd.zy:=G.loc;have h2:xa=(aR im.zx bd).ans:=G.ans;rw[h1,h2];exact DD hW g0
      rw[e1]at a8;unfold hdV at a8;have e5:=hid a8;subst h3
      have Y:Hid ((fa im bd=false->im.zj.findIdx? (λb=> !fa im b)=some k)/\(fa im bd=true-> ∀j (hj:j<im.zj.length),j<k+1->fa im im.zj[j]=true)):=by
       refine hid ⟨λh=> ?_,λh j hj hjk=> ?_⟩
       .rw[List.findIdx?_eq_some_iff_getElem];exact⟨f7,by rw[b0,h];rfl,λj hj=>by rw[HA.out j (by omega) hj];simp⟩
       .obtain h'|h':=ju j k
        .exact HA.out j hj h'
        .have:j=k:=by omega
         subst this;rw[b0];exact h
      clear a8 e1 i hx f4 b1 b0 b3 b4;go_wp2_with fail;refine e5.out.mono ?_;rintro en w4 ⟨e8,rfl⟩;have a4:=m.trans e8;have J:=(e8.block w.heap.size e0 (λh=>h)).trans F.out;have g1:=hid J;have i0:=ae J;obtain⟨q0,q1,q2,q3⟩:=fm J;obtain⟨f0,f1,f2,f3⟩:=jI J;clear e5 p0 p1 p2 p3 p4 e2 J k0 k1 k2 k3
      cases hbt:fa im bd with
      |false=>
       have b5:=hid (Y.out.1 hbt);clear hbt Y;go_wp2_with fail;have f:=fF g1.out (.int .i64 4) (.int .i64 k) (.pointer none) S_;have a:=gQ w4 w.heap.size (.int .i64 4) (.int .i64 k) (.pointer none) S_;unfold qr at f a;revert f a;generalize ((((w4.setCell ⟨w.heap.size,0,none⟩ (.int .i64 4)).setCell ⟨w.heap.size,1,none⟩ (.int .i64 k)).setCell ⟨w.heap.size,2,none⟩ (.pointer none)).setCell ⟨w.heap.size,3,none⟩ S_)=w9;intro f a;obtain⟨r0,P,Q,S⟩:=fm f;exact cU (v:= .agg #[.int .i64 4,.int .i64 k,.pointer none,S_]) (by simp[results,results60,go_sem,r0,P,Q,S]) rfl ⟨(a3.trans a4).next a (λk' hk' h=>by omega),by unfold mG;rw[T.out];simp only[b5.out]⟩
      |true=>
       have HY:=hid (Y.out.2 hbt);clear hbt Y;go_wp2_with fail
       go_roundg (lb.length-(k+1))
       case measure=>omega
       case rel=>exact⟨k+1,by simp,by omega,by omega,by omega,a4,HY⟩
     .have i2: ¬(k:Int)<(lb.length:Int):=by omega
      have b5:Hid (im.zj.findIdx? (λb=> !fa im b)=none):=by
       refine hid ?_;rw[List.findIdx?_eq_none_iff];intro x hx;obtain⟨j,hj,rfl⟩:=List.getElem_of_mem hx;simp[HA.out j hj (by have:=e6.out;omega)]
      clear HA;obtain⟨q0,q1,q2,q3⟩:=fm F.out;obtain⟨f0,f1,f2,f3⟩:=jI F.out;have z:=a5.but m;go_wp2_with fail;have f:=fF F.out (.int .i64 0) (.int .i64 0) (.pointer (some ⟨g,0,none⟩)) S_;have a:=gQ wr w.heap.size (.int .i64 0) (.int .i64 0) (.pointer (some ⟨g,0,none⟩)) S_;unfold qr at f a;revert f a;generalize ((((wr.setCell ⟨w.heap.size,0,none⟩ (.int .i64 0)).setCell ⟨w.heap.size,1,none⟩ (.int .i64 0)).setCell ⟨w.heap.size,2,none⟩ (.pointer (some ⟨g,0,none⟩))).setCell ⟨w.heap.size,3,none⟩ S_)=w9;intro f a;obtain⟨r0,P,Q,S⟩:=fm f
      have b9:eS w9 g im:=z.off a (by omega) (λk' cur e hh he h8=>by
       rw[h8,F.out]at hh;injection hh with hh;injection hh with _ h2;rw[<-h2]at he;revert he
       decide)
      exact cU (v:= .agg #[.int .i64 0,.int .i64 0,.pointer (some ⟨g,0,none⟩),S_]) (by simp[results,results60,go_sem,r0,P,Q,S]) rfl ⟨(a3.trans m).next a (λk' hk' h=>by omega),by unfold mG;rw[T.out];simp only[b5.out];exact⟨g,rfl,hW,b9⟩⟩
theorem Av (s:ByteArray) (w:World) (hmax:s.size<=maxLen):
  Calls prog 33 #[.string s] w λen w'=>en= .returned (.tuple #[.int .i64 (dN s).1,.int .i64 (dN s).2])/\B_ w w':=by
 have key:Calls prog 60 #[.string s] w λen w'=>B_ w w'/\ ∃p ao cap n,en= .returned (.agg #[.int .i64 (dN s).1,.int .i64 (dN s).2,.pointer p,.slice ao n cap]):=by
  refine(j8 s w hmax).mono ?_;rintro en w' ⟨r,a⟩;refine⟨r,?_⟩;unfold mG at a;unfold dN
  cases hl:dM s with
  |error e=>
   rw[hl]at a;obtain⟨e,p⟩:=e;exact⟨_,_,_,_,a⟩
  |ok im=>
   rw[hl]at a;simp only at a⊢
   cases ht:im.zj.findIdx? (λb=> !fa im b)with
   |some k=>rw[ht]at a;exact⟨_,_,_,_,a⟩
   |none=>
    rw[ht]at a;obtain⟨g,q,_⟩:=a;exact⟨_,_,_,_,q⟩
 have j:=hid key;clear key;obtain⟨E,a⟩: ∃E,dN s=E:=⟨_,rfl⟩;rw[a]at j;rw[a];clear a;obtain⟨e,p⟩:=E;dsimp only at j⊢
 go_in
 go_wp2_with fail;refine j.out.mono ?_;rintro en w1 ⟨l,m,ao,cap,n,rfl⟩;go_wp2_with fail;have d:B_ w1 (w1.alloc (.cells #[.int .i64 e,.int .i64 p,.pointer m,.slice ao n cap] 60)):=ag _ _ _;have c:=bj w1 (.cells #[.int .i64 e,.int .i64 p,.pointer m,.slice ao n cap] 60);revert d c;generalize (w1.alloc (.cells #[.int .i64 e,.int .i64 p,.pointer m,.slice ao n cap] 60))=W;intro d c;obtain⟨t,k1,k2,k3⟩:=fm c;have i:=ae c;have f:B_ W W.drew:=aD _ _;refine dr (B_ W) 5 ?_;have fSA:=hid (λwS (h:(B_ W) wS)=>(And.intro (h.kc t i) (h.kc k1 i)))
 refine cW [2,3,0,1] ?_
 iterate 4 (refine dt (v:=?_) rfl f ?_ ?_;rotate_left;(focus (intro wS h;obtain⟨x,y⟩:=fSA.out wS h;clear h;go_simp;try rfl));dsimp only[Act.put];try simp only[bW])
 try clear fSA
 refine aG (k:=4) rfl ?_;intro KS hKS;go_simp;refine hKS.out _ _ (λ_=>f) ?_;clear hKS KS;refine aG (k:=5) rfl ?_;intro KS hKS;go_simp;refine hKS.out _ _ nofun ?_;clear hKS KS;refine dg rfl ?_;go_wp2_with fail;exact cU (v:= .tuple #[.int .i64 e,.int .i64 p]) (by simp[results,results33,go_sem]) rfl ⟨rfl,(l.trans d).trans f⟩
end
end Go.Proofs.YtpfkkmacakjmbaaGreatDoor
