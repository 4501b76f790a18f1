import Derived.Test.YtpfkkmacakjmbaaGreatDoorP29
set_option maxRecDepth 100000
set_option maxHeartbeats 6400000
set_option linter.all false
namespace Go.Proofs.YtpfkkmacakjmbaaGreatDoor
open Proofs.Tryz
section
open Go Go.RowKit Sp
attribute [local go_sem ↓] eF eG
structure PaW (w W:World) (pl op n pn pc:Nat) (c:UInt8) (pa:Option Addr):Prop where
 nb:NB w W
 b0:W.heap[w.heap.size]?=some (.cells #[.int .i64 pl,.int .u8 op,.int .u8 c.toNat,.int .i64 n,.slice pa pn pc] 219)
 b1:W.heap[w.heap.size+1]?=some (.cells #[.int .i32 0,.int .i64 0] 168)
 sz:W.heap.size=w.heap.size+1+1
theorem paW {w:World} {pl op n pn pc:Nat} {c:UInt8} {pa:Option Addr}:PaW w ((w.alloc (.cells #[.int .i64 pl,.int .u8 op,.int .u8 c.toNat,.int .i64 n,.slice pa pn pc] 219)).alloc (.cells #[.int .i32 0,.int .i64 0] 168)) pl op n pn pc c pa:=
 ⟨((NB.refl w).alloc (by decide)).alloc (by decide),((ag (λ_=>False) _ _).block _ (by simp) (λh=>h)).trans (bj w _),aw (by simp) _,by simp⟩
section
variable {P:Nat->Prop} {w0 w:World} {be bw tx bl:Nat} {inp:ByteArray} {s:Ev} {lv vo vb:Value} {l:List V} {gs:List Nat} {fv:List Value} {im:Img} {b:Bod} {bf d:Nat} {Xb:bK} {vl vi:Value}
theorem AM (h:StQ P w0 w be bw tx inp s bl lv l vo vb gs fv) (pl op n pn pc k:Nat) (c:UInt8) (pa:Option Addr) (hk:pn<=k) (hk3:k<=3):
  Calls prog 155 #[.pointer (some ⟨be,0,none⟩),.pointer (some ⟨bf,0,none⟩),.agg #[.int .i64 pl,.int .u8 op,.int .u8 c.toNat,.int .i64 n,.slice pa pn pc],.int .i64 k] w (ReV P w0 w be bw tx inp bl lv (.ok .z l s)):=by
 have b:=hid h;have k1: ¬((k:Int)<0):=by omega
 have k2:(pn:Int)<=(k:Int):=by omega
 clear h
 go_in
 go_wp2_with fail;have a:=paW (w:=w) (pl:=pl) (op:=op) (n:=n) (pn:=pn) (pc:=pc) (c:=c) (pa:=pa);exact dI results155 rfl rfl rfl (aw (by simp) _) ⟨a.nb.but.mono (λ_ _ h=>h.elim),vo,vb,gs,fv,rfl,b.out.new a.nb.but⟩
theorem kW {f B F:Nat} {t:UInt8} (IH:jQ im inp w0 be bw tx f) (h:StQ P w0 w be bw tx inp s bl lv l vo vb gs fv) (hF:FrS P w0 w im b bf d Xb vl vi bl) (hbm:b∈im.zj) (hs:StT im B s) (hsf:s.left<=f) (hd:d<=12) (hll:LT im.zq s.heap b.zy l) (ps:List Nat) (hps:ps.length<=3) (k j:Nat) (hk:ps[k]?=some j) (hty:cA im.zq im.zx b.zy b.code F j=some t) (pl op n pn pc:Nat) (c:UInt8) (pa:Option Addr) (hrow:w0.ownsRow 0 3 1 (.slice pa pn pc) ps.length (fi ps)):
  Calls prog 155 #[.pointer (some ⟨be,0,none⟩),.pointer (some ⟨bf,0,none⟩),.agg #[.int .i64 pl,.int .u8 op,.int .u8 c.toNat,.int .i64 n,.slice pa pn pc],.int .i64 k] w (ReV P w0 w be bw tx inp bl lv (bC im inp f b d j l s)):=by
 have I:=(bn hk).1;obtain⟨a',cap',z⟩:=aA hrow;injection z with e1 e2 e3;subst e1 e2 e3;obtain⟨g,rfl,p,E,a⟩:=aL hrow (by omega);have A:w0.cell? ⟨g,k,none⟩=some (.int .i64 j):=a _ _ (by simp[fi,hk]);replace A:=h.old.kc A p;replace p:=aP p h.old.size;have i:=hid (paW (w:=w) (pl:=pl) (op:=op) (n:=n) (pn:=ps.length) (pc:=pc) (c:=c) (pa:=some ⟨g,0,none⟩));have y:=hid (λX (hX:NB w X)=>IH b d j l s t F B _ X bl lv vo vb gs fv bf Xb vl vi hbm hd hty hll hs hsf (h.grown hX) (hF.grown hX));obtain⟨RR,q⟩: ∃RR,bC im inp f b d j l s=RR:=⟨_,rfl⟩;rw[q]at y⊢;have D:=h.old.size;have k1: ¬((k:Int)<0):=by omega
 have k2: ¬((ps.length:Int)<=(k:Int)):=by omega
 have k3:(k:Int)<(ps.length:Int):=by omega
 have G:g<w.heap.size+1:=by omega
 have H:g<w.heap.size+1+1:=by omega
 clear h hF hk hrow a q hty hll hs;generalize ps.length=np at*
 go_in
 go_wp2_with fail;refine(y.out _ i.out.nb).mono ?_;intro en w1 x;obtain⟨K,N,e,rfl,m⟩:=ReV.pass i.out.nb D x;obtain⟨v,r⟩:=m (w.heap.size+1) (by omega) ⟨0,0,i.out.b1⟩;obtain⟨L,M,r0,O,Q,S,J⟩:=v.parts;have C:=hid r;clear r m x y i;go_wp2_with fail;exact dI results155 rfl rfl rfl (v.put _ _) C.out
end
def jt:R->(V->List V->Ev->R)->R
 | .bad e o,_=> .bad e o
 | .ok u l s,k=>k u l s
theorem ja {e:Nat} (h1:5<=e) (h2:e<=10):(cr e !=0)=true/\(cr e==0)=false:=by
 have:e=5\/e=6\/e=7\/e=8\/e=9\/e=10:=by omega
 obtain rfl|rfl|rfl|rfl|rfl|rfl:=this<;>decide
theorem Cw {w:World} {r:Nat} {K N:Int} {ob:Obj} (h:dE w r):(((w.setCell ⟨r,0,none⟩ (.int .i32 K)).setCell ⟨r,1,none⟩ (.int .i64 N)).alloc ob).heap[r]?=some (.cells #[.int .i32 K,.int .i64 N] 168):=
 ((ag (λ_=>False) _ _).block r (ae (h.put K N)) (λh=>h)).trans (h.put K N)
section
variable {P:Nat->Prop} {w0 w w1:World} {be bw tx bl:Nat} {inp:ByteArray} {s:Ev} {lv vo vb:Value} {l:List V} {gs:List Nat} {fv:List Value} {im:Img} {b:Bod} {bf d:Nat} {Xb:bK} {vl vi:Value}
theorem ReV.since {r:R} {en:Ending} {w2:World} (hB:But (FrQ P w0) w w1) (h:ReV P w0 w1 be bw tx inp bl lv r en w2):ReV P w0 w be bw tx inp bl lv r en w2:=⟨hB.trans h.1,h.2⟩
theorem xU {f B F:Nat} {t0 t1 t2:UInt8} (hR:eE im) (IH:jQ im inp w0 be bw tx f) (h:StQ P w0 w be bw tx inp s bl lv l vo vb gs fv) (hF:FrS P w0 w im b bf d Xb vl vi bl) (hbm:b∈im.zj) (hs:StT im B s) (hsf:s.left<=f) (hd:d<=12) (hll:LT im.zq s.heap b.zy l) (j0 j1 j2:Nat) (g0:cA im.zq im.zx b.zy b.code F j0=some t0) (h105:t0.toNat=105) (g1:cA im.zq im.zx b.zy b.code F j1=some t1) (g2:cA im.zq im.zx b.zy b.code F j2=some t2) (pl op n pn pc:Nat) (c:UInt8) (pa:Option Addr) (hrow:w0.ownsRow 0 3 1 (.slice pa pn pc) 3 (fi [j0,j1,j2])):
  Calls prog 153 #[.pointer (some ⟨be,0,none⟩),.pointer (some ⟨bf,0,none⟩),.agg #[.int .i64 pl,.int .u8 op,.int .u8 c.toNat,.int .i64 n,.slice pa pn pc]] w (ReV P w0 w be bw tx inp bl lv (jt (bC im inp f b d j0 l s) (λu l s=>bC im inp f b d (if u.N=0 then j2 else j1) l s))):=by
 have q:=hid (paW (w:=w) (pl:=pl) (op:=op) (n:=n) (pn:=pn) (pc:=pc) (c:=c) (pa:=pa));have T:=hid (λX (hX:NB w X)=>kW IH (h.grown hX) (hF.grown hX) hbm hs hsf hd hll [j0,j1,j2] (by simp) 0 j0 rfl g0 pl op n pn pc c pa hrow);have H:=hid (fo hR inp f B b d j0 l s t0 F hbm g0 hll hs hsf);obtain⟨RR,I⟩: ∃RR,jt (bC im inp f b d j0 l s) (λu l s=>bC im inp f b d (if u.N=0 then j2 else j1) l s)=RR:=⟨_,rfl⟩;rw[I];have G:=hid I;have Z:=h.old.size;have Y:=hid hF;clear h hF I hll;rw[show((0:Nat):Int)=0 from rfl]at T
 go_in
 go_wp2_with fail;revert q;generalize ((w.alloc (.cells #[.int .i64 pl,.int .u8 op,.int .u8 c.toNat,.int .i64 n,.slice pa pn pc] 219)).alloc (.cells #[.int .i32 0,.int .i64 0] 168))=W;intro q;have L:=q.out;have a5:=L.sz;have M:=L.nb;refine(T.out W M).mono ?_;rintro en w1 ⟨k,a7,a6,a3,a2,S⟩;clear T;have D:=(Y.out.grown M).but k;have pI:PQ P w W w.heap.size:=Or.inr ⟨bG _,by omega⟩;have pR:PQ P w W (w.heap.size+1):=Or.inr ⟨by omega,by omega⟩;have d0:=(k.block _ (by omega) (λhf=>hf.2 pI)).trans L.b0;have a4:=ae d0;have C:dE W (w.heap.size+1):=⟨0,0,L.b1⟩;have j:=H.out;have g:=G.out
 cases hn:bC im inp f b d j0 l s with
 |bad e o=>
  rw[hn]at S j g;obtain⟨rfl,s1,l1,ho,p⟩:=S;subst g;obtain⟨e1,e2⟩:=ja j.1 j.2.1;have J:=hid (λa b=>StQ.fin M Z p k (r:=w.heap.size+1) (by omega) C a b);have O:=C.but k (λhf=>hf.2 pR);obtain⟨K9,N9,r0,r1,z0,z1,Q⟩:=O.parts;have a1:w.heap.size+1<w1.heap.size+1:=by omega
  clear H G j hn q L d0 p;go_wp2_with fail;exact dI results153 rfl rfl rfl (Cw O) ⟨(J.out _ _).2.1.trans (ag _ _ _),_,_,_,_,rfl,s1,l1,ho,(J.out _ _).2.2.new (ag _ _ _)⟩
 |ok u l1 s1=>
  rw[hn]at S j g;obtain⟨rfl,p⟩:=S;obtain⟨y1,y2,y3,y4,y5⟩:=j;obtain⟨m,rfl,m1,m2⟩:=y1.int h105;simp only[jt,V.N]at g;have E:s1.left<=f:=by omega
  have A: ∀ob,But (FrQ (PQ P w W) w0) w1 (w1.alloc ob):=λob=>ag _ _ _
  have t:=hid (λob=>kW IH (p.new (ag (λ_=>False) w1 ob)) (D.but (A ob)) hbm y3 E hd y2 [j0,j1,j2] (by simp) 1 j1 rfl g1 pl op n pn pc c pa hrow);have v:=hid (λob=>kW IH (p.new (ag (λ_=>False) w1 ob)) (D.but (A ob)) hbm y3 E hd y2 [j0,j1,j2] (by simp) 2 j2 rfl g2 pl op n pn pc c pa hrow);rw[show((1:Nat):Int)=1 from rfl]at t;rw[show((2:Nat):Int)=2 from rfl]at v;have i0:=ce0 d0;have i1:=ce1 d0;have i2:=ce2 d0;have i3:=ce3 d0;have i4:=ce4 d0;clear H G hn q d0 p y1;simp only[aI,xN,xO]
  by_cases hm:m=0
  .simp only[hm,if_true]at g;have a0:(m==0)=true:=by simpa using hm
   rw[g]at v;clear g t hm;go_wp2_with fail;refine(v.out _).mono ?_;intro en w2 z;obtain⟨K,N,e,rfl,i⟩:=ReV.pass M Z (z.since (k.trans (A _)));obtain⟨y,x⟩:=i (w.heap.size+1) (by omega) C;obtain⟨K9,N9,r0,r1,z0,z1,Q⟩:=y.parts;have J:=hid x;clear x i z v i0 i1 i2 i3 i4;go_wp2_with fail;exact dI results153 rfl rfl rfl (y.put _ _) J.out
  .simp only[hm,if_false]at g;have a0:(m==0)=false:=by simpa using hm
   rw[g]at t;clear g v hm;go_wp2_with fail;refine(t.out _).mono ?_;intro en w2 z;obtain⟨K,N,e,rfl,i⟩:=ReV.pass M Z (z.since (k.trans (A _)));obtain⟨y,x⟩:=i (w.heap.size+1) (by omega) C;obtain⟨K9,N9,r0,r1,z0,z1,Q⟩:=y.parts;have J:=hid x;clear x i z t i0 i1 i2 i3 i4;go_wp2_with fail;exact dI results153 rfl rfl rfl (y.put _ _) J.out
end
def vV (cc dd:List V->Ev->R) (g:Nat) (n:Int) (l:List V) (s:Ev):R:=if n=0 then .ok (.i 0) l s else jt (dd l s) (λ_ l s=>fP cc dd g l s)
theorem vW {cc dd:List V->Ev->R} {g:Nat} {l l1:List V} {s s1:Ev} {n:Int} (h:cc l s= .ok (.i n) l1 s1):fP cc dd (g+1) l s=vV cc dd g n l1 s1:=by
 simp only[fP,h,vV,V.N]
 by_cases h0:n=0
 .simp[h0]
 .simp only[h0,if_false]
  cases dd l1 s1<;>rfl
def vX (P2:Nat->Prop) (w0:World) (be bw tx:Nat) (inp:ByteArray) (bl:Nat) (lv:Value) (im:Img) (B:Nat) (lo:L_) (cc dd:List V->Ev->R) (RR:R) (r8 mm:Nat) (e9:Int) (wr:World):Prop:=
 (e9=0/\ ∃(g:Nat) (n:Int) (l:List V) (s:Ev) (vo vb:Value) (gs:List Nat) (fv:List Value),wr.heap[r8]?=some (.cells #[.int .i32 n,.int .i64 0] 168)/\StQ P2 w0 wr be bw tx inp s bl lv l vo vb gs fv/\LT im.zq s.heap lo l/\StT im B s/\s.left<=g/\g+1<=mm/\RR=vV cc dd g n l s)\/
 (∃(e:Nat) (o:L_),e9=cr e/\5<=e/\e<=10/\RR= .bad e o/\dE wr r8/\ ∃(s:Ev) (l:List V) (vo vb:Value) (gs:List Nat) (fv:List Value),s.out=o/\StQ P2 w0 wr be bw tx inp s bl lv l vo vb gs fv)
section
variable {P P2:Nat->Prop} {w0 w w1:World} {be bw tx bl:Nat} {inp:ByteArray} {s:Ev} {lv vo vb:Value} {l:List V} {gs:List Nat} {fv:List Value} {im:Img} {b:Bod} {bf d:Nat} {Xb:bK} {vl vi:Value}
theorem FrS.mono (h:FrS P w0 w im b bf d Xb vl vi bl) (hp:P2 bf):FrS P2 w0 w im b bf d Xb vl vi bl:=⟨h.fr,hp,h.bd⟩
theorem StQ.lay (h:StQ P w0 w be bw tx inp s bl lv l vo vb gs fv) {r:Nat} (hp:P r) (h0:w0.heap.size<=r) (hx:dE w r) (K N:Int):StQ P w0 ((w.setCell ⟨r,0,none⟩ (.int .i32 K)).setCell ⟨r,1,none⟩ (.int .i64 N)) be bw tx inp s bl lv l vo vb gs fv:=
 h.tmp (F:=(· =r)) (dH _ _ _ _) (λk e=>by have e:k=r:=e;subst e;exact⟨hp,h0⟩) (λk e c fz he=>by have e:k=r:=e;subst e;rw[hx.put]at he;cases he)
theorem StQ.grown1 {c:Array Value} {t:Nat} (h:StQ P w0 w be bw tx inp s bl lv l vo vb gs fv) (ht:t≠5):StQ (PQ P w (w.alloc (.cells c t))) w0 (w.alloc (.cells c t)) be bw tx inp s bl lv l vo vb gs fv:=h.grown ((NB.refl w).alloc ht)
theorem vX.first {f B F j0:Nat} {t0:UInt8} {dd:List V->Ev->R} {en:Ending} (hR:eE im) (hbm:b∈im.zj) (hs:StT im B s) (hsf:s.left<=f) (hll:LT im.zq s.heap b.zy l) (g0:cA im.zq im.zx b.zy b.code F j0=some t0) (h105:t0.toNat=105) (hre:ReV P w0 w be bw tx inp bl lv (bC im inp f b d j0 l s) en w1):
  ∃K N e:Int,en= .returned (.tuple #[.agg #[.int .i32 K,.int .i64 N],.int .i64 e])/\
   ∀RR,fP (bC im inp f b d j0) dd f l s=RR->vX (PQ P w1 (w1.alloc (.cells #[.int .i32 K,.int .i64 N] 168))) w0 be bw tx inp bl lv im B b.zy (bC im inp f b d j0) dd RR w1.heap.size (f+1) e (w1.alloc (.cells #[.int .i32 K,.int .i64 N] 168)):=by
 obtain⟨r,vo,vb,gs,fv,c⟩:=hre;have HT:=fo hR inp f B b d j0 l s t0 F hbm g0 hll hs hsf
 cases hn:bC im inp f b d j0 l s with
 |bad e o=>
  rw[hn]at c HT;obtain⟨rfl,i,l1,k,a⟩:=c;refine⟨_,_,_,rfl,λRR hRR=>Or.inr ⟨e,o,rfl,HT.1,HT.2.1,?_,⟨_,_,bj _ _⟩,i,l1,vo,vb,gs,fv,k,a.grown1 (by decide)⟩⟩;rw[<-hRR];exact sp (λh=>i9 h) hsf hn
 |ok v l1 i=>
  rw[hn]at c HT;obtain⟨rfl,a⟩:=c;obtain⟨n,p,q,y,z⟩:=HT;obtain⟨m,rfl,t,x⟩:=n.int h105
  have j:0<s.left:=by
   obtain h|h:=Nat.eq_zero_or_pos s.left
   .rw[i9 h]at hn;cases hn
   .exact h
  refine⟨m,0,0,rfl,λRR hRR=>Or.inl ⟨rfl,f-1,m,l1,i,vo,vb,gs,fv,bj _ _,a.grown1 (by decide),p,q,by omega,by omega,?_⟩⟩;obtain⟨g,rfl⟩: ∃g,f=g+1:=⟨f-1,by omega⟩;rw[<-hRR];exact vW hn
theorem vX.next {f B F j0 g r8 mm:Nat} {t0:UInt8} {dd:List V->Ev->R} {en:Ending} (hR:eE im) (hbm:b∈im.zj) (hs:StT im B s) (hsf:s.left<=g) (hgf:g<=f) (hll:LT im.zq s.heap b.zy l) (g0:cA im.zq im.zx b.zy b.code F j0=some t0) (h105:t0.toNat=105) (hre:ReV P w0 w be bw tx inp bl lv (bC im inp f b d j0 l s) en w1) (hp:P r8) (h0:w0.heap.size<=r8) (hx:dE w1 r8) (hm:g+1<=mm+1):
  ∃K N e:Int,en= .returned (.tuple #[.agg #[.int .i32 K,.int .i64 N],.int .i64 e])/\
   ∀RR,fP (bC im inp f b d j0) dd g l s=RR->vX P w0 be bw tx inp bl lv im B b.zy (bC im inp f b d j0) dd RR r8 mm e ((w1.setCell ⟨r8,0,none⟩ (.int .i32 K)).setCell ⟨r8,1,none⟩ (.int .i64 N)):=by
 obtain⟨r,vo,vb,gs,fv,c⟩:=hre;have HT:=fo hR inp f B b d j0 l s t0 F hbm g0 hll hs (by omega)
 cases hn:bC im inp f b d j0 l s with
 |bad e o=>
  rw[hn]at c HT;obtain⟨rfl,i,l1,k,a⟩:=c;refine⟨_,_,_,rfl,λRR hRR=>Or.inr ⟨e,o,rfl,HT.1,HT.2.1,?_,⟨_,_,hx.put _ _⟩,i,l1,vo,vb,gs,fv,k,a.lay hp h0 hx _ _⟩⟩;rw[<-hRR];exact sp (λh=>i9 h) hsf hn
 |ok v l1 i=>
  rw[hn]at c HT;obtain⟨rfl,a⟩:=c;obtain⟨n,p,q,y,z⟩:=HT;obtain⟨m,rfl,t,x⟩:=n.int h105
  have j:0<s.left:=by
   obtain h|h:=Nat.eq_zero_or_pos s.left
   .rw[i9 h]at hn;cases hn
   .exact h
  refine⟨m,0,0,rfl,λRR hRR=>Or.inl ⟨rfl,g-1,m,l1,i,vo,vb,gs,fv,hx.put _ _,a.lay hp h0 hx _ _,p,q,by omega,by omega,?_⟩⟩;obtain⟨g',rfl⟩: ∃g',g=g'+1:=⟨g-1,by omega⟩;rw[<-hRR];exact vW hn
theorem xV {f B F:Nat} {t0 t1:UInt8} (hR:eE im) (IH:jQ im inp w0 be bw tx f) (h:StQ P w0 w be bw tx inp s bl lv l vo vb gs fv) (hF:FrS P w0 w im b bf d Xb vl vi bl) (hbm:b∈im.zj) (hs:StT im B s) (hsf:s.left<=f) (hd:d<=12) (hll:LT im.zq s.heap b.zy l) (j0 j1:Nat) (g0:cA im.zq im.zx b.zy b.code F j0=some t0) (h105:t0.toNat=105) (g1:cA im.zq im.zx b.zy b.code F j1=some t1) (pl op n pn pc:Nat) (c:UInt8) (pa:Option Addr) (hrow:w0.ownsRow 0 3 1 (.slice pa pn pc) 2 (fi [j0,j1])):
  Calls prog 154 #[.pointer (some ⟨be,0,none⟩),.pointer (some ⟨bf,0,none⟩),.agg #[.int .i64 pl,.int .u8 op,.int .u8 c.toNat,.int .i64 n,.slice pa pn pc]] w (ReV P w0 w be bw tx inp bl lv (fP (bC im inp f b d j0) (bC im inp f b d j1) f l s)):=by
 have S:=hid (paW (w:=w) (pl:=pl) (op:=op) (n:=n) (pn:=pn) (pc:=pc) (c:=c) (pa:=pa));have Q:=hid (λX (hX:NB w X)=>kW IH (h.grown hX) (hF.grown hX) hbm hs hsf hd hll [j0,j1] (by simp) 0 j0 rfl g0 pl op n pn pc c pa hrow);obtain⟨RR,t⟩: ∃RR,fP (bC im inp f b d j0) (bC im inp f b d j1) f l s=RR:=⟨_,rfl⟩;rw[t];have h0:=h.old.size;have b2:=hid hF;rw[show((0:Nat):Int)=0 from rfl]at Q
 go_in
 go_wp2_with fail;revert S;generalize ((w.alloc (.cells #[.int .i64 pl,.int .u8 op,.int .u8 c.toNat,.int .i64 n,.slice pa pn pc] 219)).alloc (.cells #[.int .i32 0,.int .i64 0] 168))=W;intro S;have hD:=S.out;have h6:=hD.sz;have hN:=hD.nb;refine(Q.out W hN).mono ?_;intro en w1 v;have H:=v.1;obtain⟨K,N,e,rfl,a2⟩:=vX.first hR hbm hs hsf hll g0 h105 v;have HI:=hid (a2 RR t);have z:=b2.out.grown hN;have a1:=z.but H;have pI:PQ P w W w.heap.size:=Or.inr ⟨bG _,by omega⟩;have pR:PQ P w W (w.heap.size+1):=Or.inr ⟨by omega,by omega⟩;have d0:=(H.block _ (by omega) (λhf=>hf.2 pI)).trans hD.b0;have a7:dE W (w.heap.size+1):=⟨0,0,hD.b1⟩
 have f5:=ae d0;have h1:w.heap.size+1<w1.heap.size:=aP (by omega) H.size;clear Q b2 a2 v t h hF S;go_wp2_with fail;have I:B_ w1 (w1.alloc (.cells #[.int .i32 K,.int .i64 N] 168)):=ag _ _ _;have a8:(w1.alloc (.cells #[.int .i32 K,.int .i64 N] 168)).heap.size=w1.heap.size+1:=by simp
 revert HI I a8;generalize (w1.alloc (.cells #[.int .i32 K,.int .i64 N] 168))=W2;intro HI I a8;obtain⟨P2,T⟩: ∃P2:Nat->Prop,PQ (PQ P w W) w1 W2=P2:=⟨_,rfl⟩;have p1: ∀k,PQ P w W k->P2 k:=λk hk=>by rw[<-T];exact Or.inl hk
 have p8:P2 w1.heap.size:=by rw[<-T];exact Or.inr ⟨bG _,by omega⟩
 rw[T]at HI;have M:w0.heap.size<=w1.heap.size:=by omega
 have c6: ∀{X Y:World},But (FrQ P2 w0) X Y->But (FrQ (PQ P w W) w0) X Y:=λh=>h.mono (λk _ hf=>⟨hf.1,λhp=>hf.2 (p1 k hp)⟩)
 have g5: ∀{Y:World},But (FrQ (PQ P w W) w0) W Y->But (FrQ P w0) w Y:=λh=>(hN.but.mono (λ_ _ h=>h.elim)).trans (h.mono (λk _ hf=>⟨hf.1,λhp=>hf.2 (Or.inl hp)⟩))
 have Z:But (FrQ (PQ P w W) w0) W W2:=H.trans (I.mono (λ_ _ h=>h.elim));have L: ∀{Y:World} (a b:Int),But (FrQ (PQ P w W) w0) W Y->But (FrQ (PQ P w W) w0) W ((Y.setCell ⟨w1.heap.size,0,none⟩ (.int .i32 a)).setCell ⟨w1.heap.size,1,none⟩ (.int .i64 b)):=λa b h=>h.next (dH _ _ _ _) (λk hk e=>by have e:k=w1.heap.size:=e;omega)
 have a5:=a1.but (I.mono (λ_ _ h=>h.elim));have j:=hid (λ(X:World) (hX:But (FrQ (PQ P w W) w0) W X)=>((z.but hX).mono (p1 _ z.pf):FrS P2 w0 X im b bf d Xb vl vi bl));have G:=hid (λ(X:World) (l:List V) (s:Ev) (vo vb:Value) (gs:List Nat) (fv:List Value) (hq:StQ P2 w0 X be bw tx inp s bl lv l vo vb gs fv) (hFX:FrS P2 w0 X im b bf d Xb vl vi bl) (ht:StT im B s) (hl:s.left<=f) (hll:LT im.zq s.heap b.zy l)=>kW IH hq hFX hbm ht hl hd hll [j0,j1] (by simp) 1 j1 rfl g1 pl op n pn pc c pa hrow);have E:=hid (λ(X:World) (l:List V) (s:Ev) (vo vb:Value) (gs:List Nat) (fv:List Value) (hq:StQ P2 w0 X be bw tx inp s bl lv l vo vb gs fv) (hFX:FrS P2 w0 X im b bf d Xb vl vi bl) (ht:StT im B s) (hl:s.left<=f) (hll:LT im.zq s.heap b.zy l)=>kW IH hq hFX hbm ht hl hd hll [j0,j1] (by simp) 0 j0 rfl g0 pl op n pn pc c pa hrow)
 rw[show((1:Nat):Int)=1 from rfl]at G;rw[show((0:Nat):Int)=0 from rfl]at E;have HD:=hid hD;clear a1 a5 H I hD d0 hs hsf hll hrow IH T z
 go_loopg [9] (f+1) (λmm v9 wr=> ∃e9:Int,v9= .int .i64 e9/\But (FrQ (PQ P w W) w0) W wr/\mm<=f+1/\Hid (vX P2 w0 be bw tx inp bl lv im B b.zy (bC im inp f b d j0) (bC im inp f b d j1) RR w1.heap.size mm e9 wr))
 case atStart=>exact⟨e,rfl,Z,bG _,HI⟩
 case round=>
  obtain⟨e9,rfl,D,g6,HL⟩:=hrel;clear HI Z a8;have d0:=(D.block _ (by omega) (λhf=>hf.2 pI)).trans HD.out.b0;have a6:=a7.but D (λhf=>hf.2 pR);have f5:=ae d0;obtain⟨Ka,Na,r0,r1,z0,z1,h5⟩:=a6.parts;obtain⟨rfl,g,m,l1,s1,e7,e5,b6,b4,h8,y,y2,y3,h3,g7,t⟩ | ⟨e,o,rfl,f3,f4,rfl,h8,s1,l1,e7,e5,b6,b4,ho,y⟩:=HL.out
  .have a0:=ce0 h8;have h2:=ae h8
   by_cases hm:m=0
   .subst hm;have A:RR= .ok (.i 0) l1 s1:=by rw[t];simp[vV]
    subst A;have HF:=hid (λa b=>StQ.fin hN h0 (y.less p1) D (r:=w.heap.size+1) (by omega) a7 a b);clear t HL y h8 G E j HD d0;go_wp2_with fail;exact dI results154 rfl rfl rfl (a6.put _ _) ⟨(HF.out _ _).2.1,_,_,_,_,rfl,(HF.out _ _).2.2⟩
   .have A:RR=jt (bC im inp f b d j1 l1 s1) (λ_ l s=>fP (bC im inp f b d j0) (bC im inp f b d j1) g l s):=by rw[t];simp[vV,hm]
    have h4:(m !=0)=true:=by simpa using hm
    have Q:=hid (G.out wr l1 s1 e7 e5 b6 b4 y (j.out wr D) y3 (by omega) y2);have a4:=hid (fo hR inp f B b d j1 l1 s1 t1 F hbm g1 y2 y3 (by omega));have a3:=hid A;have f0:dE wr w1.heap.size:=⟨_,_,h8⟩;have i0:=ce0 d0;have i1:=ce1 d0;have i2:=ce2 d0;have i3:=ce3 d0;have i4:=ce4 d0;clear t A HL y G h8 d0 hm y2 y3 r0 r1 z0 z1;go_wp2_with fail;refine Q.out.mono ?_;rintro en w2 ⟨b9,e8,e6,b7,b5,hq⟩;clear Q i0 i1 i2 i3 i4 a0;have q:=D.trans (c6 b9);have C:=f0.but b9 (λhf=>hf.2 p8);have d0:=(q.block _ (by omega) (λhf=>hf.2 pI)).trans HD.out.b0;obtain⟨K8,N8,q0,q1,o0,o1,f7⟩:=C.parts;have p:=a4.out;have x:=a3.out
    cases hn:bC im inp f b d j1 l1 s1 with
    |bad e o=>
     rw[hn]at hq p x;obtain⟨rfl,s2,l2,ho,O⟩:=hq;obtain⟨e1,e2⟩:=ja p.1 p.2.1;have HN:Hid (vX P2 w0 be bw tx inp bl lv im B b.zy (bC im inp f b d j0) (bC im inp f b d j1) RR w1.heap.size g (cr e) ((w2.setCell ⟨w1.heap.size,0,none⟩ (.int .i32 0)).setCell ⟨w1.heap.size,1,none⟩ (.int .i64 0))):=Or.inr ⟨e,o,rfl,p.1,p.2.1,x,⟨_,_,C.put 0 0⟩,s2,l2,e8,e6,b7,b5,ho,O.lay p8 M C 0 0⟩;have J:=L 0 0 q;clear O a4 a3 x p hn d0 q;go_wp2_with fail
     go_roundg g
     case measure=>omega
     case rel=>exact⟨_,rfl,J,by omega,HN⟩
    |ok u l2 s2=>
     rw[hn]at hq p x;obtain⟨rfl,O⟩:=hq;obtain⟨x1,x2,x3,x4,x5⟩:=p;simp only[jt]at x;have g2: ¬w.heap.size=w1.heap.size:=by omega
     have d6: ¬w1.heap.size=w.heap.size:=by omega
     have J:=L (xN u) (xO u) q;have e3:=O.lay p8 M C (xN u) (xO u);have f2:=(J.block _ (by omega) (λhf=>hf.2 pI)).trans HD.out.b0;have e4:dE ((w2.setCell ⟨w1.heap.size,0,none⟩ (.int .i32 (xN u))).setCell ⟨w1.heap.size,1,none⟩ (.int .i64 (xO u))) w1.heap.size:=⟨_,_,C.put _ _⟩;have i0:=ce0 d0;have i1:=ce1 d0;have i2:=ce2 d0;have i3:=ce3 d0;have i4:=ce4 d0;have f6:=ae d0;have Q:=hid (E.out _ l2 s2 e8 e6 b7 b5 e3 (j.out _ J) x3 (by omega) x2);have b3:=hid x;clear O a4 a3 x hn d0 q e3 E j f2 x1;simp only[aI];go_wp2_with fail;refine Q.out.mono ?_;intro en w3 v;have b8:=e4.but v.1 (λhf=>hf.2 p8)
     obtain⟨K,N,e,rfl,e0⟩:=vX.next (mm:=g) hR hbm x3 (by omega) (by omega) x2 g0 h105 v p8 M b8 (bG _);have HN:=hid (e0 RR b3.out.symm);have f1:=L K N (J.trans (c6 v.1));obtain⟨g3,g4,i5,i6,h7,h9,f8⟩:=b8.parts;clear v e0 Q b3 i0 i1 i2 i3 i4 q0 q1 o0 o1 e4 C;go_wp2_with fail
     go_roundg g
     case measure=>omega
     case rel=>exact⟨_,rfl,f1,by omega,HN⟩
  .obtain⟨e1,e2⟩:=ja f3 f4;have HF:=hid (λa b=>StQ.fin hN h0 (y.less p1) D (r:=w.heap.size+1) (by omega) a7 a b);clear HL y h8 G E j HD d0;go_wp2_with fail;exact dI results154 rfl rfl rfl (a6.put _ _) ⟨(HF.out _ _).2.1,_,_,_,_,rfl,s1,l1,ho,(HF.out _ _).2.2⟩
end
def l7 (im:Img) (inp:ByteArray) (f:Nat) (b:Bod) (d:Nat) (ps:List Nat) (k:Nat) (l:List V) (s:Ev):R:=match ps[k]? with
 |some j=>bC im inp f b d j l s
 |none=> .ok .z l s
def doV (im:Img) (inp:ByteArray) (f d:Nat) (x:Ins) (u v:V) (l:List V) (s:Ev):R:=
 if ay x.op=0 then dX im inp x l s else if ay x.op=1 then eV im x u l s else eP im (λb' l'=>bC im inp f b' (d+1) 0 l' s) d x u v l s
theorem kX {cs:List Cls} {gs:List Sig} {lo:L_} {t:List Ins} {F k:Nat} {c:UInt8} (h:cA cs gs lo t F k=some c):k<t.length:=by
 cases F with
 |zero=>cases h
 |succ F=>
  simp only[cA]at h
  cases hx:t[k]? with
  |none=>rw[hx]at h;cases h
  |some x=>exact(bn hx).1
theorem AN {cs:List Cls} {gs:List Sig} {lo:L_} {t:List Ins} {F:Nat}: ∀{n k:Nat} {ts:L_},bO t (cA cs gs lo t F) n k=some ts->
  ts.length=n/\(cy t n k).length=n/\ ∀(q j:Nat),(cy t n k)[q]?=some j-> ∃c,ts[q]?=some c/\cA cs gs lo t F j=some c:=by
 intro n
 induction n with
 |zero=>intro k ts h;simp[bO]at h;subst h;exact⟨rfl,rfl,λq j h=>by simp[cy]at h⟩
 |succ n ih=>
  intro k ts h;rw[bO]at h
  cases hc:cA cs gs lo t F k with
  |none=>rw[hc]at h;cases h
  |some c=>
   rw[hc]at h;simp only[Option.map_eq_some_iff]at h;obtain⟨ts',d,rfl⟩:=h;obtain⟨a1,a,b⟩:=ih d;have e:=kX hc;rw[cy,if_pos e];refine⟨by simp[a1],by simp[a],λq j hq=> ?_⟩
   cases q with
   |zero=>simp at hq;subst hq;exact⟨c,rfl,hc⟩
   |succ q=>simp at hq;simpa using b q j hq
theorem DN {t:List Ins} {i:Nat} {x:Ins} (h:t[i]?=some x):eu t i=cy t (ay x.op) (i+1):=by simp[eu,h]
section
variable {im:Img} {inp:ByteArray} {f:Nat} {b:Bod} {d i:Nat} {l:List V} {s:Ev}
theorem Cx {x:Ins} {sl:Nat} (hx:b.code[i]?=some x) (hsl:s.left=sl+1) (h:x.op.toNat=111):bC im inp (f+1) b d i l s=fP (bC im inp f b d (i+1)) (bC im inp f b d (bk b.code (i+1))) f l {s with left:=sl}:=by
 have a:ay x.op≠0:=by simp[ay,h]
 simp only[bC,hx,hsl,Nat.add_sub_cancel];rw[if_neg (by omega),if_neg a,if_pos h]
theorem Cy {x:Ins} {sl:Nat} (hx:b.code[i]?=some x) (hsl:s.left=sl+1) (h:x.op.toNat=105):bC im inp (f+1) b d i l s=jt (bC im inp f b d (i+1) l {s with left:=sl}) (λu l s=>bC im inp f b d (if u.N=0 then bk b.code (bk b.code (i+1))else bk b.code (i+1)) l s):=by
 have a:ay x.op≠0:=by simp[ay,h]
 simp only[bC,hx,hsl,Nat.add_sub_cancel];rw[if_neg (by omega),if_neg a,if_neg (by omega)]
 cases bC im inp f b d (i+1) l {s with left:=sl}with
 |bad e o=>rfl
 |ok u l s=>simp only[jt,h,if_true]
theorem DO {x:Ins} {sl:Nat} (hx:b.code[i]?=some x) (hsl:s.left=sl+1) (h1:x.op.toNat≠111) (h2:x.op.toNat≠105) (hp:(cy b.code (ay x.op) (i+1)).length=ay x.op):
  bC im inp (f+1) b d i l s=jt (l7 im inp f b d (cy b.code (ay x.op) (i+1)) 0 l {s with left:=sl}) (λu l s=>jt (l7 im inp f b d (cy b.code (ay x.op) (i+1)) 1 l s) (λv l s=>doV im inp f d x u v l s)):=by
 have a:ay x.op=0\/ay x.op=1\/ay x.op=2:=by
  unfold ay;rw[if_neg h2]
  split
  .exact Or.inr (Or.inr rfl)
  .split
   .exact Or.inr (Or.inl rfl)
   .exact Or.inl rfl
 simp only[bC,hx,hsl,Nat.add_sub_cancel];rw[if_neg (by omega)];obtain a|a|a:=a
 .rw[if_pos a,a];simp[l7,cy,jt,doV,a]
 .rw[if_neg (by omega),if_neg h1]
  have c:(cy b.code (ay x.op) (i+1))=[i+1]:=by
   rw[a]at hp⊢;rw[cy]at hp⊢
   split at hp
   .rename_i hk;rw[if_pos hk];rfl
   .cases hp
  rw[c];simp only[l7,List.getElem?_cons_zero,List.getElem?_cons_succ,List.getElem?_nil]
  cases bC im inp f b d (i+1) l {s with left:=sl}with
  |bad e o=>rfl
  |ok u l s=>simp[jt,h2,a,doV]
 .rw[if_neg (by omega),if_neg h1]
  have c:(cy b.code (ay x.op) (i+1))=[i+1,bk b.code (i+1)]:=by
   rw[a]at hp⊢;rw[cy]at hp⊢
   split at hp
   .rename_i hk
    rw[if_pos hk];rw[cy]at hp⊢
    split at hp
    .rename_i hk2;rw[if_pos hk2];rfl
    .simp at hp
   .cases hp
  rw[c];simp only[l7,List.getElem?_cons_zero,List.getElem?_cons_succ]
  cases bC im inp f b d (i+1) l {s with left:=sl}with
  |bad e o=>rfl
  |ok u l s=>
   simp only[jt,h2,a,if_false];rw[if_neg (by omega)]
   cases bC im inp f b d (bk b.code (i+1)) l s with
   |bad e o=>rfl
   |ok v l s=>simp[doV,a]
def FY (im:Img) (B:Nat) (lo:L_) (ts:L_) (k:Nat) (s0:Ev):R->Prop
 | .bad e o=>5<=e/\e<=10
 | .ok u l s=>LT im.zq s.heap lo l/\StT im B s/\Ext s0.heap s.heap/\s.left<=s0.left/\ ∀t,ts[k]?=some t->VT im.zq s.heap t u
theorem pz {F B:Nat} {ps:List Nat} {ts:L_} (hR:eE im) (hbm:b∈im.zj) (hlen:ps.length=ts.length) (hpt: ∀(q j:Nat),ps[q]?=some j-> ∃c,ts[q]?=some c/\cA im.zq im.zx b.zy b.code F j=some c) (k:Nat) (hll:LT im.zq s.heap b.zy l) (hs:StT im B s) (hsf:s.left<=f):FY im B b.zy ts k s (l7 im inp f b d ps k l s):=by
 unfold l7
 cases hk:ps[k]? with
 |none=>
  refine⟨hll,hs,Ext.refl _,bG _,λt ht=> ?_⟩;have:=(bn ht).1;rw[List.getElem?_eq_none_iff]at hk;omega
 |some j=>
  obtain⟨c,hc,a⟩:=hpt k j hk;have HT:=fo hR inp f B b d j l s c F hbm a hll hs hsf;simp only
  cases hn:bC im inp f b d j l s with
  |bad e o=>rw[hn]at HT;exact⟨HT.1,HT.2.1⟩
  |ok u l1 s1=>
   rw[hn]at HT;obtain⟨g,h,i,m,n⟩:=HT;exact⟨h,i,m,by omega,λt ht=>by rw[hc]at ht;cases ht;exact g⟩
end
section
variable {P:Nat->Prop} {w0 w:World} {be bw tx bl:Nat} {inp:ByteArray} {s:Ev} {lv vo vb:Value} {l:List V} {gs:List Nat} {fv:List Value} {im:Img} {b:Bod} {bf d:Nat} {Xb:bK} {vl vi:Value}
theorem vY {f B F:Nat} {ps:List Nat} {ts:L_} (IH:jQ im inp w0 be bw tx f) (h:StQ P w0 w be bw tx inp s bl lv l vo vb gs fv) (hF:FrS P w0 w im b bf d Xb vl vi bl) (hbm:b∈im.zj) (hs:StT im B s) (hsf:s.left<=f) (hd:d<=12) (hll:LT im.zq s.heap b.zy l) (hps:ps.length<=3) (hpt: ∀(q j:Nat),ps[q]?=some j-> ∃c,ts[q]?=some c/\cA im.zq im.zx b.zy b.code F j=some c) (k:Nat) (hk3:k<=3) (pl op n pn pc:Nat) (c:UInt8) (pa:Option Addr) (hrow:w0.ownsRow 0 3 1 (.slice pa pn pc) ps.length (fi ps)):
  Calls prog 155 #[.pointer (some ⟨be,0,none⟩),.pointer (some ⟨bf,0,none⟩),.agg #[.int .i64 pl,.int .u8 op,.int .u8 c.toNat,.int .i64 n,.slice pa pn pc],.int .i64 k] w (ReV P w0 w be bw tx inp bl lv (l7 im inp f b d ps k l s)):=by
 unfold l7
 cases hk:ps[k]? with
 |none=>
  obtain⟨a',cap',a⟩:=aA hrow;injection a with e1 e2 e3;rw[List.getElem?_eq_none_iff]at hk;exact AM h pl op n pn pc k c pa (by omega) hk3
 |some j=>
  obtain⟨c',hc,e⟩:=hpt k j hk;exact kW IH h hF hbm hs hsf hd hll ps hps k j hk e pl op n pn pc c pa hrow
theorem DP {B f:Nat} {ts:L_} {tt:UInt8} (IH:jQ im inp w0 be bw tx f) (h:StQ P w0 w be bw tx inp s bl lv l vo vb gs fv) (hF:FrS P w0 w im b bf d Xb vl vi bl) (hT:eS w0 tx im) (htab:fd w0) (hR:eE im) (h40:inp.size<=40) (hs:StT im B s) (hsf:s.left<=f) (hd:d<=12) (x:Ins) (hx:WfN im.zq im.zx.length b.zy.length x) (hll:LT im.zq s.heap b.zy l) (h111:x.op.toNat≠111) (h105:x.op.toNat≠105) (hlk:x.op.toNat=99->0<=cO im.zq im.zj x.b 5 x.a) (hlen:ts.length=ay x.op) (u v:V) (hu: ∀t,ts[0]?=some t->VT im.zq s.heap t u) (hv: ∀t,ts[1]?=some t->VT im.zq s.heap t v) (hnt:ba im.zq im.zx b.zy x ts=some tt) (pl pn pc:Nat) (pa:Option Addr):
  Calls prog 156 #[.pointer (some ⟨be,0,none⟩),.pointer (some ⟨bf,0,none⟩),itN x pa pl pn pc,aI u,aI v] w (ReV P w0 w be bw tx inp bl lv (doV im inp f d x u v l s)):=by
 have c:ay x.op=0\/ay x.op=1\/ay x.op=2:=by
  unfold ay;rw[if_neg h105]
  split
  .exact Or.inr (Or.inr rfl)
  .split
   .exact Or.inr (Or.inl rfl)
   .exact Or.inl rfl
 unfold doV;obtain c|c|c:=c
 .rw[if_pos c];exact Cv h hF hT hR.wf hs h40 x (by rw[hll.len];exact hx) c u v pl pn pc pa
 .rw[if_neg (by omega),if_pos c]
  match ts,hlen,hu,hnt with
  | [ta],_,hu,hnt=>exact DL h hF hT htab hR hs x b.zy hx hll c ta tt u v (hu ta rfl) hnt pl pn pc pa
  | [],hl,_,_=>simp at hl;omega
  |_::_::_,hl,_,_=>simp at hl;omega
 .rw[if_neg (by omega),if_neg (by omega)]
  match ts,hlen,hu,hv,hnt with
  | [ta,tc],_,hu,hv,hnt=>exact DM IH h hF hT hR hs hsf hd x b.zy hx c h111 hlk ta tc tt u v (hu ta rfl) (hv tc rfl) hnt pl pn pc pa
  | [],hl,_,_,_=>simp at hl;omega
  | [_],hl,_,_,_=>simp at hl;omega
  |_::_::_::_,hl,_,_,_=>simp at hl;omega
def DoC (im:Img) (inp:ByteArray) (w0:World) (be bw tx f:Nat):Prop:=
 ∀(P:Nat->Prop) (w:World) (s:Ev) (bl:Nat) (lv:Value) (l:List V) (vo vb:Value) (gs:List Nat) (fv:List Value) (b:Bod) (bf d:Nat) (Xb:bK) (vl vi:Value) (B:Nat) (ts:L_) (tt:UInt8),StQ P w0 w be bw tx inp s bl lv l vo vb gs fv->FrS P w0 w im b bf d Xb vl vi bl->b∈im.zj->StT im B s->s.left<=f->d<=12->
  ∀x∈b.code,LT im.zq s.heap b.zy l->x.op.toNat≠111->x.op.toNat≠105->ts.length=ay x.op-> ∀u v:V,(∀t,ts[0]?=some t->VT im.zq s.heap t u)->(∀t,ts[1]?=some t->VT im.zq s.heap t v)->ba im.zq im.zx b.zy x ts=some tt-> ∀(pl pn pc:Nat) (pa:Option Addr),
  Calls prog 156 #[.pointer (some ⟨be,0,none⟩),.pointer (some ⟨bf,0,none⟩),itN x pa pl pn pc,aI u,aI v] w (ReV P w0 w be bw tx inp bl lv (doV im inp f d x u v l s))
theorem DQ {f:Nat} (hT:eS w0 tx im) (htab:fd w0) (hR:eE im) (h40:inp.size<=40) (IH:jQ im inp w0 be bw tx f):DoC im inp w0 be bw tx f:=
 λP w s bl lv l vo vb gs fv b bf d Xb vl vi B ts tt h hF hbm hs hsf hd x hx hll h111 h105 hlen u v hu hv hnt pl pn pc pa=>DP IH h hF hT htab hR h40 hs hsf hd x ((hR.wf.bod b hbm).code x hx) hll h111 h105 (hR.lk b hbm x hx) hlen u v hu hv hnt pl pn pc pa
end
theorem ReV.less {P Q:Nat->Prop} {w0 w w1:World} {be bw tx bl:Nat} {inp:ByteArray} {lv:Value} {r:R} {en:Ending} (h:ReV Q w0 w be bw tx inp bl lv r en w1) (hs: ∀k,P k->Q k):ReV P w0 w be bw tx inp bl lv r en w1:=by
 obtain⟨d,vo,vb,gs,fv,h⟩:=h;refine⟨d.mono (λk _ hf=>⟨hf.1,λhp=>hf.2 (hs k hp)⟩),vo,vb,gs,fv,?_⟩
 cases r with
 |ok u l s=>exact⟨h.1,h.2.less hs⟩
 |bad e o=>obtain⟨a,s,l,b,c⟩:=h;exact⟨a,s,l,b,c.less hs⟩
theorem Gc {t:List Ins} {k:Nat} (h1:k<t.length) (h2:bk t k<t.length) (h3:bk t (bk t k)<t.length):cy t 3 k=[k,bk t k,bk t (bk t k)]:=by
 simp[cy,h1,h2,h3]
theorem Ge {t:List Ins} {k:Nat} (h1:k<t.length) (h2:bk t k<t.length):cy t 2 k=[k,bk t k]:=by
 simp[cy,h1,h2]
theorem yP {x:Ins} {k:Nat} (h:x.op.toNat≠k) (h1:k≠107) (h2:58<=k):(bQ x).op.toNat≠k:=by
 cases hd:aY x.op with
 |true=>rw[(vU hd).1];omega
 |false=>
  rw[(gU (x:=x) (by simp[aY]at hd;omega)).1];exact h
section
variable {P:Nat->Prop} {w0 w:World} {be bw tx bl:Nat} {inp:ByteArray} {s:Ev} {lv vo vb:Value} {l:List V} {gs:List Nat} {fv:List Value} {im:Img} {b:Bod} {bf d i:Nat} {Xb:bK} {vl vi:Value}
theorem qU (h:StQ P w0 w be bw tx inp s bl lv l vo vb gs fv) (h0:s.left=0):
  Calls prog 93 #[.pointer (some ⟨be,0,none⟩),.pointer (some ⟨bf,0,none⟩),.int .i64 i] w (ReV P w0 w be bw tx inp bl lv (.bad 5 s.out)):=by
 have a:=h.ev.c2;have d:=h.ev.lt;rw[h0]at a;have c:w.cell? ⟨be,2,none⟩=some (.int .i64 0):=a;have b:=hid h;clear a h h0
 go_in
 go_wp2_with fail;exact dI results93 rfl rfl rfl (bj _ _) ⟨ag _ _ _,vo,vb,gs,fv,rfl,s,l,rfl,b.out.new (ag _ _ _)⟩
end
theorem AO {f:Nat} (w0:World) (be bw tx:Nat) (inp:ByteArray) (im:Img) (hR:eE im) (hDo:DoC im inp w0 be bw tx f) (IH:jQ im inp w0 be bw tx f):jQ im inp w0 be bw tx (f+1):=by
 intro b d i l s t F B P w bl lv vo vb gs fv bf X vl vi E hd g f3 hs p3 h hF
 by_cases h0:s.left=0
 .rw[i9 h0];exact qU h h0
 have hW:=hR.wf;have m4:=kX g
 cases F with
 |zero=>cases g
 |succ F=>
 simp only[cA]at g;obtain⟨x,hx⟩: ∃x,b.code[i]?=some x:=⟨_,aM m4⟩;rw[hx]at g;simp only at g;have j7:=hW.bod b E;have k0:x∈b.code:=a9 hx;have p4:=j7.code x k0
 cases hp:bO b.code (cA im.zq im.zx b.zy b.code F) (ay x.op) (i+1)with
 |none=>rw[hp]at g;cases g
 |some ts=>
 rw[hp]at g;simp only at g;obtain⟨i5,f4,h6⟩:=AN hp;obtain⟨sl,z⟩: ∃sl,s.left=sl+1:=⟨s.left-1,by omega⟩;have f6:StT im (B-22) {s with left:=sl}:=⟨hs.ht,by have:=hs.cap;simp;omega,by have:=hs.outn;simp;omega,by have:=hs.bb;omega,by have:=hs.rd;simp;omega⟩;have Q:sl<=f:=by omega
 --the item
 have p1:X.items.length=b.code.length:=hF.bd.bd.its.len;obtain⟨xi,i6⟩: ∃xi,X.items[i]?=some xi:=⟨_,aM (by omega)⟩;obtain⟨z1,z2,z3,z4,p⟩:=hF.bd.bd.its.at' i x xi hx i6;rw[DN hx]at p;obtain⟨ps,q⟩: ∃ps,cy b.code (ay x.op) (i+1)=ps:=⟨_,rfl⟩;have a7:=f4;rw[q]at f4 h6 p;obtain⟨RR,m⟩: ∃RR,bC im inp (f+1) b d i l s=RR:=⟨_,rfl⟩;rw[m];have m1:ay x.op<=3:=by unfold ay;split;omega;split;omega;split<;>omega
 have hcl:=j7.len
 --the fuel
 have g5:But (FrQ P w0) w (w.setCell ⟨be,2,none⟩ (.int .i64 sl)):=(aq w be 2 _).mono (λk _ e=>by have e:k=be:=e;subst e;exact h.k1);have O:=h.fuel sl;have j2:=hF.but g5;have e2:=h.ev.c2;have y2:=h.ev.fz 2;rw[z]at e2;have l3:w.cell? ⟨be,2,none⟩=some (.int .i64 ((sl:Int)+1)):=by rw[e2];simp
 have o2:=h.ev.lt;have n4: ¬((sl:Int)+1<=0):=by omega
 have o3:be<w.heap.size+1:=by omega
 have n3:sl<=4000:=by have:=hs.cap;omega
 obtain⟨a0,a1,a2,a3,a4,a5,a6,o1⟩:=hF.cells;have n0: ¬be=bf:=λe=>h.k1.2 (e▸hF.pf)
 have n1: ¬bf=be:=λe=>n0 e.symm
 have m2:bf<w.heap.size+1:=by omega
 have i7:=hid (λ(Y:World) (hY:B_ w0 Y)=>qS X.cls X.meth X.ans vl vi X.items i xi Y (ah hF.bd.it hY (λ_ _ h=>h)) i6 (by omega));have o0:=h.old.size;have HX:=hid (And.intro hx (And.intro z (And.intro g (And.intro q m))));have HZ:=hid (And.intro z1 (And.intro z2 (And.intro z3 z4)));have A:=hid h6;have HP:=hid hp;have l0:=hid hx;have Hf:=hid O;have y:=hid j2;have L:=hid g5;clear e2 hx z g q m h6 O j2 g5 hp h hF i6 z1 z2 z3 z4 h0 k0
 go_in
 go_wp2_with fail;have J:NB (w.setCell ⟨be,2,none⟩ (.int .i64 sl)) ((w.setCell ⟨be,2,none⟩ (.int .i64 sl)).alloc (.cells #[.int .i32 0,.int .i64 0] 168)):=(NB.refl _).alloc (by decide);have b0:dE ((w.setCell ⟨be,2,none⟩ (.int .i64 sl)).alloc (.cells #[.int .i32 0,.int .i64 0] 168)) w.heap.size:=⟨0,0,aw (by simp[cJ]) _⟩;have j5:(w.setCell ⟨be,2,none⟩ (.int .i64 sl)).heap.size=w.heap.size:=cJ _ _ _;revert Hf y L J b0 j5;generalize (w.setCell ⟨be,2,none⟩ (.int .i64 sl))=wf;intro Hf y L J b0 j5;revert J b0;generalize (wf.alloc (.cells #[.int .i32 0,.int .i64 0] 168))=wa;intro J b0;refine(i7.out wa (Hf.out.old.trans J.but)).mono ?_
 rintro en w2 ⟨rfl,b9⟩;obtain⟨z1,z2,z3,z4⟩:=HZ.out
 have b8:NB wf w2:=⟨J.but.trans b9.but,λk a b c fz e=>by
  obtain hk|hk:=ju k wa.heap.size
  .rw[b9.but.block k hk (λh=>h)]at e;exact J.nb k a hk c fz e
  .exact b9.nb k hk b c fz e⟩
 have f2:dE w2 w.heap.size:=b0.but b9.but (λh=>h);unfold cR;rw[z1,z2,z3,z4];clear i7 HZ z1 z2 z3 z4 J b9 b0 wa a0 a1 a2 a3 a4 a5 a6 l3 y2;generalize e4:(bQ x).op.toNat=op;generalize m3:(bQ x).cls=cc;generalize n2:(bQ x).num=nn;generalize p2:(bQ x).place=pp;obtain⟨hx,z,g,q,m⟩:=HX.out;have C: ∀c,NB wf (w2.alloc (.cells c 219)):=λc=>b8.alloc (by decide)
 by_cases h105:x.op.toNat=105
 .have h4:((op:Int)==105)=true:=tst (by rw[<-e4,(gU (x:=x) (by omega)).1,h105]);have h1:ay x.op=3:=by simp[ay,h105]
  rw[Cy hx z h105]at m;have hp:=HP.out;rw[h1]at hp q;obtain⟨t0,t1,t2,g0,g1,g2,rfl⟩:=nV hp;simp[ba,cK,bE,Sp.arith,h105]at g;rw[Gc (kX g0) (kX g1) (kX g2)]at q;subst q;have HC:=hid (λc=>xU hR IH (Hf.out.grown (C c)) (y.out.grown (C c)) E f6 Q hd f3 _ _ _ g0 g.1.1 g1 g2 pp op nn xi.pn xi.pc cc xi.pa p);rw[m]at HC;clear HX hx z g m HP hp g0 g1 g2 i5 f4 a7 A Hf y p;go_wp2_with fail;refine(HC.out _).mono ?_;intro en w4 I;obtain⟨K,N,e,rfl,n⟩:=ReV.pass (C _) (by omega) I;obtain⟨H,G⟩:=n w.heap.size (by omega) (f2.but (ag (λ_=>False) _ _) (λh=>h));obtain⟨K9,N9,r0,r1,f0,f1,f5⟩:=H.parts;have HF:=hid (G.since L.out)
  clear G n I HC;go_wp2_with fail;exact dI results93 rfl rfl rfl (H.put _ _) HF.out
 have h4:((op:Int)==105)=false:=tsf (k:=105) (by rw[<-e4];exact yP h105 (by omega) (by omega))
 by_cases h111:x.op.toNat=111
 .have h2:((op:Int)==111)=true:=tst (by rw[<-e4,(gU (x:=x) (by omega)).1,h111]);have h1:ay x.op=2:=by simp[ay,h111]
  rw[Cx hx z h111]at m;have hp:=HP.out;rw[h1]at hp q;obtain⟨t0,t1,g0,g1,rfl⟩:=iu hp;simp[ba,cK,bE,Sp.arith,h111]at g;rw[Ge (kX g0) (kX g1)]at q;subst q;have HC:=hid (λc=>xV hR IH (Hf.out.grown (C c)) (y.out.grown (C c)) E f6 Q hd f3 _ _ g0 g.1 g1 pp op nn xi.pn xi.pc cc xi.pa p);rw[m]at HC;clear HX hx z g m HP hp g0 g1 i5 f4 a7 A Hf y p;go_wp2_with fail;refine(HC.out _).mono ?_;intro en w4 I;obtain⟨K,N,e,rfl,n⟩:=ReV.pass (C _) (by omega) I;obtain⟨H,G⟩:=n w.heap.size (by omega) (f2.but (ag (λ_=>False) _ _) (λh=>h));obtain⟨K9,N9,r0,r1,f0,f1,f5⟩:=H.parts;have HF:=hid (G.since L.out);clear G n I HC
  go_wp2_with fail;exact dI results93 rfl rfl rfl (H.put _ _) HF.out
 have h2:((op:Int)==111)=false:=tsf (k:=111) (by rw[<-e4];exact yP h111 (by omega) (by omega));rw[DO hx z h111 h105 a7,q]at m;have e5:ps.length<=3:=by omega
 have j3:ps.length=ts.length:=by omega
 have g3:=hid m;have e9:=hid g;have n5:=b8.but.size;have b7:=bj w2 (.cells #[.int .i64 pp,.int .u8 op,.int .u8 cc.toNat,.int .i64 nn,.slice xi.pa xi.pn xi.pc] 219);have c6:(w2.alloc (.cells #[.int .i64 pp,.int .u8 op,.int .u8 cc.toNat,.int .i64 nn,.slice xi.pa xi.pn xi.pc] 219)).heap.size=w2.heap.size+1:=by simp
 have M:=C #[.int .i64 pp,.int .u8 op,.int .u8 cc.toNat,.int .i64 nn,.slice xi.pa xi.pn xi.pc];have a8:=f2.but (ag (λ_=>False) w2 (.cells #[.int .i64 pp,.int .u8 op,.int .u8 cc.toNat,.int .i64 nn,.slice xi.pa xi.pn xi.pc] 219)) (λh=>h);have k9:=hid (λ(X:World) (hX:X=w2.alloc (.cells #[.int .i64 pp,.int .u8 op,.int .u8 cc.toNat,.int .i64 nn,.slice xi.pa xi.pn xi.pc] 219))=>hX);clear HX hx z g q m HP C k9 f2;go_wp2_with fail;revert b7 c6 M a8;generalize (w2.alloc (.cells #[.int .i64 pp,.int .u8 op,.int .u8 cc.toNat,.int .i64 nn,.slice xi.pa xi.pn xi.pc] 219))=W3;intro b7 c6 M a8;have h3:=Hf.out.grown M
 have b5:=y.out.grown M;obtain⟨P3,D⟩: ∃P3:Nat->Prop,PQ P wf W3=P3:=⟨_,rfl⟩;have pI:P3 w2.heap.size:=by rw[<-D];exact Or.inr ⟨by omega,by omega⟩
 have pR:P3 w.heap.size:=by rw[<-D];exact Or.inr ⟨by omega,by omega⟩
 have pF:=b5.pf;rw[D]at h3 b5 pF;have f7:=hid (vY (s:={s with left:=sl}) IH h3 b5 E f6 Q hd f3 e5 A.out 0 (by omega) pp op nn xi.pn xi.pc cc xi.pa p);have g4:=hid (pz (inp:=inp) (d:=d) (s:={s with left:=sl}) hR E j3 A.out 0 f3 f6 Q);rw[show((0:Nat):Int)=0 from rfl]at f7;refine f7.out.mono ?_;rintro en w4 ⟨b3,p8,p5,n8,n6,hq⟩;have l5:=b5.but b3;have d0:=(b3.block _ (ae b7) (λO=>O.2 pI)).trans b7;have m5:=ae d0;have h7:=a8.but b3 (λO=>O.2 pR);have j:=g4.out;have S:=g3.out;clear f7 b5 h3
 cases hn:l7 im inp f b d ps 0 l {s with left:=sl}with
 |bad e o=>
  rw[hn]at hq j S;obtain⟨rfl,s4,l4,ho,e6⟩:=hq;subst S;obtain⟨e1,e2⟩:=ja j.1 j.2;have HF:=hid (λa b=>StQ.fin M (by omega) (D▸e6) (D▸b3) (r:=w.heap.size) (by omega) a8 a b);obtain⟨K9,N9,r0,r1,z0,z1,f5⟩:=h7.parts;have h8:w.heap.size<w4.heap.size+1:=by omega
  clear g4 g3 j hn d0 e6 b7 e9 A Hf y;go_wp2_with fail;exact dI results93 rfl rfl rfl (Cw h7) ⟨L.out.trans ((HF.out _ _).2.1.trans (ag _ _ _)),_,_,_,_,rfl,s4,l4,ho,(HF.out _ _).2.2.new (ag _ _ _)⟩
 |ok u l4 s4=>
  rw[hn]at hq j S;obtain⟨rfl,e6⟩:=hq;obtain⟨y1,y2,y3,y4,y5⟩:=j;simp only at y3 y4;simp only[jt]at S;have j0:=hid S;have i0:=ce0 d0;have i1:=ce1 d0;have i2:=ce2 d0;have i3:=ce3 d0;have i4:=ce4 d0;have h5:=e6.grown1 (c:=#[.int .i32 (xN u),.int .i64 (xO u)]) (t:=168) (by decide);have e0:(w4.alloc (.cells #[.int .i32 (xN u),.int .i64 (xO u)] 168)).heap.size=w4.heap.size+1:=by simp
  have Z:B_ w4 (w4.alloc (.cells #[.int .i32 (xN u),.int .i64 (xO u)] 168)):=ag _ _ _;have e3:=bj w4 (.cells #[.int .i32 (xN u),.int .i64 (xO u)] 168);clear S g4 g3 hn;simp only[aI];go_wp2_with fail;revert h5 e0 Z e3;generalize (w4.alloc (.cells #[.int .i32 (xN u),.int .i64 (xO u)] 168))=W5;intro h5 e0 Z e3;clear i0 i1 i2 i3 i4;obtain⟨P5,g7⟩: ∃P5:Nat->Prop,PQ P3 w4 W5=P5:=⟨_,rfl⟩;have b1: ∀k,P3 k->P5 k:=λk hk=>by rw[<-g7];exact Or.inl hk
  have pU:P5 w4.heap.size:=by rw[<-g7];exact Or.inr ⟨by omega,by omega⟩
  rw[g7]at h5;have g6:FrS P5 w0 W5 im b bf d X vl vi bl:=(l5.but (Z.mono (λ_ _ h=>h.elim))).mono (b1 _ pF);have e8:s4.left<=f:=by omega
  have f8:=hid (vY IH h5 g6 E y2 e8 hd y1 e5 A.out 1 (by omega) pp op nn xi.pn xi.pc cc xi.pa p);have j1:=hid (pz (inp:=inp) (d:=d) hR E j3 A.out 1 y1 y2 e8);rw[show((1:Nat):Int)=1 from rfl]at f8;refine f8.out.mono ?_;rintro en w6 ⟨b4,q0,p6,n9,n7,hq⟩;have m0:=g6.but b4;have d5:=(Z.block _ m5 (λh=>h)).trans d0;have d6:=(b4.block _ (ae d5) (λO=>O.2 (b1 _ pI))).trans d5;have b6:=(b4.block _ (ae e3) (λO=>O.2 pU)).trans e3;have o4:=ae d6;have o5:=ae b6;have j4:=(h7.but Z (λh=>h)).but b4 (λO=>O.2 (b1 _ pR));have b2:But (FrQ P3 w0) W3 w6:=(b3.trans (Z.mono (λ_ _ h=>h.elim))).trans (b4.mono (λk _ O=>⟨O.1,λhp=>O.2 (b1 k hp)⟩))
  have j:=j1.out;have T:=j0.out;clear f8 j0 j1 h5 g6 d5 d0 e3 e6
  cases hn:l7 im inp f b d ps 1 l4 s4 with
  |bad e o=>
   rw[hn]at hq j T;obtain⟨rfl,s6,l6,ho,e7⟩:=hq;subst T;obtain⟨e1,e2⟩:=ja j.1 j.2;have HF:=hid (λa b=>StQ.fin M (by omega) (D▸e7.less b1) (D▸b2) (r:=w.heap.size) (by omega) a8 a b);obtain⟨K9,N9,r0,r1,z0,z1,f5⟩:=j4.parts;have h8:w.heap.size<w6.heap.size+1:=by omega
   clear j hn e7 e9 A Hf y d6 b6 y5;go_wp2_with fail;exact dI results93 rfl rfl rfl (Cw j4) ⟨L.out.trans ((HF.out _ _).2.1.trans (ag _ _ _)),_,_,_,_,rfl,s6,l6,ho,(HF.out _ _).2.2.new (ag _ _ _)⟩
  |ok v l6 s6=>
   rw[hn]at hq j T;obtain⟨rfl,e7⟩:=hq;obtain⟨x1,x2,x3,x4,x5⟩:=j;simp only[jt]at T;have h9:s6.left<=f:=by omega
   have HD:=hid (λob=>hDo _ _ _ _ _ _ _ _ _ _ _ _ _ _ _ _ _ _ _ (e7.new (ag (λ_=>False) w6 ob)) (m0.but (ag _ w6 ob)) E x2 h9 hd x (a9 l0.out) x1 h111 h105 i5 u v (λt ht=>(y5 t ht).ext x3) x5 e9.out pp xi.pn xi.pc xi.pa);unfold itN at HD;rw[e4,m3,n2,T]at HD;have i0:=ce0 d6;have i1:=ce1 d6;have i2:=ce2 d6;have i3:=ce3 d6;have i4:=ce4 d6;have u0:=ce0 b6;have u1:=ce1 b6;have o6:w2.heap.size<w6.heap.size+1:=by omega
   have p0:w4.heap.size<w6.heap.size+1:=by omega
   clear T hn e7 e9 A Hf y d6 b6 y5 x5;simp only[aI]at HD⊢;go_wp2_with fail;refine(HD.out _).mono ?_;intro en w8 I;obtain⟨K,N,e,rfl,n⟩:=ReV.pass M (by omega) (D▸(I.less b1).since (b2.trans (ag _ _ _)));obtain⟨H,G⟩:=n w.heap.size (by omega) a8;obtain⟨K9,N9,r0,r1,f0,f1,f5⟩:=H.parts;have HF:=hid (G.since L.out);clear G n I HD i0 i1 i2 i3 i4 u0 u1;go_wp2_with fail;exact dI results93 rfl rfl rfl (H.put _ _) HF.out
theorem Cz (w0:World) (be bw tx:Nat) (inp:ByteArray) (im:Img) (hR:eE im) (hDo: ∀f,jQ im inp w0 be bw tx f->DoC im inp w0 be bw tx f): ∀f,jQ im inp w0 be bw tx f:=by
 intro f
 induction f with
 |zero=>
  intro b d i l s t F B P w bl lv vo vb gs fv bf X vl vi a k g c m e h j;rw[i9 (by omega)];exact qU h (by omega)
 |succ f ih=>exact AO w0 be bw tx inp im hR (hDo f ih) ih
end
end Go.Proofs.YtpfkkmacakjmbaaGreatDoor
