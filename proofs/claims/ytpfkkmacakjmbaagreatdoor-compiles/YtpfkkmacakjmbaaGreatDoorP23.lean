import Derived.Test.YtpfkkmacakjmbaaGreatDoorP22
set_option maxRecDepth 100000
set_option maxHeartbeats 6400000
set_option linter.all false
namespace Go.Proofs.YtpfkkmacakjmbaaGreatDoor
open Proofs.Tryz
section
open Go Go.RowKit Sp
attribute [local go_sem ↓] eY eZ
theorem Dr {B f:Nat} (P:Nat->Prop) (w0 w:World) (bw bi d:Nat) (inp:ByteArray) (s:Ev) (lv hv:Value) (l:List V) (fv:List Value) (im:Img) (hI:dZ w0 bi im) (hR:iA im) (IH:sS im inp w0 bw bi f) (hst:StX P w0 w bw bi inp d s lv l hv fv) (hs:StT im B s) (hsf:s.left<=f) (hd:d<=12) (x:Ins) (e:Nat) (lo:L_) (hx:WfN im.zq im.zx.length lo.length x) (hx2:az x.op=2) (hx111:x.op.toNat≠111) (hlk:x.op.toNat=99->0<=bM im.zq im.zj x.b 5 x.a) (u v:V) (ta tc tt:UInt8) (hnt:aV im.zq im.zx lo x [ta,tc]=some tt) (hu:VT im.zq s.heap ta u) (hv':VT im.zq s.heap tc v):
  Calls prog 126 #[.pointer (some ⟨bw,0,none⟩),.agg #[.int .u8 x.op.toNat,.int .i64 x.a,.int .i64 x.b,.int .i64 x.pos,.int .i64 e],.agg #[.int .u8 u.K,.int .i64 u.N],.agg #[.int .u8 v.K,.int .i64 v.N]] w λen w'=>But (FrD P w0) w w'/\ld P w0 bw bi inp d lv (eT im (λb' l'=>bY im inp f b' (d+1) 0 l' s) d x u v l s) en w':=by
 have e3:=hst.blt;have hW:=hR.wf;have S:=hW.nc
 have e1:arith x.op.toNat=true\/x.op.toNat=101\/x.op.toNat=112\/x.op.toNat=99\/x.op.toNat=44:=by
  unfold az at hx2
  split at hx2
  .omega
  .split at hx2
   .rename_i h3;simp[arith]at h3⊢;omega
   .split at hx2<;>omega
 obtain⟨W,G⟩: ∃W,(((w.alloc (.cells #[.int .u8 x.op.toNat,.int .i64 x.a,.int .i64 x.b,.int .i64 x.pos,.int .i64 e] 147)).alloc (.cells #[.int .u8 u.K,.int .i64 u.N] 135)).alloc (.cells #[.int .u8 v.K,.int .i64 v.N] 135)).alloc (.cells #[.int .u8 0,.int .i64 0] 135)=W:=⟨_,rfl⟩;have j:B_ w W:=by rw[<-G];exact(((aa _ _ _).trans (aa _ _ _)).trans (aa _ _ _)).trans (aa _ _ _)
 have I:W.heap[w.heap.size]?=some (.cells #[.int .u8 x.op.toNat,.int .i64 x.a,.int .i64 x.b,.int .i64 x.pos,.int .i64 e] 147):=by rw[<-G];exact((((aa (λ_=>False) _ _).trans (aa _ _ _)).trans (aa _ _ _)).block _ (by simp) (λh=>h)).trans (aO w _)
 have A:W.heap[w.heap.size+1]?=some (.cells #[.int .u8 u.K,.int .i64 u.N] 135):=by rw[<-G];exact(((aa (λ_=>False) _ _).trans (aa _ _ _)).block _ (by simp) (λh=>h)).trans (aB (by simp) _)
 have C:W.heap[w.heap.size+1+1]?=some (.cells #[.int .u8 v.K,.int .i64 v.N] 135):=by rw[<-G];exact((aa (λ_=>False) _ _).block _ (by simp) (λh=>h)).trans (aB (by simp) _)
 have y:W.heap[w.heap.size+1+1+1]?=some (.cells #[.int .u8 0,.int .i64 0] 135):=by rw[<-G];exact aB (by simp) _
 have n:=hst.grow j;have r:jz W (w.heap.size+1+1+1):=⟨0,0,y⟩;have Q:=ae y;have m:=hid G;clear G;obtain h|h|h|h|h:=e1
 .have a6:x.op.toNat≠44/\x.op.toNat≠101/\x.op.toNat≠99/\x.op.toNat≠112/\x.op.toNat≠120/\x.op.toNat≠105/\(x.op.toNat=43\/x.op.toNat=45\/x.op.toNat=42\/x.op.toNat=60\/x.op.toNat=61\/x.op.toNat=47):=by
   simp[Sp.arith]at h;omega
  obtain⟨n1,n2,n3,n4,n5,n6,n7⟩:=a6;have t0:((x.op.toNat:Int)==44)=false:=tsf (k:=44) n1;have t1:((x.op.toNat:Int)==101)=false:=tsf (k:=101) n2;have t2:((x.op.toNat:Int)==99)=false:=tsf (k:=99) n3;have t3:((x.op.toNat:Int)==112)=false:=tsf (k:=112) n4;rw[show eT im (λb' l'=>bY im inp f b' (d+1) 0 l' s) d x u v l s=dB x.op.toNat u.N v.N l s from by unfold eT;rw[if_neg n1,if_neg n2,if_neg n3,if_neg n4]]
  have hf:cF im.zq [ta,tc] [105,105]=true:=by
   simp[aV,a9,h,n2,n5,n1,n6,hx111]at hnt;simpa using hnt.1
  obtain⟨L,q2⟩:=nW hf;obtain⟨a,rfl,a1,a2⟩:=(hu.sub hW.cls S hs.ht (t':=105) L (by decide)).int (by decide);obtain⟨b,rfl,b1,b2⟩:=(hv'.sub hW.cls S hs.ht (t':=105) q2 (by decide)).int (by decide);have HA:=hid (Ah _ w0 W bw bi d inp s lv hv l fv n x.op.toNat n7 a b a1 a2 b1 b2);obtain⟨RR,J⟩: ∃RR,dB x.op.toNat (V.i a).N (V.i b).N l s=RR:=⟨_,rfl⟩;rw[J];have HR:Hid (dB x.op.toNat a b l s=RR):=J;clear hx hx2 hx111 hlk h n1 n2 n3 n4 n5 n6 n7 hnt hf L q2 hu hv' J
  go_in
  go_wp2_with fail;rw[m.out];clear m;refine HA.out.mono ?_;rintro en w1 ⟨c,hq⟩;rw[HR.out]at hq;obtain⟨K,N,rfl⟩:=hq.val;have T:=r.but c (λh=>h.2 (Or.inr ⟨by omega,Q⟩));have HQ:=hid hq;clear HA HR n r I A C y hq;obtain⟨K9,N9,r0,r1,f0,f1,F⟩:=T.parts;go_wp2_with fail;exact kr results126 rfl rfl (fg j) c HQ.out T (Or.inr ⟨by omega,Q⟩) (by omega) hst.old.size (λk hk=>Or.inl hk) (by omega)
 .have t0:((x.op.toNat:Int)==44)=false:=tsf (k:=44) (by omega);have t1:((x.op.toNat:Int)==101)=true:=tst h;rw[show eT im (λb' l'=>bY im inp f b' (d+1) 0 l' s) d x u v l s= .ok (if u=v then .i 1 else .i 0) l s from by unfold eT;rw[if_neg (by omega),if_pos h]];clear hx hx2 hx111 hlk h
  by_cases huv:u=v
  .subst huv;rw[if_pos rfl]
   go_in
   go_wp2_with fail;refine(jF true _).mono ?_;rintro en w1 ⟨rfl,c⟩;have t:=(((aa (λ_=>False) _ _).trans (aa _ _ _)).trans (aa _ _ _)).trans ((aa _ _ _).trans c);have E:jz w1 (w.heap.size+1+1+1):=jz.but ⟨0,0,aB (by simp) _⟩ c (λh=>h);clear c m n r I A C y j;have Z:=hst.grow t;obtain⟨K9,N9,r0,r1,f0,f1,F⟩:=E.parts;simp only[cW,if_true];go_wp2_with fail;exact kA results126 rfl rfl Z E (Or.inr ⟨by omega,F⟩) (by omega) hst.old.size (λk hk=>Or.inl hk) (fg t) (v:= .i 1) rfl rfl
  .rw[if_neg huv]
   have a6: ¬u.K=v.K\/(u.K=v.K/\ ¬u.N=v.N):=by
    by_cases h1:u.K=v.K
    .right
     refine⟨h1,λh2=>huv ?_⟩
     cases u<;>cases v<;>simp[V.K,V.N]at h1 h2⊢ <;>omega
    .exact Or.inl h1
   clear huv
   go_in
   obtain h1| ⟨h1,h2⟩:=a6
   .go_wp2_with fail;refine(jF false _).mono ?_;rintro en w1 ⟨rfl,c⟩;have t:=(((aa (λ_=>False) _ _).trans (aa _ _ _)).trans (aa _ _ _)).trans ((aa _ _ _).trans c);have E:jz w1 (w.heap.size+1+1+1):=jz.but ⟨0,0,aB (by simp) _⟩ c (λh=>h);clear c m n r I A C y j;have Z:=hst.grow t;obtain⟨K9,N9,r0,r1,f0,f1,F⟩:=E.parts;simp only[cW,dS,if_false];go_wp2_with fail;exact kA results126 rfl rfl Z E (Or.inr ⟨by omega,F⟩) (by omega) hst.old.size (λk hk=>Or.inl hk) (fg t) (v:= .i 0) rfl rfl
   .go_wp2_with fail;refine(jF false _).mono ?_;rintro en w1 ⟨rfl,c⟩;have t:=(((aa (λ_=>False) _ _).trans (aa _ _ _)).trans (aa _ _ _)).trans ((aa _ _ _).trans c);have E:jz w1 (w.heap.size+1+1+1):=jz.but ⟨0,0,aB (by simp) _⟩ c (λh=>h);clear c m n r I A C y j;have Z:=hst.grow t;obtain⟨K9,N9,r0,r1,f0,f1,F⟩:=E.parts;simp only[cW,dS,if_false];go_wp2_with fail;exact kA results126 rfl rfl Z E (Or.inr ⟨by omega,F⟩) (by omega) hst.old.size (λk hk=>Or.inl hk) (fg t) (v:= .i 0) rfl rfl
 .have t0:((x.op.toNat:Int)==44)=false:=tsf (k:=44) (by omega);have t1:((x.op.toNat:Int)==101)=false:=tsf (k:=101) (by omega);have t2:((x.op.toNat:Int)==99)=false:=tsf (k:=99) (by omega);have t3:((x.op.toNat:Int)==112)=true:=tst h;have b3:=hx.cls (by omega);have a4:=hx.fld (by omega);simp[aV,a9,aT,Sp.arith,h]at hnt;obtain⟨hf,_⟩:=hnt;obtain⟨hC,M⟩:=eU (a:=x.a) (by omega);obtain⟨L,q2⟩:=nW (by simpa using hf);have a0:=hu.sub hW.cls S hs.ht (t':=bQ x.a) L (by have:=bL.1 hC;omega);clear hf L q2;obtain rfl| ⟨k,ob,rfl,hk,_,hun⟩:=a0.ref (bZ hC)
  .rw[show eT im (λb' l'=>bY im inp f b' (d+1) 0 l' s) d x .z v l s= .bad 6 s.out from by unfold eT;simp[h]];have c7:=hst.wk.c7;have z7:=hst.wk.fz 7;have e4:bw<w.heap.size+1:=by omega
   have e5:bw<w.heap.size+1+1:=by omega
   have e6:bw<w.heap.size+1+1+1:=by omega
   clear hx hx2 hx111 hlk h M;simp only[Fb,Fc]
   go_in
   go_wp2_with fail;exact rf results126 rfl rfl (hst.wk.set7 6) rfl (re hst (aj _ _ _ _)) ((((aa _ _ _).trans (aa _ _ _)).trans (aa _ _ _)).trans (aa _ _ _)) (aB (by simp[aU]) _)
  .rw[M]at hun;obtain⟨g1,g2⟩:=nX hR hs b3 a4 hk hun;rw[show eT im (λb' l'=>bY im inp f b' (d+1) 0 l' s) d x (.o k) v l s= .ok (.i 0) l (s.put k x.b v)from by unfold eT;simp[h]];obtain⟨gh,cph,af,cf,rfl,e8,a3,e0,o0,o1⟩:=hst.obj hk;have Y:=hst.fl k ob _ hk a3;obtain⟨gf,rfl,D,a5,H⟩:=aE Y (by omega);obtain⟨u',b0⟩: ∃u',ob.fs[x.b]?=some u':=⟨_,aG g1⟩;have q0:=(j.cell (p:=⟨gf,x.b*2,none⟩) D (λh=>h)).trans (H _ _ (aP (k:=0) b0 (by omega)));have L:=(j.cell (p:=⟨gf,x.b*2+1,none⟩) D (λh=>h)).trans (H _ _ (aP (k:=1) b0 (by omega)));obtain⟨cur,O⟩:=jG Y (g:=gf) rfl;have z0:=(j.frozen (p:=⟨gf,x.b*2,none⟩) D (λh=>h)).trans (bG w gf (x.b*2) _ _ O)
   have z1:=(j.frozen (p:=⟨gf,x.b*2+1,none⟩) D (λh=>h)).trans (bG w gf (x.b*2+1) _ _ O);have d2:=j.kc o1 e0;have c1:=n.wk.c1;have b6:FrD P w0 gf:=⟨a5,hst.pf _ (bn a3) gf rfl⟩;have b4:=hid (λ(X:World) (h:StX (λk=>P k\/(w.heap.size<=k/\k<W.heap.size)) w0 X bw bi inp d s lv l (.slice (some ⟨gh,0,none⟩) s.heap.length cph) fv)=>h.setF hk a3 (g:=gf) rfl x.b v);clear H O hx hx2 hx111 hlk h M hun a0 hu hv' b0 Y g2 o0 o1 hk a3 hC;have f3:(x.b:Int)<(ob.fs.length:Int):=by omega
   have e7:(k:Int)<(s.heap.length:Int):=by omega
   simp only[Ey,Ez]at A m⊢
   go_in
   go_wp2_with fail;rw[m.out];clear m;have n2:=ce2 I;have v1:=ce1 A;have y0:=ce0 C;have y1:=ce1 C;have q:B_ W W.drew:=aA _ _;have f2:=j.size;have m1:w.heap.size<W.heap.size:=by omega
   have m2:w.heap.size+1<W.heap.size:=by omega
   have m3:w.heap.size+1+1<W.heap.size:=by omega
   have m4:gh<W.heap.size:=by omega
   have m5:bw<W.heap.size:=by omega
   refine aD (B_ W) 13 ?_
   iterate 13 (refine aF (v:=?_) rfl q ?_ ?_;rotate_left;(focus (intro wS h;have q0:=(h.kc c1 m5);have L:=(h.kc d2 m4);have q2:=(h.kc n2 m1);have q3:=(h.kc v1 m2);have q4:=(h.kc y0 m3);have q5:=(h.kc y1 m3);clear h;go_simp;try rfl));dsimp only[Act.put];try simp only[bW])
   have b9:=n.new q;have b5:=j.trans q;have b7:=r.but q (λh=>h);have p0:=q.kc q0 (bK D j.size);have p1:=q.kc L (bK D j.size);have p2:=q.kz z0 (bK D j.size);have p3:=q.kz z1 (bK D j.size);clear c1 d2 n2 v1 y0 y1 q0 L z0 z1 n r I A C y;generalize W.drew=wd at*;refine au rfl ?_;intro KS hKS;go_simp;refine hKS.out _ _ nofun ?_;clear hKS KS;refine aI rfl ?_;have e2:=b4.out wd b9;have b8:=(b7.but (aj wd gf (x.b*2) (.int .u8 v.K)) (λe=>by have e:w.heap.size+1+1+1=gf:=e;omega)).but (aj _ gf (x.b*2+1) (.int .i64 v.N)) (λe=>by have e:w.heap.size+1+1+1=gf:=e;omega);have c9:But (FrD P w0) w ((wd.setCell ⟨gf,x.b*2,none⟩ (.int .u8 v.K)).setCell ⟨gf,x.b*2+1,none⟩ (.int .i64 v.N)):=(fg b5).trans ((But.setCell wd (a:=⟨gf,x.b*2,none⟩) b6 _).trans (But.setCell _ (a:=⟨gf,x.b*2+1,none⟩) b6 _))
   clear p0 p1 p2 p3 b9 b7 b4 b5 q;generalize ((wd.setCell ⟨gf,x.b*2,none⟩ (.int .u8 v.K)).setCell ⟨gf,x.b*2+1,none⟩ (.int .i64 v.N))=w3 at*;obtain⟨K9,N9,r0,r1,f0,f1,F⟩:=b8.parts;go_wp2_with fail;exact kA results126 rfl rfl e2 b8 (Or.inr ⟨by omega,Q⟩) (by omega) hst.old.size (λk hk=>Or.inl hk) c9 (v:= .i 0) rfl rfl
 .have t0:((x.op.toNat:Int)==44)=false:=tsf (k:=44) (by omega);have t1:((x.op.toNat:Int)==101)=false:=tsf (k:=101) (by omega);have t2:((x.op.toNat:Int)==99)=true:=tst h;rw[show eT im (λb' l'=>bY im inp f b' (d+1) 0 l' s) d x u v l s=ow im inp f d x u v l s from by unfold eT ow;rw[if_neg (by omega),if_neg (by omega),if_pos h];cases u<;>rfl];have b3:=hx.cls (by omega);have a4:=hx.sig h;simp[aV,a9,aT,Sp.arith,h]at hnt;obtain⟨hf,_⟩:=hnt;obtain⟨hC,M⟩:=eU (a:=x.a) (by omega);obtain⟨L,q2⟩:=nW (by simpa using hf);have a0:=hu.sub hW.cls S hs.ht (t':=bQ x.a) L (by have:=bL.1 hC;omega);have c8:=hv'.sub hW.cls S hs.ht (t':=fU im.zx x.b) q2 (jx (BR hR a4).1)
  have HA:=hid (Cd _ w0 W bw bi d inp s lv hv l fv im hI hR IH n hs hsf hd x e b3 a4 (hlk h) u v a0 c8);clear hx hx2 hx111 hlk h M hC hf L q2 a0 c8 hu hv';obtain⟨RR,J⟩: ∃RR,ow im inp f d x u v l s=RR:=⟨_,rfl⟩;rw[J]at HA⊢;clear J
  go_in
  go_wp2_with fail;rw[m.out];clear m;refine HA.out.mono ?_;rintro en w1 ⟨c,hq⟩;obtain⟨K,N,rfl⟩:=hq.val;have T:=r.but c (λh=>h.2 (Or.inr ⟨by omega,Q⟩));have HQ:=hid hq;clear HA n r I A C y hq;obtain⟨K9,N9,r0,r1,f0,f1,F⟩:=T.parts;go_wp2_with fail;exact kr results126 rfl rfl (fg j) c HQ.out T (Or.inr ⟨by omega,Q⟩) (by omega) hst.old.size (λk hk=>Or.inl hk) (by omega)
 .have t0:((x.op.toNat:Int)==44)=true:=tst h;rw[show eT im (λb' l'=>bY im inp f b' (d+1) 0 l' s) d x u v l s= .ok v l s from by unfold eT;rw[if_pos h]]
  go_in
  go_wp2_with fail;exact ou results126 rfl rfl hst ((((aa _ _ _).trans (aa _ _ _)).trans (aa _ _ _)).trans (aa _ _ _)) (aB (by simp) _) (v:=v) rfl rfl
def Ce (P1:Nat->Prop) (w0:World) (bw bi:Nat) (inp:ByteArray) (d:Nat) (lv:Value) (im:Img) (B:Nat) (lo:L_) (cc dd:List V->Ev->R) (RR:R) (g:Nat) (wr:World):Prop:=
 (∃(l:List V) (s:Ev) (hv:Value) (fv:List Value),StX P1 w0 wr bw bi inp d s lv l hv fv/\LT im.zq s.heap lo l/\StT im B s/\s.left<=g/\RR=iW cc dd g l s)\/
 (∃(e:Nat) (o:L_) (hv:Value) (r l:Int),WkB wr bw bi hv inp r l d o e/\5<=e/\e<=10/\RR= .bad e o)
theorem sT {im:Img} {inp:ByteArray} {f:Nat} {b:Bod} {d i:Nat} {l:List V} {s:Ev} (h:s.left=0):bY im inp f b d i l s= .bad 5 s.out:=by
 cases f with
 |zero=>rfl
 |succ f=>simp[bY,h]
theorem Ai {cc dd:List V->Ev->R} {g:Nat} {l:List V} {s:Ev} {e:Nat} {o:L_} (h0:s.left=0->cc l s= .bad 5 s.out) (hg:s.left<=g) (h:cc l s= .bad e o):iW cc dd g l s= .bad e o:=by
 cases g with
 |zero=>
  have:=h0 (by omega);rw[h]at this;exact this.symm
 |succ g=>simp[iW,h]
theorem Cf {B f:Nat} (P:Nat->Prop) (w0 w:World) (bw bi d:Nat) (inp:ByteArray) (s:Ev) (lv hv:Value) (l:List V) (fv:List Value) (im:Img) (hR:iA im) (IH:sS im inp w0 bw bi f) (hst:StX P w0 w bw bi inp d s lv l hv fv) (hs:StT im B s) (hsf:s.left<=f) (hd:d<=12) (b:Bod) (hbm:b∈im.zj) (vt:Value) (hT:iN w0 b vt) (c dd F:Nat) (tc td:UInt8) (htc:bX im.zq im.zx b.zy b.code F c=some tc) (htc5:tc.toNat=105) (htd:bX im.zq im.zx b.zy b.code F dd=some td) (hll:LT im.zq s.heap b.zy l):
  Calls prog 124 #[.pointer (some ⟨bw,0,none⟩),ip b vt,.int .i64 c,.int .i64 dd,lv] w λen w'=>But (FrD P w0) w w'/\ld P w0 bw bi inp d lv (iW (bY im inp f b d c) (bY im inp f b d dd) f l s) en w':=by
 have g2:=hst.blt;obtain⟨ak,capk,rfl,e6⟩:=hT;have hT:iN w0 b (.slice ak b.code.length capk):=⟨ak,capk,rfl,e6⟩;unfold ip;obtain⟨RR,j⟩: ∃RR,iW (bY im inp f b d c) (bY im inp f b d dd) f l s=RR:=⟨_,rfl⟩;rw[j];obtain⟨W,y⟩: ∃W,(w.alloc (.cells #[.int .i64 b.cls,.int .i64 b.meth,.string ⟨b.zy.toArray⟩,S_,.slice ak b.code.length capk] 52)).alloc (.cells #[.int .u8 0,.int .i64 0] 135)=W:=⟨_,rfl⟩;have b0:B_ w W:=by rw[<-y];exact(aa _ _ _).trans (aa _ _ _)
 have b3:W.heap[w.heap.size]?=some (.cells #[.int .i64 b.cls,.int .i64 b.meth,.string ⟨b.zy.toArray⟩,S_,.slice ak b.code.length capk] 52):=by rw[<-y];exact((aa (λ_=>False) _ _).block _ (by simp) (λh=>h)).trans (aO w _)
 have b4:W.heap[w.heap.size+1]?=some (.cells #[.int .u8 0,.int .i64 0] 135):=by rw[<-y];exact aB (by simp) _
 have g0:=hst.grow b0;have f5:jz W (w.heap.size+1):=⟨0,0,b4⟩;have b5:=ae b4;have HI:Hid (Ce (λk=>P k\/(w.heap.size<=k/\k<W.heap.size)) w0 bw bi inp d lv im B b.zy (bY im inp f b d c) (bY im inp f b d dd) RR f W):=Or.inl ⟨l,s,hv,fv,g0,hll,hs,hsf,j.symm⟩;have a6:=hid y;clear y j
 go_in
 go_wp2_with fail;rw[a6.out];clear a6;have H0:Hid (∀l s,s.left=0->bY im inp f b d c l s= .bad 5 s.out):=λl s h=>sT h
 have e4:=hst.old.size
 go_loopg [11] f (λmm v11 wr=>But (FrD P w0) w wr/\But (FrD (λk=>P k\/(w.heap.size<=k/\k<W.heap.size)) w0) W wr/\mm<=f/\Hid (Ce (λk=>P k\/(w.heap.size<=k/\k<W.heap.size)) w0 bw bi inp d lv im B b.zy (bY im inp f b d c) (bY im inp f b d dd) RR mm wr))
 case atStart=>exact⟨fg b0,bf _ _,bP _,HI⟩
 case round=>
  obtain⟨b1,r,b6,HL⟩:=hrel;clear HI;have A:=f5.but r (λh=>h.2 (Or.inr ⟨by omega,b5⟩));have m:=(r.block _ (ae b3) (λh=>h.2 (Or.inr ⟨by omega,by omega⟩))).trans b3;have b2:P (w.heap.size+1)\/(w.heap.size<=w.heap.size+1/\w.heap.size+1<W.heap.size):=Or.inr ⟨by omega,b5⟩;have e5:P w.heap.size\/(w.heap.size<=w.heap.size/\w.heap.size<W.heap.size):=Or.inr ⟨by omega,by omega⟩;have b9: ¬bw=w.heap.size+1:=by omega
  obtain⟨l1,Z,c9,e1,X,b8,c8,Q,H⟩ | ⟨e,o,c9,r1,g6,O,g3,f2,f4⟩:=HL.out
  .have c7:=X.wk.c7;have m5:=X.blt;have z0:=ce0 m;have z1:=ce1 m;have z2:=ce2 m;have z3:=ce3 m;have z4:=ce4 m;have a3:=ae m;have hc:=IH b d c l1 Z tc F B _ wr lv c9 e1 _ hbm hd htc b8 c8 (Nat.le_trans Q b6) X hT;unfold ip at hc;have HC:=hid hc;have J:=hid (iK hR inp f B b d c l1 Z tc F hbm htc b8 c8 (Nat.le_trans Q b6));have C:=hid H;clear hc H HL;go_wp2_with fail;refine HC.out.mono ?_;rintro en w1 ⟨E,z⟩;clear HC z0 z1 z2 z3 z4 c7 m5;have T:=A.but E (λh=>h.2 b2);have t:But (FrD P w0) w w1:=b1.trans (E.mono (λk _ h=>⟨h.1,λhp=>h.2 (Or.inl hp)⟩));have a0:=r.trans E;have p:=(E.block _ a3 (λh=>h.2 e5)).trans m
   obtain⟨K9,N9,r0,r1,f0,f1,H⟩:=T.parts;have q:=J.out
   cases hn:bY im inp f b d c l1 Z with
   |bad e o=>
    rw[hn]at z q;obtain⟨⟨a,a',rfl⟩,e8,e0,r4,l4,b7⟩:=z;have j:RR= .bad e o:=by rw[C.out];exact Ai (H0.out l1 Z) Q hn
    subst j;have c7:=b7.c7;have he:((e:Int)==12)=false:=by rw[eu];have:=q.2.1;omega
    clear C hn J q;go_wp2_with fail;exact ov results124 rfl rfl b7 rfl b9 T (by omega) t
   |ok v l2 s2=>
    rw[hn]at z q;obtain⟨rfl,e0,e2,I⟩:=z;obtain⟨y1,y2,y3,y4,y5⟩:=q;obtain⟨n,rfl,g5,S⟩:=y1.int htc5
    have g4:0<Z.left:=by
     obtain h|h:=Nat.eq_zero_or_pos Z.left
     .rw[H0.out l1 Z h]at hn;cases hn
     .exact h
    obtain⟨g,rfl⟩: ∃g,gk=g+1:=⟨gk-1,by omega⟩
    have D:Hid (RR=if n=0 then .ok (.i 0) l2 s2 else match bY im inp f b d dd l2 s2 with| .bad e o=> .bad e o| .ok _ l s=>iW (bY im inp f b d c) (bY im inp f b d dd) g l s):=by
     show _=_
     rw[C.out];simp only[iW,hn,V.N]
     by_cases h0:n=0
     .simp[h0]
     .cases bY im inp f b d dd l2 s2<;>simp[h0]
    have c7:=I.wk.c7;have m5:=I.blt;clear C hn J y1;simp only[cW,V.N]
    by_cases h0:n=0
    .have j:=D.out;rw[if_pos h0]at j;subst j;subst h0;clear D;rw[show((V.i 0).K:Int)=105 from rfl];go_wp2_with fail;exact yB results124 rfl rfl I T b2 (by omega) e4 (λk hk=>Or.inl hk) t (v:= .i 0) rfl rfl
    .have g1:(n==0)=false:=by simpa using h0
     have j:=D.out;rw[if_neg h0]at j;have a4:=hid j;clear D j h0;have z0:=ce0 p;have z1:=ce1 p;have z2:=ce2 p;have z3:=ce3 p;have z4:=ce4 p;have e7:=ae p;have M:B_ w1 (w1.alloc (.cells #[.int .u8 105,.int .i64 n] 135)):=aa _ _ _;have hc:=IH b d dd l2 s2 td F B _ _ lv e0 e2 _ hbm hd htd y2 y3 (by omega) (I.new M) hT;unfold ip at hc;have HC:=hid hc;have a5:=hid (iK hR inp f B b d dd l2 s2 td F hbm htd y2 y3 (by omega));clear hc;rw[show((V.i n).K:Int)=105 from rfl];go_wp2_with fail;refine HC.out.mono ?_;rintro en w5 ⟨L,z⟩;have a2:But (FrD P w0) w w5:=(t.trans (fg M)).trans (L.mono (λk _ h=>⟨h.1,λhp=>h.2 (Or.inl hp)⟩))
     have a1:=(a0.trans (fg M)).trans L;obtain⟨K,N,rfl⟩:=z.val
     have HN:Hid (Ce (λk=>P k\/(w.heap.size<=k/\k<W.heap.size)) w0 bw bi inp d lv im B b.zy (bY im inp f b d c) (bY im inp f b d dd) RR g w5):=by
      have x:=a5.out;have G:=a4.out
      cases S:bY im inp f b d dd l2 s2 with
      |bad e o=>
       rw[S]at z x G;obtain⟨_,_,Y,r6,l6,f3⟩:=z;exact Or.inr ⟨e,o,Y,r6,l6,f3,x.1,x.2.1,G⟩
      |ok v3 l3 s3=>
       rw[S]at z x G;obtain⟨_,Y,e3,f6⟩:=z;obtain⟨x1,x2,x3,x4,x5⟩:=x;exact Or.inl ⟨l3,s3,Y,e3,f6,x2,x3,by omega,G⟩
     clear HC a5 a4 z z0 z1 z2 z3 z4 L;go_wp2_with fail
     go_roundg g
     case measure=>omega
     case rel=>exact⟨a2,a1,by omega,HN⟩
  .have c7:=O.c7;have m5:=O.lt;have he:=tf e 12 (by omega);subst f4;obtain⟨K9,N9,r0,g7,f0,f1,H⟩:=A.parts;go_wp2_with fail;exact uk results124 rfl rfl O rfl b9 A (by omega) b1
theorem iN.node {w0 w:World} {b:Bod} {ak:Option Addr} {capk:Nat} (h:w0.ownsRow 0 147 5 (.slice ak b.code.length capk) b.code.length (cu (du 0 b.code))) (hB:B_ w0 w) {i:Nat} {x:Ins} (hx:b.code[i]?=some x):
  ∃g,ak=some ⟨g,0,none⟩/\i<b.code.length/\g<w.heap.size/\g<w0.heap.size/\w.cell? ⟨g,i*5,none⟩=some (.int .u8 x.op.toNat)/\w.cell? ⟨g,i*5+1,none⟩=some (.int .i64 x.a)/\w.cell? ⟨g,i*5+2,none⟩=some (.int .i64 x.b)/\w.cell? ⟨g,i*5+3,none⟩=some (.int .i64 x.pos)/\w.cell? ⟨g,i*5+4,none⟩=some (.int .i64 (aR b.code i)):=by
 have hl:=(bc hx).1;obtain⟨g,rfl,d,f,c⟩:=aE h (by omega);have e:=qx (o:=0) hx;rw[Nat.zero_add]at e;have key: ∀(j:Nat) (v:Value),(cu (du 0 b.code))[j]?=some v->w.cell? ⟨g,j,none⟩=some v:=λj v hv=>(hB.cell (p:=⟨g,j,none⟩) d (λh=>h)).trans (c _ _ hv)
 exact⟨g,rfl,hl,bK d hB.size,d,key _ _ (cL (k:=0) e (by omega)),key _ _ (cL (k:=1) e (by omega)),key _ _ (cL (k:=2) e (by omega)),key _ _ (cL (k:=3) e (by omega)),key _ _ (cL (k:=4) e (by omega))⟩
/--No node may be begun. -/
theorem rg (P:Nat->Prop) (w0 w:World) (bw bi d i:Nat) (inp:ByteArray) (s:Ev) (lv hv:Value) (l:List V) (fv:List Value) (hst:StX P w0 w bw bi inp d s lv l hv fv) (h0:s.left=0) (b:Bod) (vt:Value) (hT:iN w0 b vt):
  Calls prog 74 #[.pointer (some ⟨bw,0,none⟩),ip b vt,.int .i64 i,lv] w λen w'=>But (FrD P w0) w w'/\ld P w0 bw bi inp d lv (.bad 5 s.out) en w':=by
 obtain⟨ak,capk,rfl,c⟩:=hT;unfold ip;have e:=hst.blt;have c4:=hst.wk.c4;rw[h0]at c4;have a:w.cell? ⟨bw,4,none⟩=some (.int .i64 0):=c4;have c7:=hst.wk.c7;have g:=hst.wk.fz 7;have f:bw<w.heap.size+1:=by omega
 clear c4 h0
 go_in
 go_wp2_with fail;exact rf results74 rfl rfl (hst.wk.set7 5) rfl (re hst (aj _ _ _ _)) ((aa _ _ _).trans (aa _ _ _)) (aB (by simp[aU]) _)
theorem Aj {f:Nat} (w0:World) (bw bi:Nat) (inp:ByteArray) (im:Img) (hI:dZ w0 bi im) (htab:iM w0) (hR:iA im) (IH:sS im inp w0 bw bi f):sS im inp w0 bw bi (f+1):=by
 intro b d i l s t F B P w lv hv fv vt a1 hd c h4 hs v5 I hT
 by_cases h0:s.left=0
 .rw[sT h0];exact rg P w0 w bw bi d i inp s lv hv l fv I h0 b vt hT
 obtain⟨ak,capk,rfl,f4⟩:=hT;have hT:iN w0 b (.slice ak b.code.length capk):=⟨ak,capk,rfl,f4⟩;unfold ip;have s6:=I.blt;have hW:=hR.wf
 cases F with
 |zero=>cases c
 |succ F=>
 simp only[bX]at c
 cases hx:b.code[i]? with
 |none=>rw[hx]at c;cases c
 |some x=>
 rw[hx]at c;simp only at c;have j4:=hW.bod b a1;have n5:x∈b.code:=bn hx;have e3:=j4.code x n5;obtain⟨ar,m⟩: ∃ar,az x.op=ar:=⟨_,rfl⟩;have o2:ar<=3:=by rw[<-m];unfold az;split;omega;split;omega;split<;>omega
 rw[m]at c
 cases hp:bp b.code (bX im.zq im.zx b.zy b.code F) ar (i+1)with
 |none=>rw[hp]at c;cases c
 |some ts=>
 rw[hp]at c;simp only at c;obtain⟨RR,i3⟩: ∃RR,bY im inp (f+1) b d i l s=RR:=⟨_,rfl⟩;rw[i3];have e6:=hid i3;clear i3;obtain⟨sl,a5⟩: ∃sl,s.left=sl+1:=⟨s.left-1,by omega⟩;have h6:StT im (B-22) {s with left:=sl}:=⟨hs.ht,by have:=hs.cap;simp;omega,by have:=hs.outn;simp;omega,by have:=hs.bb;omega,by have:=hs.rd;simp;omega⟩;obtain⟨W,e1⟩: ∃W,(((w.setCell ⟨bw,4,none⟩ (.int .i64 sl)).alloc (.cells #[.int .i64 b.cls,.int .i64 b.meth,.string ⟨b.zy.toArray⟩,S_,.slice ak b.code.length capk] 52)).alloc (.cells #[.int .u8 0,.int .i64 0] 135)).alloc (.cells #[.int .u8 x.op.toNat,.int .i64 x.a,.int .i64 x.b,.int .i64 x.pos,.int .i64 (aR b.code i)] 147)=W:=⟨_,rfl⟩
 have c4:=I.wk.c4;have z4:=I.wk.fz 4;rw[a5]at c4;have n8:w.cell? ⟨bw,4,none⟩=some (.int .i64 ((sl:Int)+1)):=by rw[c4];simp
 have r3: ¬((sl:Int)+1<=0):=by omega
 have t3:bw<w.heap.size+1:=by omega
 have o5:=hs.cap;have r2:sl<=4000:=by omega
 have r5:sl<=f:=by omega
 obtain⟨g,rfl,v0,t5,s9,n0,n1,n2,n3,n4⟩:=iN.node f4 I.old hx;have t4:g<w.heap.size+1:=by omega
 have v4: ¬bw=g:=by have:=I.ge;omega
 have p6: ¬g=bw:=by have:=I.ge;omega
 have l5:But (· =bw) w (w.setCell ⟨bw,4,none⟩ (.int .i64 sl)):=aj _ _ _ _;have q9:=I.work (s':={s with left:=sl}) (d':=d) l5 rfl (I.wk.set4 _);have k7:B_ (w.setCell ⟨bw,4,none⟩ (.int .i64 sl)) W:=by rw[<-e1];exact((aa _ _ _).trans (aa _ _ _)).trans (aa _ _ _)
 have C:W.heap[w.heap.size]?=some (.cells #[.int .i64 b.cls,.int .i64 b.meth,.string ⟨b.zy.toArray⟩,S_,.slice (some ⟨g,0,none⟩) b.code.length capk] 52):=by rw[<-e1];exact(((aa (λ_=>False) _ _).trans (aa _ _ _)).block _ (by simp[aU]) (λh=>h)).trans (aB (by simp[aU]) _)
 have h3:W.heap[w.heap.size+1]?=some (.cells #[.int .u8 0,.int .i64 0] 135):=by rw[<-e1];exact((aa (λ_=>False) _ _).block _ (by simp[aU]) (λh=>h)).trans (aB (by simp[aU]) _)
 have L:W.heap[w.heap.size+1+1]?=some (.cells #[.int .u8 x.op.toNat,.int .i64 x.a,.int .i64 x.b,.int .i64 x.pos,.int .i64 (aR b.code i)] 147):=by rw[<-e1];exact aB (by simp[aU]) _
 have a4:=q9.grow k7;simp only[aU]at a4;have e2:jz W (w.heap.size+1):=⟨0,0,h3⟩;have o6:=ae L;have i1:But (FrD P w0) w W:=(re I l5).trans (fg k7);have e0:=I.old.size;have k5:=hid e1;have HX:=hid (And.intro hx (And.intro hp (And.intro c (And.intro m (And.intro a5 h0)))));clear c4 e1 hx hp c m a5 h0;have t6:(i:Int)<(b.code.length:Int):=by omega
 go_in
 go_wp2_with fail;rw[k5.out];clear k5 n8 z4 n0 n1 n2 n3 n4;obtain⟨hx,hp,c,m,a5,h0⟩:=HX.out;refine(oR x.op W).mono ?_;rintro en wx ⟨rfl,e3⟩;rw[e3,m];clear e3 wx;have z:P (w.heap.size+1)\/(w.heap.size<=w.heap.size+1/\w.heap.size+1<W.heap.size):=Or.inr ⟨by omega,by omega⟩;have l0:P w.heap.size\/(w.heap.size<=w.heap.size/\w.heap.size<W.heap.size):=Or.inr ⟨by omega,by omega⟩;have l3:P (w.heap.size+1+1)\/(w.heap.size<=w.heap.size+1+1/\w.heap.size+1+1<W.heap.size):=Or.inr ⟨by omega,by omega⟩;have Z: ∀k,P k->P k\/(w.heap.size<=k/\k<W.heap.size):=λk h=>Or.inl h
 have G:=e6.out;have hz:(sl+1=0)=False:=by simp
 simp only[bY,hx,m,a5,hz,if_false,Nat.add_sub_cancel]at G;have k0:=ce0 L;have k1:=ce1 L;have k2:=ce2 L;have k3:=ce3 L;have k4:=ce4 L
 by_cases har0:ar=0
 .subst har0;rw[if_pos rfl]at G;have J:=hid (Cc _ w0 W bw bi d inp {s with left:=sl} lv hv l fv im hI hW a4 h6 x (aR b.code i) b.zy.length e3 h4.len m);rw[G]at J;clear HX hx hp c m a5 h0 G e6;go_wp2_with fail;refine J.out.mono ?_;rintro en w1 ⟨D,r⟩;obtain⟨K,N,rfl⟩:=r.val;have Q:=e2.but D (λh=>h.2 z);have HQ:=hid r;clear J a4 e2 L C h3 r k0 k1 k2 k3 k4;obtain⟨K9,N9,r0,r1,f0,f1,m4⟩:=Q.parts;go_wp2_with fail;exact kr results74 rfl rfl i1 D HQ.out Q z (by omega) e0 Z (by omega)
 rw[if_neg har0]at G;have l6:=tf ar 0 (by omega);have a6:=ce0 C;have b0:=ce1 C;have b1:=ce2 C;have b2:=ce3 C;have b3:=ce4 C;have p4:=j4.len
 by_cases h111:x.op.toNat=111
 .rw[if_pos h111]at G;have b7:ar=2:=by rw[<-m];simp[az,h111]
  subst b7;obtain⟨t0,t1,g0,g1,rfl⟩:=gu hp
  have s2:t0.toNat=105:=by
   simp[aV,a9,aT,Sp.arith,h111]at c;exact c.1
  obtain⟨y,hy⟩: ∃y,b.code[i+1]?=some y:=by
   cases hy:b.code[i+1]? with
   |none=>cases F with
    |zero=>cases g0
    |succ F=>simp only[bX,hy]at g0;cases g0
   |some y=>exact⟨y,rfl⟩
  obtain⟨g',a2,i5,f6,_,_,_,_,_,e4⟩:=iN.node f4 a4.old hy;have a0:g=g':=by injection a2 with h;injection h
  subst a0;have f3:iN w0 b (.slice (some ⟨g,0,none⟩) b.code.length capk):=hT;have h5:=Cf _ w0 W.drew bw bi d inp {s with left:=sl} lv hv l fv im hR IH (a4.new (aA _ _)) h6 (by simp;omega) hd b a1 _ f3 (i+1) (aR b.code (i+1)) F t0 t1 g0 s2 g1 h4;unfold ip at h5;rw[G,show((i+1:Nat):Int)=(i:Int)+1 from by simp]at h5;have J:=hid h5;have j7:((x.op.toNat:Int)==111)=true:=tst h111;have o3:(i:Int)+1<(b.code.length:Int):=by omega
  have o4:0<=(i:Int)+1:=by omega
  clear HX hx hp c m a5 h0 G e6 h111 h5 a2 hy g0 g1;go_wp2_with fail;have h2:But (FrD (λk=>P k\/(w.heap.size<=k/\k<W.heap.size)) w0) W W.drew:=aA _ _;have m1:w.heap.size<W.heap.size:=by omega
  have g5: ¬FrD (λk=>P k\/(w.heap.size<=k/\k<W.heap.size)) w0 w.heap.size:=λh=>h.2 l0
  have q6: ¬FrD (λk=>P k\/(w.heap.size<=k/\k<W.heap.size)) w0 g:=λh=>by have:=h.1;omega
  refine aD (But (FrD (λk=>P k\/(w.heap.size<=k/\k<W.heap.size)) w0) W) 11 ?_
  iterate 10 (refine aF (v:=?_) rfl h2 ?_ ?_;rotate_left;(focus (intro wS h;have q0:=((h.cell (p:=⟨w.heap.size,0,none⟩) m1 g5).trans a6);have q1:=((h.cell (p:=⟨w.heap.size,1,none⟩) m1 g5).trans b0);have q2:=((h.cell (p:=⟨w.heap.size,2,none⟩) m1 g5).trans b1);have q3:=((h.cell (p:=⟨w.heap.size,3,none⟩) m1 g5).trans b2);have q4:=((h.cell (p:=⟨w.heap.size,4,none⟩) m1 g5).trans b3);have q5:=((h.cell (p:=⟨g,(i+1)*5+4,none⟩) f6 q6).trans e4);clear h;go_simp;try rfl));dsimp only[Act.put];try simp only[bW])
  refine au rfl ?_;intro KS hKS;go_simp;refine J.out.mono ?_;rintro en w1 ⟨D,r⟩;obtain⟨K,N,rfl⟩:=r.val;refine hKS.out _ _ (λ_=>h2.trans D) ?_;clear hKS KS;have Q:=(e2.but h2 (λh=>h.2 z)).but D (λh=>h.2 z);have HQ:=hid r;clear J a4 e2 L C h3 r k0 k1 k2 k3 k4 a6 b0 b1 b2 b3 e4;obtain⟨K9,N9,r0,r1,f0,f1,m4⟩:=Q.parts;refine dU rfl ?_;go_wp2_with fail;exact kr results74 rfl rfl i1 (h2.trans D) HQ.out Q z (by omega) e0 Z (by omega)
 rw[if_neg h111]at G;have j7:((x.op.toNat:Int)==111)=false:=tsf (k:=111) h111
 obtain⟨t0,g0⟩: ∃t0,bX im.zq im.zx b.zy b.code F (i+1)=some t0:=by
  obtain rfl|rfl|rfl:=(by omega:ar=1\/ar=2\/ar=3)
  .obtain⟨a,h1,_⟩:=km hp;exact⟨a,h1⟩
  .obtain⟨a,_,h1,_⟩:=gu hp;exact⟨a,h1⟩
  .obtain⟨a,_,_,h1,_⟩:=mA hp;exact⟨a,h1⟩
 have f3:iN w0 b (.slice (some ⟨g,0,none⟩) b.code.length capk):=hT;have hc:=IH b d (i+1) l {s with left:=sl} t0 F (B-22) _ W lv hv fv _ a1 hd g0 h4 h6 (by simp;omega) a4 f3;unfold ip at hc;rw[show((i+1:Nat):Int)=(i:Int)+1 from by simp]at hc;have HC:=hid hc;have b4:=hid (iK hR inp f (B-22) b d (i+1) l {s with left:=sl} t0 F a1 g0 h4 h6 (by simp;omega));have HV:=hid G;clear hc G;clear HX hx a5 h0;have HP:=hid (And.intro hp (And.intro c m));clear hp c m;go_wp2_with fail;refine HC.out.mono ?_;rintro en w1 ⟨D,r⟩;clear HC k0 k1 k2 k3 k4 a6 b0 b1 b2 b3;have Q:=e2.but D (λh=>h.2 z);have e8:But (FrD P w0) w w1:=i1.trans (D.mono (λk _ h=>⟨h.1,λhp=>h.2 (Z k hp)⟩))
 have M:=(D.block _ (by omega) (λh=>h.2 l0)).trans C;have H:=(D.block _ o6 (λh=>h.2 l3)).trans L;have r6:=D.size;clear e2 L C h3 a4;obtain⟨K9,N9,r0,r1,f0,f1,m4⟩:=Q.parts;have b5:=HV.out;have S:=b4.out
 cases hn:bY im inp f b d (i+1) l {s with left:=sl}with
 |bad e o=>
  rw[hn]at r b5 S;simp only at b5;subst b5;obtain⟨⟨a,a',rfl⟩,i4,s3,r4,l4,g3⟩:=r;have c7:=g3.c7;have he:((e:Int)!=12)=true:=by rw[bne_iff_ne];have:=S.2.1;omega
  have b9: ¬bw=w.heap.size+1:=by omega
  clear e6 HV b4 S hn HP;go_wp2_with fail;exact ov results74 rfl rfl g3 rfl b9 Q (by omega) e8
 |ok u l1 s1=>
  rw[hn]at r b5 S;simp only at b5;obtain⟨rfl,j3,h9,g7⟩:=r;obtain⟨y1,y2,y3,y4,y5⟩:=S;simp only at y4 y5
  obtain⟨y,hy⟩: ∃y,b.code[i+1]?=some y:=by
   cases hy:b.code[i+1]? with
   |none=>cases F with
    |zero=>cases g0
    |succ F=>simp only[bX,hy]at g0;cases g0
   |some y=>exact⟨y,rfl⟩
  obtain⟨g',a2,i5,f6,_,_,_,_,_,e4⟩:=iN.node f4 g7.old hy;have a0:g=g':=by injection a2 with h;injection h
  subst a0;have c9:=hid b5;clear a2 hy HV b5 e6 b4 hn;have c7:=g7.wk.c7;have m5:=g7.blt;have k0:=ce0 H;have k1:=ce1 H;have k2:=ce2 H;have k3:=ce3 H;have k4:=ce4 H;have a6:=ce0 M;have b0:=ce1 M;have b1:=ce2 M;have b2:=ce3 M;have b3:=ce4 M;have v6:=ae M;have s5:=ae H;have o3:(i:Int)+1<(b.code.length:Int):=by omega
  have o4:0<=(i:Int)+1:=by omega
  simp only[cW];have e7:B_ w1 (w1.alloc (.cells #[.int .u8 u.K,.int .i64 u.N] 135)):=aa _ _ _;have a3:=g7.grow e7;have g6:=Q.but e7 (λh=>h);have Y:But (FrD P w0) w (w1.alloc (.cells #[.int .u8 u.K,.int .i64 u.N] 135)):=e8.trans (fg e7);obtain⟨hp,c,m⟩:=HP.out
  by_cases h105:x.op.toNat=105
  .have j5:((x.op.toNat:Int)==105)=true:=tst h105;have q:=c9.out;rw[if_pos h105]at q;have f5:ar=3:=by rw[<-m];simp[az,h105]
   subst f5;obtain⟨n7,t1,t2,X,g1,g2,rfl⟩:=mA hp;rw[g0]at X
   cases X
   simp[aV,a9,aT,Sp.arith,h105]at c;obtain⟨n,rfl,v2,v3⟩:=y1.int c.1.1
   obtain⟨y',n6⟩: ∃y',b.code[aR b.code (i+1)]?=some y':=by
    cases hy:b.code[aR b.code (i+1)]? with
    |none=>cases F with
     |zero=>cases g1
     |succ F=>simp only[bX,hy]at g1;cases g1
    |some y=>exact⟨y,rfl⟩
   obtain⟨g',a2,i6,_,_,_,_,_,_,e5⟩:=iN.node f4 g7.old n6;have a0:g=g':=by injection a2 with h;injection h
   subst a0;obtain⟨j1,m0⟩: ∃j1,aR b.code (i+1)=j1:=⟨_,rfl⟩;obtain⟨j2,m2⟩: ∃j2,aR b.code j1=j2:=⟨_,rfl⟩;rw[m0]at q g1 g2 e4 e5 i6;rw[m2]at q g2 e5;have v1:(j1:Int)<(b.code.length:Int):=by omega
   have HC:=hid (λj tt (hj:bX im.zq im.zx b.zy b.code F j=some tt)=>IH b d j l1 s1 tt F (B-22) _ _ lv j3 h9 _ a1 hd hj y2 y3 (by omega) a3 f3);unfold ip at HC;simp only[V.N]at q HC a3 g6 Y e7⊢;clear hp c m HP c9 m0 m2 a2 n6 h105
   by_cases hn0:n=0
   .simp[hn0]at q;have J:=hid (HC.out j2 t2 g2);rw[q]at J;have p5:(n==0)=true:=by simpa using hn0
    clear HC q hn0;go_wp2_with fail;refine J.out.mono ?_;rintro en w5 ⟨A,r⟩;obtain⟨K,N,rfl⟩:=r.val;have E:=g6.but A (λh=>h.2 (Or.inl z));have HQ:=hid r;clear J a3 r e5 k0 k1 k2 k3 k4 a6 b0 b1 b2 b3 e4 c7;obtain⟨K8,N8,q0,q1,o0,o1,c8⟩:=E.parts;go_wp2_with fail;exact kr results74 rfl rfl Y A HQ.out E (Or.inl z) (by omega) e0 (λk hk=>Or.inl (Z k hk)) (by omega)
   .simp[hn0]at q;have J:=hid (HC.out j1 t1 g1);rw[q]at J;have p5:(n==0)=false:=by simpa using hn0
    clear HC q hn0;go_wp2_with fail;refine J.out.mono ?_;rintro en w5 ⟨A,r⟩;obtain⟨K,N,rfl⟩:=r.val;have E:=g6.but A (λh=>h.2 (Or.inl z));have HQ:=hid r;clear J a3 r e5 k0 k1 k2 k3 k4 a6 b0 b1 b2 b3 e4 c7;obtain⟨K8,N8,q0,q1,o0,o1,c8⟩:=E.parts;go_wp2_with fail;exact kr results74 rfl rfl Y A HQ.out E (Or.inl z) (by omega) e0 (λk hk=>Or.inl (Z k hk)) (by omega)
  have j5:((x.op.toNat:Int)==105)=false:=tsf (k:=105) h105
  by_cases har1:ar=1
  .have q:=c9.out;rw[if_neg h105,if_pos har1]at q;subst har1;obtain⟨n7,X,rfl⟩:=km hp;rw[g0]at X
   cases X
   have J:=hid (Dq _ w0 _ bw bi d inp s1 lv j3 l1 h9 im hI htab hR a3 y3 x (aR b.code i) b.zy e3 y2 m t0 u y1 t c j4.loc.2);rw[q]at J;clear hp c m HP c9 q h105;go_wp2_with fail;refine J.out.mono ?_;rintro en w5 ⟨A,r⟩;obtain⟨K,N,rfl⟩:=r.val;have E:=g6.but A (λh=>h.2 (Or.inl z));have HQ:=hid r;clear J a3 r k0 k1 k2 k3 k4 a6 b0 b1 b2 b3 e4 c7;obtain⟨K8,N8,q0,q1,o0,o1,c8⟩:=E.parts;go_wp2_with fail;exact kr results74 rfl rfl Y A HQ.out E (Or.inl z) (by omega) e0 (λk hk=>Or.inl (Z k hk)) (by omega)
  .have q:=c9.out;rw[if_neg h105,if_neg har1]at q
   have b7:ar=2:=by
    rw[<-m];unfold az at m⊢;rw[if_neg h105]at m⊢
    split at m
    .rename_i h';rw[if_pos h']
    .split at m<;>omega
   subst b7;obtain⟨n7,t1,X,g1,rfl⟩:=gu hp;rw[g0]at X
   cases X
   have hc:=IH b d (aR b.code (i+1)) l1 s1 t1 F (B-22) _ _ lv j3 h9 _ a1 hd g1 y2 y3 (by omega) a3 f3;unfold ip at hc;have HC:=hid hc;have b4:=hid (iK hR inp f (B-22) b d (aR b.code (i+1)) l1 s1 t1 F a1 g1 y2 y3 (by omega));have h8:=hid q;have h7:=hid (And.intro c m);clear hp c m HP c9 q hc h105;go_wp2_with fail;refine HC.out.mono ?_;rintro en w5 ⟨A,r⟩;have E:=g6.but A (λh=>h.2 (Or.inl z));have f2:But (FrD P w0) w w5:=Y.trans (A.mono (λk _ h=>⟨h.1,λhp=>h.2 (Or.inl (Z k hp))⟩));have g4:w1.heap.size<(w1.alloc (.cells #[.int .u8 u.K,.int .i64 u.N] 135)).heap.size:=by simp
   have b8:=(A.block _ g4 (λh=>h.2 (Or.inr ⟨bP _,g4⟩))).trans (aO w1 _);have O:=(A.block _ (by simp;omega) (λh=>h.2 (Or.inl l3))).trans ((e7.block _ s5 (λh=>h)).trans H);have s0:=A.size;clear HC k0 k1 k2 k3 k4 a6 b0 b1 b2 b3 e4 c7 a3 r0 r1 f0 f1;obtain⟨K8,N8,q0,q1,o0,o1,c8⟩:=E.parts;have b6:=h8.out;have T:=b4.out
   cases hn:bY im inp f b d (aR b.code (i+1)) l1 s1 with
   |bad e o=>
    rw[hn]at r b6 T;simp only at b6;subst b6;obtain⟨⟨a,a',rfl⟩,i4,s3,r4,l4,g3⟩:=r;have c7:=g3.c7;have he:((e:Int)!=12)=true:=by rw[bne_iff_ne];have:=T.2.1;omega
    have b9: ¬bw=w.heap.size+1:=by omega
    clear h8 b4 T hn h7;go_wp2_with fail;exact ov results74 rfl rfl g3 rfl b9 E (by omega) f2
   |ok v l2 s2'=>
    rw[hn]at r b6 T;simp only at b6;obtain⟨rfl,s4,n9,j0⟩:=r;obtain⟨x1,x2,x3,x4,x5⟩:=T;obtain⟨c,m⟩:=h7.out;clear h8 b4 hn h7;simp only[cW];have c7:=j0.wk.c7;have m6:=j0.blt;have i0:B_ w5 (w5.alloc (.cells #[.int .u8 v.K,.int .i64 v.N] 135)):=aa _ _ _;have m7:=j0.grow i0;have q7:=E.but i0 (λh=>h);have i2:But (FrD P w0) w (w5.alloc (.cells #[.int .u8 v.K,.int .i64 v.N] 135)):=f2.trans (fg i0);have u0:=ce0 b8;have u1:=ce1 b8;have k0:=ce0 O;have k1:=ce1 O;have k2:=ce2 O;have k3:=ce3 O;have k4:=ce4 O;have lu:=ae b8;have ln:=ae O;have J:=hid (Dr _ w0 _ bw bi d inp s2' lv s4 l2 n9 im hI hR IH m7 x3 (by omega) hd x (aR b.code i) b.zy e3 m h111 (hR.lk b a1 x n5) u v t0 t1 t c (y1.ext x4) x1)
    rw[b6]at J;clear b6 c m;go_wp2_with fail;refine J.out.mono ?_;rintro en w7 ⟨k6,r⟩;obtain⟨K,N,rfl⟩:=r.val;have m3:=q7.but k6 (λh=>h.2 (Or.inl (Or.inl z)));have HQ:=hid r;clear J m7 r k0 k1 k2 k3 k4 c7 u0 u1 q0 q1 o0 o1;obtain⟨K7,N7,p0,p1,p2,p3,q8⟩:=m3.parts;go_wp2_with fail;exact kr results74 rfl rfl i2 k6 HQ.out m3 (Or.inl (Or.inl z)) (by omega) e0 (λk hk=>Or.inl (Or.inl (Z k hk))) (by omega)
theorem Cg (w0:World) (bw bi:Nat) (inp:ByteArray) (im:Img) (hI:dZ w0 bi im) (htab:iM w0) (hR:iA im): ∀f,sS im inp w0 bw bi f:=by
 intro f
 induction f with
 |zero=>
  intro b d i l s t F B P w lv hv fv vt e k j g m h a c;exact rg P w0 w bw bi d i inp s lv hv l fv a (by omega) b vt c
 |succ f ih=>exact Aj w0 bw bi inp im hI htab hR ih
def pd (inp:ByteArray) (fuel:Int):Bool:= !decide (40<inp.size\/fuel<0\/4000<fuel)
theorem sU (inp:ByteArray) (fuel:Int) (w:World):
  Calls prog 71 #[.string inp,.int .i64 0,.int .i64 fuel] w λen w'=>en= .returned (.bool (pd inp fuel))/\B_ w w':=by
 have e:pd inp fuel=(decide ((inp.size:Int)<=40)&&decide (0<=fuel)&&decide (fuel<=4000)):=by
  unfold pd;rw[Bool.eq_iff_iff];simp;omega
 rw[e];clear e
 by_cases h1:(inp.size:Int)<=40
 .have a:decide ((inp.size:Int)<=40)=true:=decide_eq_true h1
  by_cases h2:0<=fuel
  .have b:decide (0<=fuel)=true:=decide_eq_true h2
   by_cases h3:fuel<=4000
   .have c:decide (fuel<=4000)=true:=decide_eq_true h3;rw[a,b,c]
    go_in
    go_wp2_with fail;go_ret;exact⟨rfl,bf _ _⟩
   .have c:decide (fuel<=4000)=false:=decide_eq_false h3;rw[a,b,c]
    go_in
    go_wp2_with fail;go_ret;exact⟨rfl,bf _ _⟩
  .have b:decide (0<=fuel)=false:=decide_eq_false h2;rw[a,b]
   go_in
   go_wp2_with fail;go_ret;exact⟨rfl,bf _ _⟩
 .have a:decide ((inp.size:Int)<=40)=false:=decide_eq_false h1;rw[a]
  go_in
  go_wp2_with fail;go_ret;exact⟨rfl,bf _ _⟩
theorem kt {s:ByteArray} {im:Img} (hs:s.size<=2000) (hl:cO s= .ok im) (h:(dA s).1=0):iA im:=by
 have c:dN im:=by
  unfold cO at hl
  split at hl
  .cases hl
  .split at hl
   .cases hl
   .rename_i im' hr
    split at hl
    .cases hl
    .cases hl;exact ql hs hr
 obtain⟨a,d⟩:=yQ hl;refine⟨c,a,d,λb hb=> ?_⟩;unfold dA at h;rw[hl]at h;simp only at h
 cases hf:im.zj.findIdx? (λb=> !dt im b)with
 |some k=>rw[hf]at h;simp at h
 |none=>
  rw[List.findIdx?_eq_none_iff]at hf;simpa using hf b hb
theorem yC {im:Img} (h:iA im) {mb:Bod} (hm:mb∈im.zj):LT im.zq [] mb.zy (aL mb []):=by
 have e:aL mb []=mb.zy.map dG:=by simp[aL]
 rw[e];refine⟨by simp,λj v hv=> ?_⟩;simp only[cV,Option.map_eq_some_iff]at hv;obtain⟨c,hc,rfl⟩:=hv;rw[show mb.zy.getD j 0=c from by rw[bH,hc];rfl];exact kI h.cls4 ((h.wf.bod mb hm).loc.2 c (bn hc))
theorem sV (im:Img) {fu:Nat} (h:fu<=4000):StT im 88000 ⟨[],0,fu,[]⟩:=⟨⟨λk ob h=>by simp at h,λk ob h=>by simp at h,λk ob j v h=>by simp at h⟩,by simpa using h,by simp;omega,by omega,by simpa using h⟩
theorem Ch {im:Img} {inp:ByteArray} {fu:Nat} {mb:Bod} {q:Nat} (hq:im.zj.length=q+1) (hm:im.zj[q]?=some mb):mL im inp fu=match bY im inp fu mb 1 0 (aL mb []) ⟨[],0,fu,[]⟩with
  | .bad e o=>(o,0,e)
  | .ok v _ s=>(s.out,v.N,0):=by
 unfold mL;rw[hq,Nat.add_sub_cancel,bH,hm]
 rfl
theorem Ak {w3 w4:World} {bi base:Nat} {inp:ByteArray} {fu:Nat} {vl:Value} {l:List V} (hB:B_ w3 w4) (ho:w4.ownsRow base 135 2 vl l.length (aJ l)) (hb:w3.heap.size<=base):
  StX (λ_=>False) w3 (w4.alloc (.cells #[.pointer (some ⟨bi,0,none⟩),S_,.string inp,.int .i64 0,.int .i64 fu,.int .i64 1,.string ⟨#[]⟩,.int .i64 12] 133)) w4.heap.size bi inp 1 ⟨[],0,fu,[]⟩ vl l S_ []:=
 ⟨hB.trans (aa _ _ _),aO _ _,rfl,cR _ _ _ _,λk ob v h=>by simp at h,fc (ag ho (aa (λ_=>False) _ _) (λ_ _ h=>h)) hb,hB.size,λ_ h=>h.elim,λh=>h,λ_ _ h=>h,λ_ h=>by simp at h,λ_ _ h=>h,λ_ h=>by simp at h,λ_ _ _ _ _ h=>by simp at h⟩
theorem sW (s inp:ByteArray) (fuel:Int) (w:World) (hmax:s.size<=maxLen) (ht:iM w):
  Calls prog 50 #[.string s,.string inp,.int .i64 fuel] w λen w'=>en= .returned (.tuple #[.string ⟨(gU s inp fuel).1.toArray⟩,.int .i64 (gU s inp fuel).2.1,.int .i64 (gU s inp fuel).2.2])/\B_ w w':=by
 obtain⟨RR,g⟩: ∃RR,gU s inp fuel=RR:=⟨_,rfl⟩;rw[g]
 cases hg:pd inp fuel with
 |false=>
  have b:RR=([],0,1):=by
   rw[<-g];unfold gU;rw[if_pos (by rw[pd,Bool.not_eq_false',dg]at hg;exact hg)]
  subst b;have O:=hid (sU inp fuel);rw[hg]at O;clear hg g
  go_in
  go_wp2_with fail;refine(O.out w).mono ?_;rintro en w1 ⟨rfl,l⟩;go_wp2_with fail;exact cA (v:= .tuple #[.string ⟨#[]⟩,.int .i64 0,.int .i64 1]) (by simp[results,results50,go_sem]) rfl ⟨rfl,l⟩
 |true=>
  have X: ¬(40<inp.size\/fuel<0\/4000<fuel):=by rw[pd,Bool.not_eq_true',decide_eq_false_iff_not]at hg;exact hg
  have O:=hid (sU inp fuel);rw[hg]at O;clear hg
  by_cases hsc:(dA s).1=0
  .obtain⟨im,hl⟩: ∃im,cO s= .ok im:=by
    cases hl:cO s with
    |error e=>
     obtain⟨e,p⟩:=e;have:=kP hl;rw[sH hl]at hsc;simp only at hsc;omega
    |ok im=>exact⟨im,rfl⟩
   have e7:s.size<=2000:=by
    unfold cO at hl
    split at hl
    .cases hl
    .omega
   have L:=kt e7 hl hsc
   have b:RR=mL im inp fuel.toNat:=by
    rw[<-g];unfold gU;rw[if_neg X,hl];simp only[hsc,if_true]
   obtain⟨fu,rfl⟩: ∃fu:Nat,fuel=fu:=⟨fuel.toNat,by omega⟩;simp only[jZ]at b;obtain⟨bs,mb,m,c9,e3⟩:=L.we.main;obtain⟨q,B⟩: ∃q,im.zj.length=q+1:=⟨bs.length,by rw[m];simp⟩
   have Y:im.zj[q]?=some mb:=by
    have h1:q=bs.length:=by rw[m]at B;simp at B;omega
    rw[h1,m];simp
   have A:mb∈im.zj:=bn Y;have f5:=L.wf.nb;have e5:0<im.zj.length:=by rw[m];simp
   have G:=hid (oU s);have HL:=hid (pB s);rw[hl]at HL;obtain⟨E,hE⟩: ∃E,dA s=E:=⟨_,rfl⟩;rw[hE]at G hsc;obtain⟨e,p⟩:=E;simp only at G hsc;subst hsc;have a4:=hid b;have a2:=hid (And.intro m Y);have a3:=hid c9;clear hE hl g b m Y c9 e3;simp only[nG]at HL
   go_in
   go_wp2_with fail;refine(O.out w).mono ?_;rintro en w1 ⟨rfl,l⟩;go_wp2_with fail;refine(G.out w1 hmax).mono ?_;rintro en w2 ⟨rfl,C⟩;go_wp2_with fail;refine(HL.out w2 hmax).mono ?_;rintro en F ⟨rfl,a6,hp⟩;obtain⟨hI,hW⟩:=hp;obtain⟨gb,capb,vt,b2,a0,e4,y,hT,b0,b1,a5,b3,b4⟩:=hI.body a2.out.2;obtain⟨ak,capk,rfl,b9⟩:=hT;have x:=(l.trans C).trans a6;have HQ:=hid B;rw[B]at b2;clear O G HL l C a6 B a0 e5;have f6:(q:Int)<(q:Int)+1:=by omega
   have f1:=dc (q:Int) (by omega) (by have:=HQ.out;omega);go_wp2_with fail;have b8:B_ F F.drew:=aA _ _;refine aD (B_ F) 13 ?_
   iterate 12 (refine aF (v:=?_) rfl b8 ?_ ?_;rotate_left;(focus (intro wS h;have q0:=(h.kc b2 e4);have q1:=(h.kc b0 y);have q2:=(h.kc b1 y);have q3:=(h.kc a5 y);have q4:=(h.kc b3 y);have q5:=(h.kc b4 y);clear h;go_simp;try rfl));dsimp only[Act.put];try simp only[bW])
   refine au rfl ?_;intro KS hKS;go_simp;refine hKS.out _ _ (λ_=>(aa _ _ _).trans (aA _ _)) ?_;clear hKS KS;refine au rfl ?_;intro KS hKS;go_simp;refine hKS.out _ _ nofun ?_;clear hKS KS;refine aI rfl ?_;have D:B_ F (F.alloc (.cells #[.int .i64 mb.cls,.int .i64 mb.meth,.string ⟨mb.zy.toArray⟩,S_,.slice ak mb.code.length capk] 52)).drew:=(aa _ _ _).trans (aA _ _);have d:(F.alloc (.cells #[.int .i64 mb.cls,.int .i64 mb.meth,.string ⟨mb.zy.toArray⟩,S_,.slice ak mb.code.length capk] 52)).drew.heap[F.heap.size]?=some (.cells #[.int .i64 mb.cls,.int .i64 mb.meth,.string ⟨mb.zy.toArray⟩,S_,.slice ak mb.code.length capk] 52):=aO _ _
   revert D d;generalize (F.alloc (.cells #[.int .i64 mb.cls,.int .i64 mb.meth,.string ⟨mb.zy.toArray⟩,S_,.slice ak mb.code.length capk] 52)).drew=W;intro D d;clear b0 b1 b2 a5 b3 b4 b8 f1;have z0:=ce0 d;have z1:=ce1 d;have z2:=ce2 d;have z3:=ce3 d;have z4:=ce4 d;have e1:=ae d;go_wp2_with fail;have z:=ra mb S_ (.slice ak mb.code.length capk) ⟨_,_,_,rfl⟩ [] none 0 W (hW.bod mb A).loc.1 (by simp) 0 (cR _ _ _ _);simp only[List.length_nil]at z;refine z.mono ?_;rintro en M ⟨vl,rfl,b7,b5⟩;obtain⟨al,capl,rfl⟩:=ay b7;have c:=(b5.block _ e1 (λh=>h)).trans d;clear z0 z1 z2 z3 z4
   have z0:=ce0 c;have z1:=ce1 c;have z2:=ce2 c;have z3:=ce3 c;have z4:=ce4 c;have e2:=ae c;have H:=D.trans b5;have e6:fu<=4000:=by omega
   have f:=L.ty mb A
   obtain⟨t,a1,e8⟩: ∃t,bX im.zq im.zx mb.zy mb.code mb.code.length 0=some t/\bj im.zq t 105=true:=by
    unfold dt at f
    cases h:bX im.zq im.zx mb.zy mb.code mb.code.length 0 with
    |none=>rw[h]at f;cases f
    |some t=>rw[h]at f;simp only at f;rw[if_pos (by rw[a3.out];omega)]at f;exact⟨t,rfl,f⟩
   have e0:=Ak (bi:=w2.heap.size) (inp:=inp) (fu:=fu) H b7 D.size;have S:=yC L A;have T:=sV im e6;have Q:=hid (iK L inp fu 88000 mb 1 0 _ _ t _ A a1 S T (bP _));have hc:=Cg F M.heap.size w2.heap.size inp im hI (ht.but x) L fu mb 1 0 _ _ t _ 88000 _ _ _ _ _ (.slice ak mb.code.length capk) A (by omega) a1 S T (bP _) e0 ⟨ak,capk,rfl,b9⟩;unfold ip at hc;rw[show((0:Nat):Int)=0 from rfl]at hc;have P:Hid (RR=match bY im inp fu mb 1 0 (aL mb []) ⟨[],0,fu,[]⟩with| .bad e o=>(o,0,e) | .ok v _ s=>(s.out,v.N,0)):=by show _=_;rw[a4.out];exact Ch HQ.out a2.out.2
   have HC:=hid hc;have I:B_ w (M.alloc (.cells #[.pointer (some ⟨w2.heap.size,0,none⟩),S_,.string inp,.int .i64 0,.int .i64 fu,.int .i64 1,.string ⟨#[]⟩,.int .i64 12] 133)):=(x.trans H).trans (aa _ _ _);clear f e0 S T hc a4 z a1 b9 a3;generalize (aL mb [])=L0 at*;go_wp2_with fail;refine HC.out.mono ?_;rintro en w6 ⟨b6,B⟩;have J:B_ w w6:=I.next b6 (λk hk h=>by have:=h.1;have:=x.size;omega);clear HC z0 z1 z2 z3 z4 b6 I;have j:=P.out;have r:=Q.out
   cases hn:bY im inp fu mb 1 0 L0 ⟨[],0,fu,[]⟩with
   |bad e o=>
    rw[hn]at B j r;simp only at j;subst j;obtain⟨⟨a,a',rfl⟩,i,f0,r6,l6,c8⟩:=B;have c7:=c8.c7;have c6:=c8.c6;have he:((e:Int)!=12)=true:=by rw[bne_iff_ne];have:=r.2.1;omega
    clear P Q r hn;go_wp2_with fail;have q6: ∀ob,(w6.alloc ob).cell? ⟨M.heap.size,6,none⟩=some (.string ⟨o.toArray⟩):=λob=>((aa (λ_=>False) w6 ob).cell (p:=⟨M.heap.size,6,none⟩) i (λh=>h)).trans c6
    have q7: ∀ob,(w6.alloc ob).cell? ⟨M.heap.size,7,none⟩=some (.int .i64 e):=λob=>((aa (λ_=>False) w6 ob).cell (p:=⟨M.heap.size,7,none⟩) i (λh=>h)).trans c7
    go_quiet (fail)
    go_wp2_with fail;exact cA (v:= .tuple #[.string ⟨o.toArray⟩,.int .i64 0,.int .i64 e]) (by simp[results,results50,go_sem]) rfl ⟨rfl,(J.trans (aa _ _ _)).trans (aH _ _ _)⟩
   |ok v l2 s2=>
    rw[hn]at B j r;simp only at j;subst j;obtain⟨rfl,f0,f2,Z⟩:=B;obtain⟨y1,y2,y3,y4,y5⟩:=r;obtain⟨n,rfl,f3,f4⟩:=(y1.sub L.wf.cls L.cls4 y3.ht e8 (by decide)).int (by decide);simp only[cW];have c7:=Z.wk.c7;have c6:=Z.wk.c6;have i:=Z.blt;clear P Q hn y1;go_wp2_with fail;have q6: ∀ob,(w6.alloc ob).cell? ⟨M.heap.size,6,none⟩=some (.string ⟨s2.out.toArray⟩):=λob=>((aa (λ_=>False) w6 ob).cell (p:=⟨M.heap.size,6,none⟩) i (λh=>h)).trans c6
    go_quiet (fail)
    go_wp2_with fail;exact cA (v:= .tuple #[.string ⟨s2.out.toArray⟩,.int .i64 n,.int .i64 0]) (by simp[results,results50,go_sem,V.N]) rfl ⟨rfl,(J.trans (aa _ _ _)).trans (aH _ _ _)⟩
  .have b:RR=([],0,(dA s).1):=by
    rw[<-g];unfold gU;rw[if_neg X]
    cases hl:cO s with
    |error e=>simp only;rw[show dA s=e from by simp[dA,hl]]
    |ok im=>simp only[hsc,if_false]
   subst b;obtain⟨E,hE⟩: ∃E,dA s=E:=⟨_,rfl⟩;have G:=hid (oU s);rw[hE]at G hsc⊢;obtain⟨e,p⟩:=E;simp only at G hsc⊢;have he:((e:Int)!=0)=true:=by rw[bne_iff_ne];omega
   clear hE hsc g X
   go_in
   go_wp2_with fail;refine(O.out w).mono ?_;rintro en w1 ⟨rfl,l⟩;go_wp2_with fail;refine(G.out w1 hmax).mono ?_;rintro en w2 ⟨rfl,C⟩;go_wp2_with fail;exact cA (v:= .tuple #[.string ⟨#[]⟩,.int .i64 0,.int .i64 e]) (by simp[results,results50,go_sem]) rfl ⟨rfl,l.trans C⟩
end
end Go.Proofs.YtpfkkmacakjmbaaGreatDoor
