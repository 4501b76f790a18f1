import Derived.Test.YtpfkkmacakjmbaaGreatDoorP27
set_option maxRecDepth 100000
set_option maxHeartbeats 6400000
set_option linter.all false
namespace Go.Proofs.YtpfkkmacakjmbaaGreatDoor
open Proofs.Tryz
section
open Go Go.RowKit Sp
theorem xB {a:Nat} (h:a<100):(UInt8.ofNat (65+a)).toNat=65+a:=by simp;omega
theorem uS {cs:List Cls} (hn:cs.length<=4) {a:Nat} (ha:a<cs.length):cQ (cs.map toX) (UInt8.ofNat (65+a))=bJ cs a:=by
 have h1:=xB (a:=a) (by omega);have h2:aN cs.length (UInt8.ofNat (65+a))=true:=by simp[aN];omega
 unfold cQ;rw[cP,h2,if_pos rfl,h1,show 65+a-65=a from by omega];simp[bJ,toX,Option.map_map,Function.comp_def]
end
section
open Go Go.RowKit Sp
attribute [local go_sem ↓] dG dH
structure FrS (P:Nat->Prop) (w0 w:World) (im:Img) (b:Bod) (bf d:Nat) (X:bM) (vl vi:Value) (bl:Nat):Prop where
 fr:FrB w bf d X vl vi bl
 pf:P bf
 bd:DE w0 im.zj b X vl vi
theorem NB.drew {w X:World} (h:NB w X):NB w X.drew:=⟨h.but.trans (aD _ _),λk a b=>h.nb k a b⟩
section
variable {P:Nat->Prop} {w0 w w1 X:World} {be bw tx bl:Nat} {inp:ByteArray} {s:Ev} {lv vo vb:Value} {l:List V} {gs:List Nat} {fv:List Value} {im:Img} {b:Bod} {bf d:Nat} {Xb:bM} {vl vi:Value}
theorem FrS.but (h:FrS P w0 w im b bf d Xb vl vi bl) (hB:But (FrQ P w0) w w1):FrS P w0 w1 im b bf d Xb vl vi bl:=⟨h.fr.but hB (λhf=>hf.2 h.pf),h.pf,h.bd⟩
theorem FrS.grown (h:FrS P w0 w im b bf d Xb vl vi bl) (hN:NB w X):FrS (PQ P w X) w0 X im b bf d Xb vl vi bl:=⟨h.fr.but hN.but (λh=>h),Or.inl h.pf,h.bd⟩
theorem FrS.cells (h:FrS P w0 w im b bf d Xb vl vi bl):w.cell? ⟨bf,0,none⟩=some (.int .i64 d)/\w.cell? ⟨bf,1,none⟩=some (.int .u8 Xb.cls.toNat)/\w.cell? ⟨bf,2,none⟩=some (.int .i64 Xb.meth)/\w.cell? ⟨bf,3,none⟩=some (.int .u8 Xb.ans.toNat)/\w.cell? ⟨bf,4,none⟩=some vl/\w.cell? ⟨bf,5,none⟩=some vi/\w.cell? ⟨bf,6,none⟩=some (.pointer (some ⟨bl,0,none⟩))/\bf<w.heap.size:=by
 have hf:=h.fr;unfold FrB at hf;exact⟨by rw[aX w bf 0 _ _ (0,0) hf];rfl,by rw[aX w bf 1 _ _ (0,0) hf];rfl,by rw[aX w bf 2 _ _ (0,0) hf];rfl,by rw[aX w bf 3 _ _ (0,0) hf];rfl,by rw[aX w bf 4 _ _ (0,0) hf];rfl,by rw[aX w bf 5 _ _ (0,0) hf];rfl,by rw[aX w bf 6 _ _ (0,0) hf];rfl,ae hf⟩
theorem ReV.pass {r:R} {en:Ending} (hN:NB w X) (h0:w0.heap.size<=w.heap.size) (h:ReV (PQ P w X) w0 X be bw tx inp bl lv r en w1):
  ∃K N e:Int,en= .returned (.tuple #[.agg #[.int .i32 K,.int .i64 N],.int .i64 e])/\ ∀r0,w.heap.size<=r0->eK X r0->eK w1 r0/\ReV P w0 w be bw tx inp bl lv r (.returned (.tuple #[.agg #[.int .i32 K,.int .i64 N],.int .i64 e])) ((w1.setCell ⟨r0,0,none⟩ (.int .i32 K)).setCell ⟨r0,1,none⟩ (.int .i64 N)):=by
 obtain⟨hB,vo,vb,gs,fv,h⟩:=h
 cases r with
 |ok u l s=>
  obtain⟨rfl,hs⟩:=h;refine⟨xN u,xO u,0,rfl,λr0 hr hx=> ?_⟩;obtain⟨a,b,c⟩:=StQ.fin hN h0 hs hB hr hx (xN u) (xO u);exact⟨a,b,vo,vb,gs,fv,rfl,c⟩
 |bad e o=>
  obtain⟨rfl,s,l,ho,hs⟩:=h;refine⟨0,0,cD e,rfl,λr0 hr hx=> ?_⟩;obtain⟨a,b,c⟩:=StQ.fin hN h0 hs hB hr hx 0 0;exact⟨a,b,vo,vb,gs,fv,rfl,s,l,ho,c⟩
structure DoW (w W:World) (pl op n pn pc:Nat) (c:UInt8) (pa:Option Addr) (u v:V):Prop where
 nb:NB w W
 b0:W.heap[w.heap.size]?=some (.cells #[.int .i64 pl,.int .u8 op,.int .u8 c.toNat,.int .i64 n,.slice pa pn pc] 219)
 b1:W.heap[w.heap.size+1]?=some (.cells #[.int .i32 (xN u),.int .i64 (xO u)] 168)
 b2:W.heap[w.heap.size+1+1]?=some (.cells #[.int .i32 (xN v),.int .i64 (xO v)] 168)
 b3:W.heap[w.heap.size+1+1+1]?=some (.cells #[.int .i32 0,.int .i64 0] 168)
 sz:W.heap.size=w.heap.size+1+1+1+1
theorem doW {pl op n pn pc:Nat} {c:UInt8} {pa:Option Addr} {u v:V}:DoW w ((((w.alloc (.cells #[.int .i64 pl,.int .u8 op,.int .u8 c.toNat,.int .i64 n,.slice pa pn pc] 219)).alloc (.cells #[.int .i32 (xN u),.int .i64 (xO u)] 168)).alloc (.cells #[.int .i32 (xN v),.int .i64 (xO v)] 168)).alloc (.cells #[.int .i32 0,.int .i64 0] 168)) pl op n pn pc c pa u v:=by
 refine⟨uP,?_,?_,?_,aB (by simp) _,by simp⟩
 .exact((((ag (λ_=>False) _ _).trans (ag _ _ _)).trans (ag _ _ _)).block _ (by simp) (λh=>h)).trans (aO w _)
 .exact(((ag (λ_=>False) _ _).trans (ag _ _ _)).block _ (by simp) (λh=>h)).trans (aB (by simp) _)
 .exact((ag (λ_=>False) _ _).block _ (by simp) (λh=>h)).trans (aB (by simp) _)
section
variable {W:World} {pl op n pn pc:Nat} {c:UInt8} {pa:Option Addr} {u v:V}
theorem DoW.item (h:DoW w W pl op n pn pc c pa u v):W.cell? ⟨w.heap.size,0,none⟩=some (.int .i64 pl)/\W.cell? ⟨w.heap.size,1,none⟩=some (.int .u8 op)/\W.cell? ⟨w.heap.size,2,none⟩=some (.int .u8 c.toNat)/\W.cell? ⟨w.heap.size,3,none⟩=some (.int .i64 n)/\W.cell? ⟨w.heap.size,4,none⟩=some (.slice pa pn pc):=
 ⟨by rw[aX W _ 0 _ _ (0,0) h.b0];rfl,by rw[aX W _ 1 _ _ (0,0) h.b0];rfl,by rw[aX W _ 2 _ _ (0,0) h.b0];rfl,by rw[aX W _ 3 _ _ (0,0) h.b0];rfl,by rw[aX W _ 4 _ _ (0,0) h.b0];rfl⟩
theorem DoW.vals (h:DoW w W pl op n pn pc c pa u v):W.cell? ⟨w.heap.size+1,0,none⟩=some (.int .i32 (xN u))/\W.cell? ⟨w.heap.size+1,1,none⟩=some (.int .i64 (xO u))/\W.cell? ⟨w.heap.size+1+1,0,none⟩=some (.int .i32 (xN v))/\W.cell? ⟨w.heap.size+1+1,1,none⟩=some (.int .i64 (xO v)):=
 ⟨by rw[aX W _ 0 _ _ (0,0) h.b1];rfl,by rw[aX W _ 1 _ _ (0,0) h.b1];rfl,by rw[aX W _ 0 _ _ (0,0) h.b2];rfl,by rw[aX W _ 1 _ _ (0,0) h.b2];rfl⟩
end
theorem qd (h:StQ P w0 w be bw tx inp s bl lv l vo vb gs fv) (u v:V) (pl op n pn pc:Nat) (c:UInt8) (pa:Option Addr) (r:R) (n1:op≠44) (n2:op≠108) (n3:op≠115) (n4:op≠99)
  (HD: ∀X,NB w X->Calls prog 197 #[.pointer (some ⟨bw,0,none⟩),.agg #[.int .i64 pl,.int .u8 op,.int .u8 c.toNat,.int .i64 n,.slice pa pn pc],bW u,bW v] X (ReV (PQ P w X) w0 X be bw tx inp bl lv r)):
  Calls prog 156 #[.pointer (some ⟨be,0,none⟩),.pointer (some ⟨bf,0,none⟩),.agg #[.int .i64 pl,.int .u8 op,.int .u8 c.toNat,.int .i64 n,.slice pa pn pc],bW u,bW v] w (ReV P w0 w be bw tx inp bl lv r):=by
 have HC:=hid HD;have h0:=h.old.size;have e1:=h.ev.c1;have a7:=h.ev.lt;have t1:((op:Int)==44)=false:=tsf (k:=44) n1;have t2:((op:Int)==108)=false:=tsf (k:=108) n2;have t3:((op:Int)==115)=false:=tsf (k:=115) n3;have t4:((op:Int)==99)=false:=tsf (k:=99) n4;have a1:=hid (doW (w:=w) (pl:=pl) (op:=op) (n:=n) (pn:=pn) (pc:=pc) (c:=c) (pa:=pa) (u:=u) (v:=v));clear HD n1 n2 n3 n4;unfold bW at*
 go_in
 go_wp2_with fail;revert a1;generalize ((((w.alloc (.cells #[.int .i64 pl,.int .u8 op,.int .u8 c.toNat,.int .i64 n,.slice pa pn pc] 219)).alloc (.cells #[.int .i32 (xN u),.int .i64 (xO u)] 168)).alloc (.cells #[.int .i32 (xN v),.int .i64 (xO v)] 168)).alloc (.cells #[.int .i32 0,.int .i64 0] 168))=W;intro a1;have hD:=a1.out;obtain⟨i0,i1,i2,i3,i4⟩:=hD.item;obtain⟨v0,v1,v2,v3⟩:=hD.vals;have b1:=hD.sz;have hN:=hD.nb;have e1W:=hN.but.kc e1 a7;have a8:eK W (w.heap.size+1+1+1):=⟨0,0,hD.b3⟩;have a6:=h.k1;clear a1 hD h e1;have a2:B_ W W.drew:=aD _ _;have m0:w.heap.size<W.heap.size:=by omega
 have m1:w.heap.size+1<W.heap.size:=by omega
 have m2:w.heap.size+1+1<W.heap.size:=by omega
 have m3:be<W.heap.size:=by omega
 refine aI (B_ W) 7 ?_
 iterate 7 (refine gL (v:=?_) rfl a2 ?_ ?_;rotate_left;(focus (intro wS h;have q0:=(h.kc e1W m3);have q1:=(h.kc i0 m0);have q2:=(h.kc i1 m0);have q3:=(h.kc i2 m0);have q4:=(h.kc i3 m0);have q5:=(h.kc i4 m0);have q6:=(h.kc v0 m1);have q7:=(h.kc v1 m1);have q8:=(h.kc v2 m2);have q9:=(h.kc v3 m2);clear h;go_simp;try rfl));dsimp only[Act.put];try simp only[cH])
 refine az rfl ?_;intro KS hKS;go_simp;refine(HC.out _ (hN.drew)).mono ?_;intro en w1 a5;obtain⟨K,N,e,rfl,a0⟩:=ReV.pass hN.drew h0 a5;refine hKS.out _ _ nofun ?_;clear hKS KS
 iterate 2 (refine o7 (v:=?_) rfl ?_ ?_;rotate_left;(focus (intro wS;go_simp;try rfl));dsimp only[Act.put];try simp only[cH])
 obtain⟨a4,a3⟩:=a0 (w.heap.size+1+1+1) (by omega) (a8.but a2 (λh=>h));obtain⟨K9,N9,r0,r1,z0,z1,b0⟩:=a4.parts;have HF:=hid a3;clear a3 a0 a5 HC i0 i1 i2 i3 i4 v0 v1 v2 v3 e1W a2;refine iC rfl ?_;go_wp2_with fail;exact gC results156 rfl rfl rfl (a4.put _ _) HF.out
theorem zn (h:StQ P w0 w be bw tx inp s bl lv l vo vb gs fv) (hF:FrS P w0 w im b bf d Xb vl vi bl) (u v:V) (pl n pn pc:Nat) (c:UInt8) (pa:Option Addr):
  Calls prog 156 #[.pointer (some ⟨be,0,none⟩),.pointer (some ⟨bf,0,none⟩),.agg #[.int .i64 pl,.int .u8 44,.int .u8 c.toNat,.int .i64 n,.slice pa pn pc],bW u,bW v] w (ReV P w0 w be bw tx inp bl lv (.ok v l s)):=by
 have HH:=hid h;clear h hF;unfold bW at*
 go_in
 go_wp2_with fail;exact gC results156 rfl rfl rfl (aB (by simp) _) ⟨uP.but.mono (λ_ _ h=>h.elim),vo,vb,gs,fv,rfl,HH.out.new uP.but⟩
theorem Eo (h:StQ P w0 w be bw tx inp s bl lv l vo vb gs fv) (hF:FrS P w0 w im b bf d Xb vl vi bl) (u v:V) (pl n pn pc:Nat) (c:UInt8) (pa:Option Addr) (q:V) (hq:l[n]?=some q):
  Calls prog 156 #[.pointer (some ⟨be,0,none⟩),.pointer (some ⟨bf,0,none⟩),.agg #[.int .i64 pl,.int .u8 108,.int .u8 c.toNat,.int .i64 n,.slice pa pn pc],bW u,bW v] w (ReV P w0 w be bw tx inp bl lv (.ok q l s)):=by
 have a0:=hid (doW (w:=w) (pl:=pl) (op:=108) (n:=n) (pn:=pn) (pc:=pc) (c:=c) (pa:=pa) (u:=u) (v:=v));rw[show((108:Nat):Int)=108 from rfl]at a0;obtain⟨_,_,_,_,_,_,c6,a3⟩:=hF.cells;have HC:=hid (λX (hX:B_ w X)=>Cw (h.new hX) n q hq);have HH:=hid h;clear h hF hq;unfold bW at*
 go_in
 go_wp2_with fail;revert a0;generalize ((((w.alloc (.cells #[.int .i64 pl,.int .u8 108,.int .u8 c.toNat,.int .i64 n,.slice pa pn pc] 219)).alloc (.cells #[.int .i32 (xN u),.int .i64 (xO u)] 168)).alloc (.cells #[.int .i32 (xN v),.int .i64 (xO v)] 168)).alloc (.cells #[.int .i32 0,.int .i64 0] 168))=W;intro a0;have hD:=a0.out;obtain⟨i0,i1,i2,i3,i4⟩:=hD.item;have a7:=hD.sz;have hN:=hD.nb;have c6W:=hN.but.kc c6 a3;have a5:eK W (w.heap.size+1+1+1):=⟨0,0,hD.b3⟩;clear a0 hD c6 i0 i1 i2 i4;have a1:B_ W W.drew:=aD _ _;have m0:w.heap.size<W.heap.size:=by omega
 have m3:bf<W.heap.size:=by omega
 refine aI (B_ W) 6 ?_
 iterate 6 (refine gL (v:=?_) rfl a1 ?_ ?_;rotate_left;(focus (intro wS h;have q0:=(h.kc c6W m3);have q1:=(h.kc i3 m0);clear h;go_simp;try rfl));dsimp only[Act.put];try simp only[cH])
 refine az rfl ?_;intro KS hKS;go_simp;refine(HC.out _ (hN.but.trans a1)).mono ?_;rintro en w1 ⟨rfl,a2⟩;refine hKS.out _ _ nofun ?_;clear hKS KS HC;have HF:=hid (λa b=>HH.out.fin0 hN (a1.trans a2) (r:=w.heap.size+1+1+1) (by omega) a5 a b);obtain⟨K9,N9,r0,r1,z0,z1,a6⟩:=(HF.out 0 0).1.parts;have a4:=(HF.out 0 0).1;clear HH i3 c6W a1;refine iC rfl ?_;go_wp2_with fail;exact gC results156 rfl rfl rfl (a4.put _ _) ⟨(HF.out _ _).2.1,_,_,_,_,rfl,(HF.out _ _).2.2⟩
theorem Ep (h:StQ P w0 w be bw tx inp s bl lv l vo vb gs fv) (hF:FrS P w0 w im b bf d Xb vl vi bl) (u v:V) (pl n pn pc:Nat) (c:UInt8) (pa:Option Addr) (hn:n<l.length):
  Calls prog 156 #[.pointer (some ⟨be,0,none⟩),.pointer (some ⟨bf,0,none⟩),.agg #[.int .i64 pl,.int .u8 115,.int .u8 c.toNat,.int .i64 n,.slice pa pn pc],bW u,bW v] w (ReV P w0 w be bw tx inp bl lv (.ok (.i 0) (l.set n u) s)):=by
 have a0:=hid (doW (w:=w) (pl:=pl) (op:=115) (n:=n) (pn:=pn) (pc:=pc) (c:=c) (pa:=pa) (u:=u) (v:=v));rw[show((115:Nat):Int)=115 from rfl]at a0;obtain⟨_,_,_,_,_,_,c6,a4⟩:=hF.cells;have HC:=hid (λX (hX:NB w X)=>Cx (h.grown hX) n u hn);have h0:=h.old.size;clear h hF hn;unfold bW at*
 go_in
 go_wp2_with fail;revert a0;generalize ((((w.alloc (.cells #[.int .i64 pl,.int .u8 115,.int .u8 c.toNat,.int .i64 n,.slice pa pn pc] 219)).alloc (.cells #[.int .i32 (xN u),.int .i64 (xO u)] 168)).alloc (.cells #[.int .i32 (xN v),.int .i64 (xO v)] 168)).alloc (.cells #[.int .i32 0,.int .i64 0] 168))=W;intro a0;have hD:=a0.out;obtain⟨i0,i1,i2,i3,i4⟩:=hD.item;obtain⟨v0,v1,v2,v3⟩:=hD.vals;have a8:=hD.sz;have hN:=hD.nb;have c6W:=hN.but.kc c6 a4;have a6:eK W (w.heap.size+1+1+1):=⟨0,0,hD.b3⟩;clear a0 hD c6 i0 i1 i2 i4 v2 v3;have a1:B_ W W.drew:=aD _ _;have m0:w.heap.size<W.heap.size:=by omega
 have m1:w.heap.size+1<W.heap.size:=by omega
 have m3:bf<W.heap.size:=by omega
 refine aI (B_ W) 7 ?_
 iterate 7 (refine gL (v:=?_) rfl a1 ?_ ?_;rotate_left;(focus (intro wS h;have q0:=(h.kc c6W m3);have q1:=(h.kc i3 m0);have q2:=(h.kc v0 m1);have q3:=(h.kc v1 m1);clear h;go_simp;try rfl));dsimp only[Act.put];try simp only[cH])
 refine az rfl ?_;intro KS hKS;go_simp;refine(HC.out _ hN.drew).mono ?_;rintro en w1 ⟨rfl,a2,a3⟩;refine hKS.out _ _ nofun ?_;clear hKS KS HC;refine aR rfl ?_;have HF:=hid (λa b=>StQ.fin hN.drew h0 a3 a2 (r:=w.heap.size+1+1+1) (by omega) (a6.but a1 (λh=>h)) a b);obtain⟨K9,N9,r0,r1,z0,z1,a7⟩:=(HF.out 0 0).1.parts;have a5:=(HF.out 0 0).1;clear i3 c6W a1 v0 v1 a3 a2;go_wp2_with fail;exact gC results156 rfl rfl rfl (a5.put _ _) ⟨(HF.out _ _).2.1,_,_,_,_,rfl,(HF.out _ _).2.2⟩
end
section
variable {P:Nat->Prop} {w0 w:World} {be bw tx bl:Nat} {inp:ByteArray} {s:Ev} {lv vo vb:Value} {l:List V} {gs:List Nat} {fv:List Value}
theorem StQ.add (h:StQ P w0 w be bw tx inp s bl lv l vo vb gs fv) {k:Nat} {c:Array Value} {fz:Nat×Nat} (hk:w.heap[k]?=some (.cells c 234 fz)):StQ (λj=>P j\/j=k) w0 w be bw tx inp s bl lv l vo vb gs fv:=by
 refine⟨h.old,h.ev,h.wd,h.out,h.ob,h.lg,h.lf,h.obs,h.nd,h.lb,h.lo,λj hj=>⟨(h.own j hj).1,λhp=> ?_⟩,λj hj=> ?_,h.sl,h.sf⟩
 .obtain hp|rfl:=hp
  .exact(h.own j hj).2 hp
  .obtain rfl|rfl|rfl|hj|hj|hj|hj| ⟨v,hv,hj⟩:=hj
   .exact cE h.ev hk (by decide) rfl
   .exact cE h.wd hk (by decide) rfl
   .exact cE h.lb hk (by decide) rfl
   .exact aL h.out hk (by decide) hj
   .exact aL h.ob hk (by decide) hj
   .exact aL h.lo hk (by decide) hj
   .obtain⟨c',v',ho⟩:=h.mg hj;exact cE ho hk (by decide) rfl
   .obtain⟨n',xs,ho⟩:=h.mv hv;exact aL ho hk (by decide) hj
 .obtain hj|rfl:=hj
  .exact h.pl j hj
  .exact⟨ae hk,λc' fz' e=>by rw[hk]at e;injection e with e;injection e with _ h2;exact absurd h2 (by decide)⟩
end
def nw (im:Img) (inp:ByteArray) (w0:World) (be bw tx f:Nat):Prop:=
 ∀(b:Bod) (d i:Nat) (l:List V) (s:Ev) (t:UInt8) (F B:Nat) (P:Nat->Prop) (w:World) (bl:Nat) (lv vo vb:Value) (gs:List Nat) (fv:List Value) (bf:Nat) (X:bM) (vl vi:Value),b∈im.zq->d<=12->cS im.zz im.zj b.locals b.code F i=some t->LT im.zz s.heap b.locals l->StT im B s->s.left<=f->StQ P w0 w be bw tx inp s bl lv l vo vb gs fv->FrS P w0 w im b bf d X vl vi bl->
  Calls prog 93 #[.pointer (some ⟨be,0,none⟩),.pointer (some ⟨bf,0,none⟩),.int .i64 i] w (ReV P w0 w be bw tx inp bl lv (cL im inp f b d i l s))
end
section
open Go Go.RowKit Sp
def PL (P:Nat->Prop) (be bl:Nat) (lv:Value) (k:Nat):Prop:=P k\/k=be\/k=bl\/lv.ownBlock=some k
def C3 (l:List V) (s:Ev):R->Prop
 | .ok _ l' s'=>l'=l/\s'.left=s.left
 | .bad _ _=>True
section
variable {P:Nat->Prop} {w0 w w':World} {be bw tx bl:Nat} {inp:ByteArray} {s s':Ev} {lv vo vb:Value} {l:List V} {gs:List Nat} {fv:List Value}
theorem StQ.wq (h:StQ P w0 w be bw tx inp s bl lv l vo vb gs fv):WdQ (PL P be bl lv) w0 w bw tx inp s vo vb gs fv 0 (λ_=>0):=by
 refine⟨h.old,h.wd,h.out,h.ob,h.lg,h.lf,h.obs,h.nd,λk hk=> ?_,λk hk=> ?_,h.sf,Int.le_refl _,λk=>⟨Int.le_refl _,Int.le_refl _⟩⟩
 .have hq:Bd be bw bl vo vb lv gs fv k:=by
   obtain e|e|e|e|e:=hk
   .exact Or.inr (Or.inl e)
   .exact Or.inr (Or.inr (Or.inr (Or.inl e)))
   .exact Or.inr (Or.inr (Or.inr (Or.inr (Or.inl e))))
   .exact Or.inr (Or.inr (Or.inr (Or.inr (Or.inr (Or.inr (Or.inl e))))))
   .exact Or.inr (Or.inr (Or.inr (Or.inr (Or.inr (Or.inr (Or.inr e))))))
  refine⟨(h.own k hq).1,λhp=> ?_⟩
  have no: ∀{c:Array Value} {t:TypeId},w.heap[k]?=some (.cells c t)->t≠211->t≠5->t≠315->t≠318->t≠168->False:=λhc t1 t2 t3 t4 t5=>by
   obtain e|e|e|e| ⟨v,hv,e⟩:=hk
   .exact cE hc h.wd (Ne.symm t1) e
   .exact aL h.out hc (Ne.symm t2) e
   .exact aL h.ob hc (Ne.symm t3) e
   .obtain⟨_,_,ho⟩:=h.mg e;exact cE ho hc t4 rfl
   .obtain⟨_,_,ho⟩:=h.mv hv;exact aL ho hc (Ne.symm t5) e
  obtain hp|rfl|rfl|hp:=hp
  .exact(h.own k hq).2 hp
  .exact no h.ev (by decide) (by decide) (by decide) (by decide) (by decide)
  .exact no h.lb (by decide) (by decide) (by decide) (by decide) (by decide)
  .obtain e|e|e|e| ⟨v,hv,e⟩:=hk
   .exact aL h.lo h.wd (by decide) (e▸hp)
   .exact d7 h.lo h.out (by decide) hp e
   .exact d7 h.lo h.ob (by decide) hp e
   .obtain⟨_,_,ho⟩:=h.mg e;exact aL h.lo ho (by decide) hp
   .exact h.sl v hv k e hp
 .obtain hp|rfl|rfl|hp:=hk
  .exact h.pl k hp
  .exact⟨ae h.ev,λc fz e=>cE h.ev e (by decide) rfl⟩
  .exact⟨ae h.lb,λc fz e=>cE h.lb e (by decide) rfl⟩
  .exact⟨aW h.lo k hp,λc fz e=>aL h.lo e (by decide) hp⟩
theorem StQ.ofW {vo' vb':Value} {gs':List Nat} {fv':List Value} {sn:Nat->Int} (h:StQ P w0 w be bw tx inp s bl lv l vo vb gs fv) (hB:But (FrQ (PL P be bl lv) w0) w w') (hw:WdQ (PL P be bl lv) w0 w' bw tx inp s' vo' vb' gs' fv' 0 sn) (hs:s'.left=s.left):StQ P w0 w' be bw tx inp s' bl lv l vo' vb' gs' fv':=by
 have o:=h.own;refine⟨hw.old,hs▸h.ev.but hB (λe=>e.2 (Or.inr (Or.inl rfl))),hw.wd,hw.out,hw.ob,hw.lg,hw.lf,λk o g v a b c=> ?_,hw.nd,(hB.block bl (ae h.lb) (λe=>e.2 (Or.inr (Or.inr (Or.inl rfl))))).trans h.lb,aj h.lo hB (λg hg e=>e.2 (Or.inr (Or.inr (Or.inr hg)))),λk hk=> ?_,λk hk=>hw.pl k (Or.inl hk),λv hv g hg e=>(hw.k8 hv hg).2 (Or.inr (Or.inr (Or.inr e))),hw.sf⟩
 .have h1:=hw.obs k o g v a b c;have h2:=hw.se.2 k;have h3:sn k=0:=by omega
  rw[h3]at h1;exact h1
 .obtain e|e|e|e|e|e|e|e:=hk
  .exact o k (Or.inl e)
  .exact⟨(hw.own k (Or.inl e)).1,λhp=>(hw.own k (Or.inl e)).2 (Or.inl hp)⟩
  .exact o k (Or.inr (Or.inr (Or.inl e)))
  .exact⟨(hw.k4 e).1,λhp=>(hw.k4 e).2 (Or.inl hp)⟩
  .exact⟨(hw.k5 e).1,λhp=>(hw.k5 e).2 (Or.inl hp)⟩
  .exact o k (Or.inr (Or.inr (Or.inr (Or.inr (Or.inr (Or.inl e))))))
  .exact⟨(hw.k7 e).1,λhp=>(hw.k7 e).2 (Or.inl hp)⟩
  .obtain⟨v,hv,e⟩:=e;exact⟨(hw.k8 hv e).1,λhp=>(hw.k8 hv e).2 (Or.inl hp)⟩
theorem DF {f:Nat} {args:Array Value} {r:R} (h:StQ P w0 w be bw tx inp s bl lv l vo vb gs fv) (hr:C3 l s r) (H:Calls prog f args w (ReW (PL P be bl lv) w0 w bw tx inp 0 r)):Calls prog f args w (ReV P w0 w be bw tx inp bl lv r):=by
 refine H.mono ?_;rintro en w' ⟨hB,vo',vb',gs',fv',sn,hm⟩;refine⟨hB.mono (λ_ _ e=>⟨e.1,λhp=>e.2 (Or.inl hp)⟩),vo',vb',gs',fv',?_⟩
 cases r with
 |ok u l' s'=>
  obtain⟨rfl,h2⟩:=hr;exact⟨hm.1,h.ofW hB hm.2 h2⟩
 |bad e o=>
  obtain⟨h1,s',ho,hw⟩:=hm;exact⟨h1,{s' with left:=s.left},l,ho,h.ofW hB (hw.left _) rfl⟩
end
theorem uT {x:Ins} (h:cd x.op=true):(bY x).op.toNat=107/\(bY x).num=x.b:=by simp[bY,h]
theorem ny {x:Ins} (h:58<=x.op.toNat\/x.op.toNat<48):(bY x).op.toNat=x.op.toNat/\(bY x).num=x.b/\(x.op.toNat=110\/x.op.toNat=120\/x.op.toNat=103\/x.op.toNat=112\/x.op.toNat=99->(bY x).cls=UInt8.ofNat (65+x.a)):=by
 have h1:cd x.op=false:=by simp[cd];omega
 simp only[bY,h1,dj,if_false,bP];exact⟨trivial,trivial,λh=>by rw[if_pos h]⟩
section
variable {P:Nat->Prop} {w0 w:World} {be bw tx bl:Nat} {inp:ByteArray} {s:Ev} {lv vo vb:Value} {l:List V} {gs:List Nat} {fv:List Value} {im:Img} {b:Bod} {bf d:Nat} {Xb:bM} {vl vi:Value}
abbrev itN (x:Ins) (pa:Option Addr) (pl pn pc:Nat):Value:= .agg #[.int .i64 pl,.int .u8 (bY x).op.toNat,.int .u8 (bY x).cls.toNat,.int .i64 (bY x).num,.slice pa pn pc]
theorem sN (op:Nat) (a b:Int) (l:List V) (s:Ev):C3 l s (eP op a b l s):=by
 unfold eP
 repeat' split
 all_goals first|exact⟨rfl,rfl⟩ |trivial
end
end
section
open Go Go.RowKit Sp
attribute [local go_sem ↓] dG dH
structure PaW (w W:World) (pl op n pn pc:Nat) (c:UInt8) (pa:Option Addr):Prop where
 nb:NB w W
 b0:W.heap[w.heap.size]?=some (.cells #[.int .i64 pl,.int .u8 op,.int .u8 c.toNat,.int .i64 n,.slice pa pn pc] 219)
 b1:W.heap[w.heap.size+1]?=some (.cells #[.int .i32 0,.int .i64 0] 168)
 sz:W.heap.size=w.heap.size+1+1
theorem paW {w:World} {pl op n pn pc:Nat} {c:UInt8} {pa:Option Addr}:PaW w ((w.alloc (.cells #[.int .i64 pl,.int .u8 op,.int .u8 c.toNat,.int .i64 n,.slice pa pn pc] 219)).alloc (.cells #[.int .i32 0,.int .i64 0] 168)) pl op n pn pc c pa:=
 ⟨((NB.refl w).alloc (by decide)).alloc (by decide),((ag (λ_=>False) _ _).block _ (by simp) (λh=>h)).trans (aO w _),aB (by simp) _,by simp⟩
section
variable {P:Nat->Prop} {w0 w:World} {be bw tx bl:Nat} {inp:ByteArray} {s:Ev} {lv vo vb:Value} {l:List V} {gs:List Nat} {fv:List Value} {im:Img} {b:Bod} {bf d:Nat} {Xb:bM} {vl vi:Value}
theorem zo (h:StQ P w0 w be bw tx inp s bl lv l vo vb gs fv) (pl op n pn pc k:Nat) (c:UInt8) (pa:Option Addr) (hk:pn<=k) (hk3:k<=3):
  Calls prog 155 #[.pointer (some ⟨be,0,none⟩),.pointer (some ⟨bf,0,none⟩),.agg #[.int .i64 pl,.int .u8 op,.int .u8 c.toNat,.int .i64 n,.slice pa pn pc],.int .i64 k] w (ReV P w0 w be bw tx inp bl lv (.ok .z l s)):=by
 have HH:=hid h;have k1: ¬((k:Int)<0):=by omega
 have k2:(pn:Int)<=(k:Int):=by omega
 clear h
 go_in
 go_wp2_with fail;have hP:=paW (w:=w) (pl:=pl) (op:=op) (n:=n) (pn:=pn) (pc:=pc) (c:=c) (pa:=pa);exact gC results155 rfl rfl rfl (aB (by simp) _) ⟨hP.nb.but.mono (λ_ _ h=>h.elim),vo,vb,gs,fv,rfl,HH.out.new hP.nb.but⟩
theorem kv {f B F:Nat} {t:UInt8} (IH:nw im inp w0 be bw tx f) (h:StQ P w0 w be bw tx inp s bl lv l vo vb gs fv) (hF:FrS P w0 w im b bf d Xb vl vi bl) (hbm:b∈im.zq) (hs:StT im B s) (hsf:s.left<=f) (hd:d<=12) (hll:LT im.zz s.heap b.locals l) (ps:List Nat) (hps:ps.length<=3) (k j:Nat) (hk:ps[k]?=some j) (hty:cS im.zz im.zj b.locals b.code F j=some t) (pl op n pn pc:Nat) (c:UInt8) (pa:Option Addr) (hrow:w0.ownsRow 0 3 1 (.slice pa pn pc) ps.length (eJ ps)):
  Calls prog 155 #[.pointer (some ⟨be,0,none⟩),.pointer (some ⟨bf,0,none⟩),.agg #[.int .i64 pl,.int .u8 op,.int .u8 c.toNat,.int .i64 n,.slice pa pn pc],.int .i64 k] w (ReV P w0 w be bw tx inp bl lv (cL im inp f b d j l s)):=by
 have b4:=(bC hk).1;obtain⟨a',cap',a8⟩:=aw hrow;injection a8 with e1 e2 e3;subst e1 e2 e3;obtain⟨g,rfl,a3,b0,a0⟩:=aF hrow (by omega);have q0:w0.cell? ⟨g,k,none⟩=some (.int .i64 j):=a0 _ _ (by simp[eJ,hk]);replace q0:=h.old.kc q0 a3;replace a3:=bq a3 h.old.size;have a2:=hid (paW (w:=w) (pl:=pl) (op:=op) (n:=n) (pn:=ps.length) (pc:=pc) (c:=c) (pa:=some ⟨g,0,none⟩));have HC:=hid (λX (hX:NB w X)=>IH b d j l s t F B _ X bl lv vo vb gs fv bf Xb vl vi hbm hd hty hll hs hsf (h.grown hX) (hF.grown hX));obtain⟨RR,a4⟩: ∃RR,cL im inp f b d j l s=RR:=⟨_,rfl⟩;rw[a4]at HC⊢;have h0:=h.old.size;have k1: ¬((k:Int)<0):=by omega
 have k2: ¬((ps.length:Int)<=(k:Int)):=by omega
 have k3:(k:Int)<(ps.length:Int):=by omega
 have b2:g<w.heap.size+1:=by omega
 have b3:g<w.heap.size+1+1:=by omega
 clear h hF hk hrow a0 a4 hty hll hs;generalize ps.length=np at*
 go_in
 go_wp2_with fail;refine(HC.out _ a2.out.nb).mono ?_;intro en w1 a7;obtain⟨K,N,e,rfl,a1⟩:=ReV.pass a2.out.nb h0 a7;obtain⟨a6,a5⟩:=a1 (w.heap.size+1) (by omega) ⟨0,0,a2.out.b1⟩;obtain⟨K9,N9,r0,r1,z0,z1,b5⟩:=a6.parts;have HF:=hid a5;clear a5 a1 a7 HC a2;go_wp2_with fail;exact gC results155 rfl rfl rfl (a6.put _ _) HF.out
end
def i9:R->(V->List V->Ev->R)->R
 | .bad e o,_=> .bad e o
 | .ok u l s,k=>k u l s
theorem iK {e:Nat} (h1:5<=e) (h2:e<=10):(cD e !=0)=true/\(cD e==0)=false:=by
 have:e=5\/e=6\/e=7\/e=8\/e=9\/e=10:=by omega
 obtain rfl|rfl|rfl|rfl|rfl|rfl:=this<;>decide
theorem Bi {w:World} {r:Nat} {K N:Int} {ob:Obj} (h:eK w r):(((w.setCell ⟨r,0,none⟩ (.int .i32 K)).setCell ⟨r,1,none⟩ (.int .i64 N)).alloc ob).heap[r]?=some (.cells #[.int .i32 K,.int .i64 N] 168):=
 ((ag (λ_=>False) _ _).block r (ae (h.put K N)) (λh=>h)).trans (h.put K N)
section
variable {P:Nat->Prop} {w0 w w1:World} {be bw tx bl:Nat} {inp:ByteArray} {s:Ev} {lv vo vb:Value} {l:List V} {gs:List Nat} {fv:List Value} {im:Img} {b:Bod} {bf d:Nat} {Xb:bM} {vl vi:Value}
theorem ReV.since {r:R} {en:Ending} {w2:World} (hB:But (FrQ P w0) w w1) (h:ReV P w0 w1 be bw tx inp bl lv r en w2):ReV P w0 w be bw tx inp bl lv r en w2:=⟨hB.trans h.1,h.2⟩
theorem wH {f B F:Nat} {t0 t1 t2:UInt8} (hR:eT im) (IH:nw im inp w0 be bw tx f) (h:StQ P w0 w be bw tx inp s bl lv l vo vb gs fv) (hF:FrS P w0 w im b bf d Xb vl vi bl) (hbm:b∈im.zq) (hs:StT im B s) (hsf:s.left<=f) (hd:d<=12) (hll:LT im.zz s.heap b.locals l) (j0 j1 j2:Nat) (g0:cS im.zz im.zj b.locals b.code F j0=some t0) (h105:t0.toNat=105) (g1:cS im.zz im.zj b.locals b.code F j1=some t1) (g2:cS im.zz im.zj b.locals b.code F j2=some t2) (pl op n pn pc:Nat) (c:UInt8) (pa:Option Addr) (hrow:w0.ownsRow 0 3 1 (.slice pa pn pc) 3 (eJ [j0,j1,j2])):
  Calls prog 153 #[.pointer (some ⟨be,0,none⟩),.pointer (some ⟨bf,0,none⟩),.agg #[.int .i64 pl,.int .u8 op,.int .u8 c.toNat,.int .i64 n,.slice pa pn pc]] w (ReV P w0 w be bw tx inp bl lv (i9 (cL im inp f b d j0 l s) (λu l s=>cL im inp f b d (if u.N=0 then j2 else j1) l s))):=by
 have a5:=hid (paW (w:=w) (pl:=pl) (op:=op) (n:=n) (pn:=pn) (pc:=pc) (c:=c) (pa:=pa));have HC:=hid (λX (hX:NB w X)=>kv IH (h.grown hX) (hF.grown hX) hbm hs hsf hd hll [j0,j1,j2] (by simp) 0 j0 rfl g0 pl op n pn pc c pa hrow);have c9:=hid (fJ hR inp f B b d j0 l s t0 F hbm g0 hll hs hsf);obtain⟨RR,d6⟩: ∃RR,i9 (cL im inp f b d j0 l s) (λu l s=>cL im inp f b d (if u.N=0 then j2 else j1) l s)=RR:=⟨_,rfl⟩;rw[d6];have c7:=hid d6;have h0:=h.old.size;have e4:=hid hF;clear h hF d6 hll;rw[show((0:Nat):Int)=0 from rfl]at HC
 go_in
 go_wp2_with fail;revert a5;generalize ((w.alloc (.cells #[.int .i64 pl,.int .u8 op,.int .u8 c.toNat,.int .i64 n,.slice pa pn pc] 219)).alloc (.cells #[.int .i32 0,.int .i64 0] 168))=W;intro a5;have hD:=a5.out;have f0:=hD.sz;have hN:=hD.nb;refine(HC.out W hN).mono ?_;rintro en w1 ⟨a3,f2,f1,e8,e7,hq⟩;clear HC;have a8:=(e4.out.grown hN).but a3;have pI:PQ P w W w.heap.size:=Or.inr ⟨b8 _,by omega⟩;have pR:PQ P w W (w.heap.size+1):=Or.inr ⟨by omega,by omega⟩;have d0:=(a3.block _ (by omega) (λhf=>hf.2 pI)).trans hD.b0;have e9:=ae d0;have b9:eK W (w.heap.size+1):=⟨0,0,hD.b1⟩;have a2:=c9.out;have a1:=c7.out
 cases hn:cL im inp f b d j0 l s with
 |bad e o=>
  rw[hn]at hq a2 a1;obtain⟨rfl,s1,l1,ho,a4⟩:=hq;subst a1;obtain⟨e1,e2⟩:=iK a2.1 a2.2.1;have HF:=hid (λa b=>StQ.fin hN h0 a4 a3 (r:=w.heap.size+1) (by omega) b9 a b);have e0:=b9.but a3 (λhf=>hf.2 pR);obtain⟨K9,N9,r0,r1,z0,z1,e3⟩:=e0.parts;have e6:w.heap.size+1<w1.heap.size+1:=by omega
  clear c9 c7 a2 hn a5 hD d0 a4;go_wp2_with fail;exact gC results153 rfl rfl rfl (Bi e0) ⟨(HF.out _ _).2.1.trans (ag _ _ _),_,_,_,_,rfl,s1,l1,ho,(HF.out _ _).2.2.new (ag _ _ _)⟩
 |ok u l1 s1=>
  rw[hn]at hq a2 a1;obtain⟨rfl,a4⟩:=hq;obtain⟨y1,y2,y3,y4,y5⟩:=a2;obtain⟨m,rfl,m1,m2⟩:=y1.int h105;simp only[i9,V.N]at a1;have b5:s1.left<=f:=by omega
  have b6: ∀ob,But (FrQ (PQ P w W) w0) w1 (w1.alloc ob):=λob=>ag _ _ _
  have a6:=hid (λob=>kv IH (a4.new (ag (λ_=>False) w1 ob)) (a8.but (b6 ob)) hbm y3 b5 hd y2 [j0,j1,j2] (by simp) 1 j1 rfl g1 pl op n pn pc c pa hrow);have a7:=hid (λob=>kv IH (a4.new (ag (λ_=>False) w1 ob)) (a8.but (b6 ob)) hbm y3 b5 hd y2 [j0,j1,j2] (by simp) 2 j2 rfl g2 pl op n pn pc c pa hrow);rw[show((1:Nat):Int)=1 from rfl]at a6;rw[show((2:Nat):Int)=2 from rfl]at a7;have i0:=ce0 d0;have i1:=ce1 d0;have i2:=ce2 d0;have i3:=ce3 d0;have i4:=ce4 d0;clear c9 c7 hn a5 d0 a4 y1;simp only[bW,xN,xO]
  by_cases hm:m=0
  .simp only[hm,if_true]at a1;have e5:(m==0)=true:=by simpa using hm
   rw[a1]at a7;clear a1 a6 hm;go_wp2_with fail;refine(a7.out _).mono ?_;intro en w2 b4;obtain⟨K,N,e,rfl,a0⟩:=ReV.pass hN h0 (b4.since (a3.trans (b6 _)));obtain⟨b3,b2⟩:=a0 (w.heap.size+1) (by omega) b9;obtain⟨K9,N9,r0,r1,z0,z1,e3⟩:=b3.parts;have HF:=hid b2;clear b2 a0 b4 a7 i0 i1 i2 i3 i4;go_wp2_with fail;exact gC results153 rfl rfl rfl (b3.put _ _) HF.out
  .simp only[hm,if_false]at a1;have e5:(m==0)=false:=by simpa using hm
   rw[a1]at a6;clear a1 a7 hm;go_wp2_with fail;refine(a6.out _).mono ?_;intro en w2 b4;obtain⟨K,N,e,rfl,a0⟩:=ReV.pass hN h0 (b4.since (a3.trans (b6 _)));obtain⟨b3,b2⟩:=a0 (w.heap.size+1) (by omega) b9;obtain⟨K9,N9,r0,r1,z0,z1,e3⟩:=b3.parts;have HF:=hid b2;clear b2 a0 b4 a6 i0 i1 i2 i3 i4;go_wp2_with fail;exact gC results153 rfl rfl rfl (b3.put _ _) HF.out
end
def uU (cc dd:List V->Ev->R) (g:Nat) (n:Int) (l:List V) (s:Ev):R:=if n=0 then .ok (.i 0) l s else i9 (dd l s) (λ_ l s=>iN cc dd g l s)
theorem uV {cc dd:List V->Ev->R} {g:Nat} {l l1:List V} {s s1:Ev} {n:Int} (h:cc l s= .ok (.i n) l1 s1):iN cc dd (g+1) l s=uU cc dd g n l1 s1:=by
 simp only[iN,h,uU,V.N]
 by_cases h0:n=0
 .simp[h0]
 .simp only[h0,if_false]
  cases dd l1 s1<;>rfl
def uW (P2:Nat->Prop) (w0:World) (be bw tx:Nat) (inp:ByteArray) (bl:Nat) (lv:Value) (im:Img) (B:Nat) (lo:L_) (cc dd:List V->Ev->R) (RR:R) (r8 mm:Nat) (e9:Int) (wr:World):Prop:=
 (e9=0/\ ∃(g:Nat) (n:Int) (l:List V) (s:Ev) (vo vb:Value) (gs:List Nat) (fv:List Value),wr.heap[r8]?=some (.cells #[.int .i32 n,.int .i64 0] 168)/\StQ P2 w0 wr be bw tx inp s bl lv l vo vb gs fv/\LT im.zz s.heap lo l/\StT im B s/\s.left<=g/\g+1<=mm/\RR=uU cc dd g n l s)\/
 (∃(e:Nat) (o:L_),e9=cD e/\5<=e/\e<=10/\RR= .bad e o/\eK wr r8/\ ∃(s:Ev) (l:List V) (vo vb:Value) (gs:List Nat) (fv:List Value),s.out=o/\StQ P2 w0 wr be bw tx inp s bl lv l vo vb gs fv)
section
variable {P P2:Nat->Prop} {w0 w w1:World} {be bw tx bl:Nat} {inp:ByteArray} {s:Ev} {lv vo vb:Value} {l:List V} {gs:List Nat} {fv:List Value} {im:Img} {b:Bod} {bf d:Nat} {Xb:bM} {vl vi:Value}
theorem FrS.mono (h:FrS P w0 w im b bf d Xb vl vi bl) (hp:P2 bf):FrS P2 w0 w im b bf d Xb vl vi bl:=⟨h.fr,hp,h.bd⟩
theorem StQ.lay (h:StQ P w0 w be bw tx inp s bl lv l vo vb gs fv) {r:Nat} (hp:P r) (h0:w0.heap.size<=r) (hx:eK w r) (K N:Int):StQ P w0 ((w.setCell ⟨r,0,none⟩ (.int .i32 K)).setCell ⟨r,1,none⟩ (.int .i64 N)) be bw tx inp s bl lv l vo vb gs fv:=
 h.tmp (F:=(· =r)) (jt _ _ _ _) (λk e=>by have e:k=r:=e;subst e;exact⟨hp,h0⟩) (λk e c fz he=>by have e:k=r:=e;subst e;rw[hx.put]at he;cases he)
theorem StQ.grown1 {c:Array Value} {t:Nat} (h:StQ P w0 w be bw tx inp s bl lv l vo vb gs fv) (ht:t≠5):StQ (PQ P w (w.alloc (.cells c t))) w0 (w.alloc (.cells c t)) be bw tx inp s bl lv l vo vb gs fv:=h.grown ((NB.refl w).alloc ht)
theorem uW.first {f B F j0:Nat} {t0:UInt8} {dd:List V->Ev->R} {en:Ending} (hR:eT im) (hbm:b∈im.zq) (hs:StT im B s) (hsf:s.left<=f) (hll:LT im.zz s.heap b.locals l) (g0:cS im.zz im.zj b.locals b.code F j0=some t0) (h105:t0.toNat=105) (hre:ReV P w0 w be bw tx inp bl lv (cL im inp f b d j0 l s) en w1):
  ∃K N e:Int,en= .returned (.tuple #[.agg #[.int .i32 K,.int .i64 N],.int .i64 e])/\
   ∀RR,iN (cL im inp f b d j0) dd f l s=RR->uW (PQ P w1 (w1.alloc (.cells #[.int .i32 K,.int .i64 N] 168))) w0 be bw tx inp bl lv im B b.locals (cL im inp f b d j0) dd RR w1.heap.size (f+1) e (w1.alloc (.cells #[.int .i32 K,.int .i64 N] 168)):=by
 obtain⟨hB,vo,vb,gs,fv,hq⟩:=hre;have HT:=fJ hR inp f B b d j0 l s t0 F hbm g0 hll hs hsf
 cases hn:cL im inp f b d j0 l s with
 |bad e o=>
  rw[hn]at hq HT;obtain⟨rfl,s1,l1,ho,a0⟩:=hq;refine⟨_,_,_,rfl,λRR hRR=>Or.inr ⟨e,o,rfl,HT.1,HT.2.1,?_,⟨_,_,aO _ _⟩,s1,l1,vo,vb,gs,fv,ho,a0.grown1 (by decide)⟩⟩;rw[<-hRR];exact ri (λh=>iJ h) hsf hn
 |ok v l1 s1=>
  rw[hn]at hq HT;obtain⟨rfl,a0⟩:=hq;obtain⟨y1,y2,y3,y4,y5⟩:=HT;obtain⟨m,rfl,m1,m2⟩:=y1.int h105
  have a1:0<s.left:=by
   obtain h|h:=Nat.eq_zero_or_pos s.left
   .rw[iJ h]at hn;cases hn
   .exact h
  refine⟨m,0,0,rfl,λRR hRR=>Or.inl ⟨rfl,f-1,m,l1,s1,vo,vb,gs,fv,aO _ _,a0.grown1 (by decide),y2,y3,by omega,by omega,?_⟩⟩;obtain⟨g,rfl⟩: ∃g,f=g+1:=⟨f-1,by omega⟩;rw[<-hRR];exact uV hn
theorem uW.next {f B F j0 g r8 mm:Nat} {t0:UInt8} {dd:List V->Ev->R} {en:Ending} (hR:eT im) (hbm:b∈im.zq) (hs:StT im B s) (hsf:s.left<=g) (hgf:g<=f) (hll:LT im.zz s.heap b.locals l) (g0:cS im.zz im.zj b.locals b.code F j0=some t0) (h105:t0.toNat=105) (hre:ReV P w0 w be bw tx inp bl lv (cL im inp f b d j0 l s) en w1) (hp:P r8) (h0:w0.heap.size<=r8) (hx:eK w1 r8) (hm:g+1<=mm+1):
  ∃K N e:Int,en= .returned (.tuple #[.agg #[.int .i32 K,.int .i64 N],.int .i64 e])/\
   ∀RR,iN (cL im inp f b d j0) dd g l s=RR->uW P w0 be bw tx inp bl lv im B b.locals (cL im inp f b d j0) dd RR r8 mm e ((w1.setCell ⟨r8,0,none⟩ (.int .i32 K)).setCell ⟨r8,1,none⟩ (.int .i64 N)):=by
 obtain⟨hB,vo,vb,gs,fv,hq⟩:=hre;have HT:=fJ hR inp f B b d j0 l s t0 F hbm g0 hll hs (by omega)
 cases hn:cL im inp f b d j0 l s with
 |bad e o=>
  rw[hn]at hq HT;obtain⟨rfl,s1,l1,ho,a0⟩:=hq;refine⟨_,_,_,rfl,λRR hRR=>Or.inr ⟨e,o,rfl,HT.1,HT.2.1,?_,⟨_,_,hx.put _ _⟩,s1,l1,vo,vb,gs,fv,ho,a0.lay hp h0 hx _ _⟩⟩;rw[<-hRR];exact ri (λh=>iJ h) hsf hn
 |ok v l1 s1=>
  rw[hn]at hq HT;obtain⟨rfl,a0⟩:=hq;obtain⟨y1,y2,y3,y4,y5⟩:=HT;obtain⟨m,rfl,m1,m2⟩:=y1.int h105
  have a1:0<s.left:=by
   obtain h|h:=Nat.eq_zero_or_pos s.left
   .rw[iJ h]at hn;cases hn
   .exact h
  refine⟨m,0,0,rfl,λRR hRR=>Or.inl ⟨rfl,g-1,m,l1,s1,vo,vb,gs,fv,hx.put _ _,a0.lay hp h0 hx _ _,y2,y3,by omega,by omega,?_⟩⟩;obtain⟨g',rfl⟩: ∃g',g=g'+1:=⟨g-1,by omega⟩;rw[<-hRR];exact uV hn
theorem wI {f B F:Nat} {t0 t1:UInt8} (hR:eT im) (IH:nw im inp w0 be bw tx f) (h:StQ P w0 w be bw tx inp s bl lv l vo vb gs fv) (hF:FrS P w0 w im b bf d Xb vl vi bl) (hbm:b∈im.zq) (hs:StT im B s) (hsf:s.left<=f) (hd:d<=12) (hll:LT im.zz s.heap b.locals l) (j0 j1:Nat) (g0:cS im.zz im.zj b.locals b.code F j0=some t0) (h105:t0.toNat=105) (g1:cS im.zz im.zj b.locals b.code F j1=some t1) (pl op n pn pc:Nat) (c:UInt8) (pa:Option Addr) (hrow:w0.ownsRow 0 3 1 (.slice pa pn pc) 2 (eJ [j0,j1])):
  Calls prog 154 #[.pointer (some ⟨be,0,none⟩),.pointer (some ⟨bf,0,none⟩),.agg #[.int .i64 pl,.int .u8 op,.int .u8 c.toNat,.int .i64 n,.slice pa pn pc]] w (ReV P w0 w be bw tx inp bl lv (iN (cL im inp f b d j0) (cL im inp f b d j1) f l s)):=by
 have e7:=hid (paW (w:=w) (pl:=pl) (op:=op) (n:=n) (pn:=pn) (pc:=pc) (c:=c) (pa:=pa));have HC:=hid (λX (hX:NB w X)=>kv IH (h.grown hX) (hF.grown hX) hbm hs hsf hd hll [j0,j1] (by simp) 0 j0 rfl g0 pl op n pn pc c pa hrow);obtain⟨RR,a6⟩: ∃RR,iN (cL im inp f b d j0) (cL im inp f b d j1) f l s=RR:=⟨_,rfl⟩;rw[a6];have h0:=h.old.size;have f6:=hid hF;rw[show((0:Nat):Int)=0 from rfl]at HC
 go_in
 go_wp2_with fail;revert e7;generalize ((w.alloc (.cells #[.int .i64 pl,.int .u8 op,.int .u8 c.toNat,.int .i64 n,.slice pa pn pc] 219)).alloc (.cells #[.int .i32 0,.int .i64 0] 168))=W;intro e7;have hD:=e7.out;have m4:=hD.sz;have hN:=hD.nb;refine(HC.out W hN).mono ?_;intro en w1 a7;have c9:=a7.1;obtain⟨K,N,e,rfl,e5⟩:=uW.first hR hbm hs hsf hll g0 h105 a7;have HI:=hid (e5 RR a6);have a3:=f6.out.grown hN;have e4:=a3.but c9;have pI:PQ P w W w.heap.size:=Or.inr ⟨b8 _,by omega⟩;have pR:PQ P w W (w.heap.size+1):=Or.inr ⟨by omega,by omega⟩;have d0:=(c9.block _ (by omega) (λhf=>hf.2 pI)).trans hD.b0
 have f4:eK W (w.heap.size+1):=⟨0,0,hD.b1⟩;have j4:=ae d0;have l6:w.heap.size+1<w1.heap.size:=bq (by omega) c9.size;clear HC f6 e5 a7 a6 h hF e7;go_wp2_with fail;have d6:B_ w1 (w1.alloc (.cells #[.int .i32 K,.int .i64 N] 168)):=ag _ _ _;have f5:(w1.alloc (.cells #[.int .i32 K,.int .i64 N] 168)).heap.size=w1.heap.size+1:=by simp
 revert HI d6 f5;generalize (w1.alloc (.cells #[.int .i32 K,.int .i64 N] 168))=W2;intro HI d6 f5;obtain⟨P2,e8⟩: ∃P2:Nat->Prop,PQ (PQ P w W) w1 W2=P2:=⟨_,rfl⟩;have p1: ∀k,PQ P w W k->P2 k:=λk hk=>by rw[<-e8];exact Or.inl hk
 have p8:P2 w1.heap.size:=by rw[<-e8];exact Or.inr ⟨b8 _,by omega⟩
 rw[e8]at HI;have b3:w0.heap.size<=w1.heap.size:=by omega
 have g7: ∀{X Y:World},But (FrQ P2 w0) X Y->But (FrQ (PQ P w W) w0) X Y:=λh=>h.mono (λk _ hf=>⟨hf.1,λhp=>hf.2 (p1 k hp)⟩)
 have l3: ∀{Y:World},But (FrQ (PQ P w W) w0) W Y->But (FrQ P w0) w Y:=λh=>(hN.but.mono (λ_ _ h=>h.elim)).trans (h.mono (λk _ hf=>⟨hf.1,λhp=>hf.2 (Or.inl hp)⟩))
 have e0:But (FrQ (PQ P w W) w0) W W2:=c9.trans (d6.mono (λ_ _ h=>h.elim));have b2: ∀{Y:World} (a b:Int),But (FrQ (PQ P w W) w0) W Y->But (FrQ (PQ P w W) w0) W ((Y.setCell ⟨w1.heap.size,0,none⟩ (.int .i32 a)).setCell ⟨w1.heap.size,1,none⟩ (.int .i64 b)):=λa b h=>h.next (jt _ _ _ _) (λk hk e=>by have e:k=w1.heap.size:=e;omega)
 have f2:=e4.but (d6.mono (λ_ _ h=>h.elim));have a1:=hid (λ(X:World) (hX:But (FrQ (PQ P w W) w0) W X)=>((a3.but hX).mono (p1 _ a3.pf):FrS P2 w0 X im b bf d Xb vl vi bl));have c7:=hid (λ(X:World) (l:List V) (s:Ev) (vo vb:Value) (gs:List Nat) (fv:List Value) (hq:StQ P2 w0 X be bw tx inp s bl lv l vo vb gs fv) (hFX:FrS P2 w0 X im b bf d Xb vl vi bl) (ht:StT im B s) (hl:s.left<=f) (hll:LT im.zz s.heap b.locals l)=>kv IH hq hFX hbm ht hl hd hll [j0,j1] (by simp) 1 j1 rfl g1 pl op n pn pc c pa hrow);have b9:=hid (λ(X:World) (l:List V) (s:Ev) (vo vb:Value) (gs:List Nat) (fv:List Value) (hq:StQ P2 w0 X be bw tx inp s bl lv l vo vb gs fv) (hFX:FrS P2 w0 X im b bf d Xb vl vi bl) (ht:StT im B s) (hl:s.left<=f) (hll:LT im.zz s.heap b.locals l)=>kv IH hq hFX hbm ht hl hd hll [j0,j1] (by simp) 0 j0 rfl g0 pl op n pn pc c pa hrow)
 rw[show((1:Nat):Int)=1 from rfl]at c7;rw[show((0:Nat):Int)=0 from rfl]at b9;have HD:=hid hD;clear e4 f2 c9 d6 hD d0 hs hsf hll hrow IH e8 a3
 go_loopg [9] (f+1) (λmm v9 wr=> ∃e9:Int,v9= .int .i64 e9/\But (FrQ (PQ P w W) w0) W wr/\mm<=f+1/\Hid (uW P2 w0 be bw tx inp bl lv im B b.locals (cL im inp f b d j0) (cL im inp f b d j1) RR w1.heap.size mm e9 wr))
 case atStart=>exact⟨e,rfl,e0,b8 _,HI⟩
 case round=>
  obtain⟨e9,rfl,b6,l4,HL⟩:=hrel;clear HI e0 f5;have d0:=(b6.block _ (by omega) (λhf=>hf.2 pI)).trans HD.out.b0;have f3:=f4.but b6 (λhf=>hf.2 pR);have j4:=ae d0;obtain⟨Ka,Na,r0,r1,z0,z1,m3⟩:=f3.parts;obtain⟨rfl,g,m,l1,s1,h7,h5,g3,f8,h8,b4,y2,y3,m1,l5,a6⟩ | ⟨e,o,rfl,j2,j3,rfl,h8,s1,l1,h7,h5,g3,f8,ho,b4⟩:=HL.out
  .have a0:=ce0 h8;have m0:=ae h8
   by_cases hm:m=0
   .subst hm;have a4:RR= .ok (.i 0) l1 s1:=by rw[a6];simp[uU]
    subst a4;have HF:=hid (λa b=>StQ.fin hN h0 (b4.less p1) b6 (r:=w.heap.size+1) (by omega) f4 a b);clear a6 HL b4 h8 c7 b9 a1 HD d0;go_wp2_with fail;exact gC results154 rfl rfl rfl (f3.put _ _) ⟨(HF.out _ _).2.1,_,_,_,_,rfl,(HF.out _ _).2.2⟩
   .have a4:RR=i9 (cL im inp f b d j1 l1 s1) (λ_ l s=>iN (cL im inp f b d j0) (cL im inp f b d j1) g l s):=by rw[a6];simp[uU,hm]
    have m2:(m !=0)=true:=by simpa using hm
    have HC:=hid (c7.out wr l1 s1 h7 h5 g3 f8 b4 (a1.out wr b6) y3 (by omega) y2);have f1:=hid (fJ hR inp f B b d j1 l1 s1 t1 F hbm g1 y2 y3 (by omega));have f0:=hid a4;have i5:eK wr w1.heap.size:=⟨_,_,h8⟩;have i0:=ce0 d0;have i1:=ce1 d0;have i2:=ce2 d0;have i3:=ce3 d0;have i4:=ce4 d0;clear a6 a4 HL b4 c7 h8 d0 hm y2 y3 r0 r1 z0 z1;go_wp2_with fail;refine HC.out.mono ?_;rintro en w2 ⟨g6,h9,h6,g4,g2,hq⟩;clear HC i0 i1 i2 i3 i4 a0;have a2:=b6.trans (g7 g6);have b5:=i5.but g6 (λhf=>hf.2 p8);have d0:=(a2.block _ (by omega) (λhf=>hf.2 pI)).trans HD.out.b0;obtain⟨K8,N8,q0,q1,o0,o1,j7⟩:=b5.parts
    have a5:=f1.out;have a8:=f0.out
    cases hn:cL im inp f b d j1 l1 s1 with
    |bad e o=>
     rw[hn]at hq a5 a8;obtain⟨rfl,s2,l2,ho,e6⟩:=hq;obtain⟨e1,e2⟩:=iK a5.1 a5.2.1;have HN:Hid (uW P2 w0 be bw tx inp bl lv im B b.locals (cL im inp f b d j0) (cL im inp f b d j1) RR w1.heap.size g (cD e) ((w2.setCell ⟨w1.heap.size,0,none⟩ (.int .i32 0)).setCell ⟨w1.heap.size,1,none⟩ (.int .i64 0))):=Or.inr ⟨e,o,rfl,a5.1,a5.2.1,a8,⟨_,_,b5.put 0 0⟩,s2,l2,h9,h6,g4,g2,ho,e6.lay p8 b3 b5 0 0⟩;have e3:=b2 0 0 a2;clear e6 f1 f0 a8 a5 hn d0 a2;go_wp2_with fail
     go_roundg g
     case measure=>omega
     case rel=>exact⟨_,rfl,e3,by omega,HN⟩
    |ok u l2 s2=>
     rw[hn]at hq a5 a8;obtain⟨rfl,e6⟩:=hq;obtain⟨x1,x2,x3,x4,x5⟩:=a5;simp only[i9]at a8;have k3: ¬w.heap.size=w1.heap.size:=by omega
     have h1: ¬w1.heap.size=w.heap.size:=by omega
     have e3:=b2 (xN u) (xO u) a2;have h3:=e6.lay p8 b3 b5 (xN u) (xO u);have i7:=(e3.block _ (by omega) (λhf=>hf.2 pI)).trans HD.out.b0;have h4:eK ((w2.setCell ⟨w1.heap.size,0,none⟩ (.int .i32 (xN u))).setCell ⟨w1.heap.size,1,none⟩ (.int .i64 (xO u))) w1.heap.size:=⟨_,_,b5.put _ _⟩;have i0:=ce0 d0;have i1:=ce1 d0;have i2:=ce2 d0;have i3:=ce3 d0;have i4:=ce4 d0;have j5:=ae d0;have HC:=hid (b9.out _ l2 s2 h9 h6 g4 g2 h3 (a1.out _ e3) x3 (by omega) x2);have f7:=hid a8;clear e6 f1 f0 a8 hn d0 a2 h3 b9 a1 i7 x1;simp only[bW];go_wp2_with fail;refine HC.out.mono ?_;intro en w3 a7;have g5:=h4.but a7.1 (λhf=>hf.2 p8)
     obtain⟨K,N,e,rfl,h2⟩:=uW.next (mm:=g) hR hbm x3 (by omega) (by omega) x2 g0 h105 a7 p8 b3 g5 (b8 _);have HN:=hid (h2 RR f7.out.symm);have i6:=b2 K N (e3.trans (g7 a7.1));obtain⟨k9,l0,n1,n2,m5,n0,k0⟩:=g5.parts;clear a7 h2 HC f7 i0 i1 i2 i3 i4 q0 q1 o0 o1 h4 b5;go_wp2_with fail
     go_roundg g
     case measure=>omega
     case rel=>exact⟨_,rfl,i6,by omega,HN⟩
  .obtain⟨e1,e2⟩:=iK j2 j3;have HF:=hid (λa b=>StQ.fin hN h0 (b4.less p1) b6 (r:=w.heap.size+1) (by omega) f4 a b);clear HL b4 h8 c7 b9 a1 HD d0;go_wp2_with fail;exact gC results154 rfl rfl rfl (f3.put _ _) ⟨(HF.out _ _).2.1,_,_,_,_,rfl,s1,l1,ho,(HF.out _ _).2.2⟩
end
end
end Go.Proofs.YtpfkkmacakjmbaaGreatDoor
