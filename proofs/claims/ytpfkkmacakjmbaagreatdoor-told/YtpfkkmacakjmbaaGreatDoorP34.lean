import Derived.Test.YtpfkkmacakjmbaaGreatDoorP33
set_option maxRecDepth 100000
set_option maxHeartbeats 6400000
set_option linter.unusedSimpArgs false
set_option linter.unusedVariables false
namespace Go.Proofs.YtpfkkmacakjmbaaGreatDoor
section
open Go Go.RowKit Sp
attribute [local go_sem ↓] Go.wp_at_zero Go.wp_at_succ
structure PaW (w W:World) (pl op n pn pc:Nat) (c:UInt8) (pa:Option Addr):Prop where
 nb:NB w W
 b0:W.heap[w.heap.size]?=some (.cells #[.int .i64 pl,.int .u8 op,.int .u8 c.toNat,.int .i64 n,.slice pa pn pc] 219)
 b1:W.heap[w.heap.size+1]?=some (.cells #[.int .i32 0,.int .i64 0] 168)
 sz:W.heap.size=w.heap.size+1+1
theorem paW {w:World} {pl op n pn pc:Nat} {c:UInt8} {pa:Option Addr}:PaW w ((w.alloc (.cells #[.int .i64 pl,.int .u8 op,.int .u8 c.toNat,.int .i64 n,.slice pa pn pc] 219)).alloc (.cells #[.int .i32 0,.int .i64 0] 168)) pl op n pn pc c pa:=
 ⟨((NB.refl w).alloc (by decide)).alloc (by decide),((But.alloc (fun _=>False) _ _).block _ (by simp) (fun h=>h)).trans (heap_alloc_new w _),aq (by simp) _,by simp⟩
section
variable {P:Nat→Prop} {w0 w:World} {be bw tx bl:Nat} {inp:ByteArray} {s:Ev} {lv vo vb:Value} {l:List V} {gs:List Nat} {fv:List Value} {im:Img} {b:Bod} {bf d:Nat} {Xb:bu} {vl vi:Value}
theorem wL (h:StQ P w0 w be bw tx inp s bl lv l vo vb gs fv) (pl op n pn pc k:Nat) (c:UInt8) (pa:Option Addr) (hk:pn≤k) (hk3:k≤3):
  Calls Tryz.prog 155 #[.pointer (some ⟨be,0,none⟩),.pointer (some ⟨bf,0,none⟩),.agg #[.int .i64 pl,.int .u8 op,.int .u8 c.toNat,.int .i64 n,.slice pa pn pc],.int .i64 k] w (ReV P w0 w be bw tx inp bl lv (.ok .z l s)):=by
 have HH:=hid h;have k1: ¬((k:Int)<0):=by omega
 have k2:(pn:Int)≤(k:Int):=by omega
 clear h
 go_in
 go_wp2_with fail;have hP:=paW (w:=w) (pl:=pl) (op:=op) (n:=n) (pn:=pn) (pc:=pc) (c:=c) (pa:=pa);exact cV Tryz.results155 rfl rfl rfl (aq (by simp) _) ⟨hP.nb.but.mono (fun _ _ h=>h.elim),vo,vb,gs,fv,rfl,HH.out.new hP.nb.but⟩
theorem iP {f B F:Nat} {t:UInt8} (IH:jF im inp w0 be bw tx f) (h:StQ P w0 w be bw tx inp s bl lv l vo vb gs fv) (hF:FrS P w0 w im b bf d Xb vl vi bl) (hbm:b∈im.bodies) (hs:StT im B s) (hsf:s.left≤f) (hd:d≤12) (hll:LT im.classes s.heap b.locals l) (ps:List Nat) (hps:ps.length≤3) (k j:Nat) (hk:ps[k]?=some j) (hty:bY im.classes im.sigs b.locals b.code F j=some t) (pl op n pn pc:Nat) (c:UInt8) (pa:Option Addr) (hrow:w0.ownsRow 0 3 1 (.slice pa pn pc) ps.length (dM ps)):
  Calls Tryz.prog 155 #[.pointer (some ⟨be,0,none⟩),.pointer (some ⟨bf,0,none⟩),.agg #[.int .i64 pl,.int .u8 op,.int .u8 c.toNat,.int .i64 n,.slice pa pn pc],.int .i64 k] w (ReV P w0 w be bw tx inp bl lv (bJ im inp f b d j l s)):=by
 have b3:=(List.getElem?_eq_some_iff.1 hk).1;obtain⟨a',cap',a8⟩:=aw hrow;injection a8 with e1 e2 e3;subst e1 e2 e3;obtain⟨g,rfl,a3,a9,a0⟩:=aI hrow (by omega);have q0:w0.cell? ⟨g,k,none⟩=some (.int .i64 j):=a0 _ _ (by simp[dM,hk]);replace q0:=h.old.kc q0 a3;replace a3:=Nat.lt_of_lt_of_le a3 h.old.size;have a2:=hid (paW (w:=w) (pl:=pl) (op:=op) (n:=n) (pn:=ps.length) (pc:=pc) (c:=c) (pa:=some ⟨g,0,none⟩));have HC:=hid (fun X (hX:NB w X)=>IH b d j l s t F B _ X bl lv vo vb gs fv bf Xb vl vi hbm hd hty hll hs hsf (h.grown hX) (hF.grown hX));obtain⟨RR,a4⟩: ∃RR,bJ im inp f b d j l s=RR:=⟨_,rfl⟩;rw[a4]at HC⊢
 have h0:=h.old.size;have k1: ¬((k:Int)<0):=by omega
 have k2: ¬((ps.length:Int)≤(k:Int)):=by omega
 have k3:(k:Int)<(ps.length:Int):=by omega
 have b0:g<w.heap.size+1:=by omega
 have b2:g<w.heap.size+1+1:=by omega
 clear h hF hk hrow a0 a4 hty hll hs;generalize ps.length=np at*
 go_in
 go_wp2_with fail;refine(HC.out _ a2.out.nb).mono ?_;intro en w1 a7;obtain⟨K,N,e,rfl,a1⟩:=ReV.pass a2.out.nb h0 a7;obtain⟨a6,a5⟩:=a1 (w.heap.size+1) (by omega) ⟨0,0,a2.out.b1⟩;obtain⟨K9,N9,r0,r1,z0,z1,b4⟩:=a6.parts;have HF:=hid a5;clear a5 a1 a7 HC a2;go_wp2_with fail;exact cV Tryz.results155 rfl rfl rfl (a6.put _ _) HF.out
end
def gj:R→(V→List V→Ev→R)→R
 | .bad e o,_=> .bad e o
 | .ok u l s,k=>k u l s
theorem fK {e:Nat} (h1:5≤e) (h2:e≤10):(bK e !=0)=true∧(bK e==0)=false:=by
 have:e=5∨e=6∨e=7∨e=8∨e=9∨e=10:=by omega
 rcases this with rfl|rfl|rfl|rfl|rfl|rfl<;>decide
theorem yO {w:World} {r:Nat} {K N:Int} {ob:Obj} (h:cQ w r):(((w.setCell ⟨r,0,none⟩ (.int .i32 K)).setCell ⟨r,1,none⟩ (.int .i64 N)).alloc ob).heap[r]?=some (.cells #[.int .i32 K,.int .i64 N] 168):=
 ((But.alloc (fun _=>False) _ _).block r (ae (h.put K N)) (fun h=>h)).trans (h.put K N)
section
variable {P:Nat→Prop} {w0 w w1:World} {be bw tx bl:Nat} {inp:ByteArray} {s:Ev} {lv vo vb:Value} {l:List V} {gs:List Nat} {fv:List Value} {im:Img} {b:Bod} {bf d:Nat} {Xb:bu} {vl vi:Value}
theorem ReV.since {r:R} {en:Ending} {w2:World} (hB:But (FrQ P w0) w w1) (h:ReV P w0 w1 be bw tx inp bl lv r en w2):ReV P w0 w be bw tx inp bl lv r en w2:=⟨hB.trans h.1,h.2⟩
theorem uc {f B F:Nat} {t0 t1 t2:UInt8} (hR:dB im) (IH:jF im inp w0 be bw tx f) (h:StQ P w0 w be bw tx inp s bl lv l vo vb gs fv) (hF:FrS P w0 w im b bf d Xb vl vi bl) (hbm:b∈im.bodies) (hs:StT im B s) (hsf:s.left≤f) (hd:d≤12) (hll:LT im.classes s.heap b.locals l) (j0 j1 j2:Nat) (g0:bY im.classes im.sigs b.locals b.code F j0=some t0) (h105:t0.toNat=105) (g1:bY im.classes im.sigs b.locals b.code F j1=some t1) (g2:bY im.classes im.sigs b.locals b.code F j2=some t2) (pl op n pn pc:Nat) (c:UInt8) (pa:Option Addr) (hrow:w0.ownsRow 0 3 1 (.slice pa pn pc) 3 (dM [j0,j1,j2])):
  Calls Tryz.prog 153 #[.pointer (some ⟨be,0,none⟩),.pointer (some ⟨bf,0,none⟩),.agg #[.int .i64 pl,.int .u8 op,.int .u8 c.toNat,.int .i64 n,.slice pa pn pc]] w (ReV P w0 w be bw tx inp bl lv (gj (bJ im inp f b d j0 l s) (fun u l s=>bJ im inp f b d (if u.N=0 then j2 else j1) l s))):=by
 have a5:=hid (paW (w:=w) (pl:=pl) (op:=op) (n:=n) (pn:=pn) (pc:=pc) (c:=c) (pa:=pa));have HC:=hid (fun X (hX:NB w X)=>iP IH (h.grown hX) (hF.grown hX) hbm hs hsf hd hll [j0,j1,j2] (by simp) 0 j0 rfl g0 pl op n pn pc c pa hrow);have c6:=hid (eu hR inp f B b d j0 l s t0 F hbm g0 hll hs hsf);obtain⟨RR,d6⟩: ∃RR,gj (bJ im inp f b d j0 l s) (fun u l s=>bJ im inp f b d (if u.N=0 then j2 else j1) l s)=RR:=⟨_,rfl⟩;rw[d6];have b9:=hid d6;have h0:=h.old.size;have e4:=hid hF;clear h hF d6 hll;rw[show((0:Nat):Int)=0 from rfl]at HC
 go_in
 go_wp2_with fail;revert a5;generalize ((w.alloc (.cells #[.int .i64 pl,.int .u8 op,.int .u8 c.toNat,.int .i64 n,.slice pa pn pc] 219)).alloc (.cells #[.int .i32 0,.int .i64 0] 168))=W;intro a5;have hD:=a5.out;have f0:=hD.sz;have hN:=hD.nb;refine(HC.out W hN).mono ?_;rintro en w1 ⟨a3,f2,f1,e8,e7,hq⟩;clear HC;have a8:=(e4.out.grown hN).but a3;have pI:PQ P w W w.heap.size:=Or.inr ⟨Nat.le_refl _,by omega⟩;have pR:PQ P w W (w.heap.size+1):=Or.inr ⟨by omega,by omega⟩;have d0:=(a3.block _ (by omega) (fun hf=>hf.2 pI)).trans hD.b0;have e9:=ae d0;have b6:cQ W (w.heap.size+1):=⟨0,0,hD.b1⟩;have a2:=c6.out
 have a1:=b9.out
 cases hn:bJ im inp f b d j0 l s with
 |bad e o=>
  rw[hn]at hq a2 a1;obtain⟨rfl,s1,l1,ho,a4⟩:=hq;subst a1;obtain⟨e1,e2⟩:=fK a2.1 a2.2.1;have HF:=hid (fun a b=>StQ.fin hN h0 a4 a3 (r:=w.heap.size+1) (by omega) b6 a b);have e0:=b6.but a3 (fun hf=>hf.2 pR);obtain⟨K9,N9,r0,r1,z0,z1,e3⟩:=e0.parts;have e6:w.heap.size+1<w1.heap.size+1:=by omega
  clear c6 b9 a2 hn a5 hD d0 a4;go_wp2_with fail;exact cV Tryz.results153 rfl rfl rfl (yO e0) ⟨(HF.out _ _).2.1.trans (But.alloc _ _ _),_,_,_,_,rfl,s1,l1,ho,(HF.out _ _).2.2.new (But.alloc _ _ _)⟩
 |ok u l1 s1=>
  rw[hn]at hq a2 a1;obtain⟨rfl,a4⟩:=hq;obtain⟨y1,y2,y3,y4,y5⟩:=a2;obtain⟨m,rfl,m1,m2⟩:=y1.int h105;simp only[gj,V.N]at a1;have b4:s1.left≤f:=by omega
  have b5: ∀ob,But (FrQ (PQ P w W) w0) w1 (w1.alloc ob):=fun ob=>But.alloc _ _ _
  have a6:=hid (fun ob=>iP IH (a4.new (But.alloc (fun _=>False) w1 ob)) (a8.but (b5 ob)) hbm y3 b4 hd y2 [j0,j1,j2] (by simp) 1 j1 rfl g1 pl op n pn pc c pa hrow);have a7:=hid (fun ob=>iP IH (a4.new (But.alloc (fun _=>False) w1 ob)) (a8.but (b5 ob)) hbm y3 b4 hd y2 [j0,j1,j2] (by simp) 2 j2 rfl g2 pl op n pn pc c pa hrow);rw[show((1:Nat):Int)=1 from rfl]at a6;rw[show((2:Nat):Int)=2 from rfl]at a7;have i0:=ce0 d0;have i1:=ce1 d0;have i2:=ce2 d0;have i3:=ce3 d0;have i4:=ce4 d0;clear c6 b9 hn a5 d0 a4 y1;simp only[aG,xN,xO]
  by_cases hm:m=0
  ·simp only[hm,if_true]at a1;have e5:(m==0)=true:=by simpa using hm
   rw[a1]at a7;clear a1 a6 hm;go_wp2_with fail;refine(a7.out _).mono ?_;intro en w2 b3;obtain⟨K,N,e,rfl,a0⟩:=ReV.pass hN h0 (b3.since (a3.trans (b5 _)));obtain⟨b2,a9⟩:=a0 (w.heap.size+1) (by omega) b6;obtain⟨K9,N9,r0,r1,z0,z1,e3⟩:=b2.parts;have HF:=hid a9;clear a9 a0 b3 a7 i0 i1 i2 i3 i4;go_wp2_with fail;exact cV Tryz.results153 rfl rfl rfl (b2.put _ _) HF.out
  ·simp only[hm,if_false]at a1;have e5:(m==0)=false:=by simpa using hm
   rw[a1]at a6;clear a1 a7 hm;go_wp2_with fail;refine(a6.out _).mono ?_;intro en w2 b3;obtain⟨K,N,e,rfl,a0⟩:=ReV.pass hN h0 (b3.since (a3.trans (b5 _)));obtain⟨b2,a9⟩:=a0 (w.heap.size+1) (by omega) b6;obtain⟨K9,N9,r0,r1,z0,z1,e3⟩:=b2.parts;have HF:=hid a9;clear a9 a0 b3 a6 i0 i1 i2 i3 i4;go_wp2_with fail;exact cV Tryz.results153 rfl rfl rfl (b2.put _ _) HF.out
end
def sG (cc dd:List V→Ev→R) (g:Nat) (n:Int) (l:List V) (s:Ev):R:=if n=0 then .ok (.i 0) l s else gj (dd l s) (fun _ l s=>fR cc dd g l s)
theorem sH {cc dd:List V→Ev→R} {g:Nat} {l l1:List V} {s s1:Ev} {n:Int} (h:cc l s= .ok (.i n) l1 s1):fR cc dd (g+1) l s=sG cc dd g n l1 s1:=by
 simp only[fR,h,sG,V.N]
 by_cases h0:n=0
 ·simp[h0]
 ·simp only[h0,if_false]
  cases dd l1 s1<;>rfl
def sI (P2:Nat→Prop) (w0:World) (be bw tx:Nat) (inp:ByteArray) (bl:Nat) (lv:Value) (im:Img) (B:Nat) (lo:List UInt8) (cc dd:List V→Ev→R) (RR:R) (r8 mm:Nat) (e9:Int) (wr:World):Prop:=
 (e9=0∧ ∃(g:Nat) (n:Int) (l:List V) (s:Ev) (vo vb:Value) (gs:List Nat) (fv:List Value),wr.heap[r8]?=some (.cells #[.int .i32 n,.int .i64 0] 168)∧StQ P2 w0 wr be bw tx inp s bl lv l vo vb gs fv∧LT im.classes s.heap lo l∧StT im B s∧s.left≤g∧g+1≤mm∧RR=sG cc dd g n l s)∨
 (∃(e:Nat) (o:List UInt8),e9=bK e∧5≤e∧e≤10∧RR= .bad e o∧cQ wr r8∧ ∃(s:Ev) (l:List V) (vo vb:Value) (gs:List Nat) (fv:List Value),s.out=o∧StQ P2 w0 wr be bw tx inp s bl lv l vo vb gs fv)
section
variable {P P2:Nat→Prop} {w0 w w1:World} {be bw tx bl:Nat} {inp:ByteArray} {s:Ev} {lv vo vb:Value} {l:List V} {gs:List Nat} {fv:List Value} {im:Img} {b:Bod} {bf d:Nat} {Xb:bu} {vl vi:Value}
theorem FrS.mono (h:FrS P w0 w im b bf d Xb vl vi bl) (hp:P2 bf):FrS P2 w0 w im b bf d Xb vl vi bl:=⟨h.fr,hp,h.bd⟩
theorem StQ.lay (h:StQ P w0 w be bw tx inp s bl lv l vo vb gs fv) {r:Nat} (hp:P r) (h0:w0.heap.size≤r) (hx:cQ w r) (K N:Int):StQ P w0 ((w.setCell ⟨r,0,none⟩ (.int .i32 K)).setCell ⟨r,1,none⟩ (.int .i64 N)) be bw tx inp s bl lv l vo vb gs fv:=
 h.tmp (F:=(· =r)) (cU _ _ _ _) (fun k e=>by have e:k=r:=e;subst e;exact⟨hp,h0⟩) (fun k e c fz he=>by have e:k=r:=e;subst e;rw[hx.put]at he;cases he)
theorem StQ.grown1 {c:Array Value} {t:Nat} (h:StQ P w0 w be bw tx inp s bl lv l vo vb gs fv) (ht:t≠5):StQ (PQ P w (w.alloc (.cells c t))) w0 (w.alloc (.cells c t)) be bw tx inp s bl lv l vo vb gs fv:=h.grown ((NB.refl w).alloc ht)
theorem sI.first {f B F j0:Nat} {t0:UInt8} {dd:List V→Ev→R} {en:Ending} (hR:dB im) (hbm:b∈im.bodies) (hs:StT im B s) (hsf:s.left≤f) (hll:LT im.classes s.heap b.locals l) (g0:bY im.classes im.sigs b.locals b.code F j0=some t0) (h105:t0.toNat=105) (hre:ReV P w0 w be bw tx inp bl lv (bJ im inp f b d j0 l s) en w1):
  ∃K N e:Int,en= .returned (.tuple #[.agg #[.int .i32 K,.int .i64 N],.int .i64 e])∧
   ∀RR,fR (bJ im inp f b d j0) dd f l s=RR→sI (PQ P w1 (w1.alloc (.cells #[.int .i32 K,.int .i64 N] 168))) w0 be bw tx inp bl lv im B b.locals (bJ im inp f b d j0) dd RR w1.heap.size (f+1) e (w1.alloc (.cells #[.int .i32 K,.int .i64 N] 168)):=by
 obtain⟨hB,vo,vb,gs,fv,hq⟩:=hre;have HT:=eu hR inp f B b d j0 l s t0 F hbm g0 hll hs hsf
 cases hn:bJ im inp f b d j0 l s with
 |bad e o=>
  rw[hn]at hq HT;obtain⟨rfl,s1,l1,ho,a0⟩:=hq;refine⟨_,_,_,rfl,fun RR hRR=>Or.inr ⟨e,o,rfl,HT.1,HT.2.1,?_,⟨_,_,heap_alloc_new _ _⟩,s1,l1,vo,vb,gs,fv,ho,a0.grown1 (by decide)⟩⟩;rw[←hRR];exact pj (fun h=>fJ h) hsf hn
 |ok v l1 s1=>
  rw[hn]at hq HT;obtain⟨rfl,a0⟩:=hq;obtain⟨y1,y2,y3,y4,y5⟩:=HT;obtain⟨m,rfl,m1,m2⟩:=y1.int h105
  have a1:0<s.left:=by
   rcases Nat.eq_zero_or_pos s.left with h|h
   ·rw[fJ h]at hn;cases hn
   ·exact h
  refine⟨m,0,0,rfl,fun RR hRR=>Or.inl ⟨rfl,f-1,m,l1,s1,vo,vb,gs,fv,heap_alloc_new _ _,a0.grown1 (by decide),y2,y3,by omega,by omega,?_⟩⟩;obtain⟨g,rfl⟩: ∃g,f=g+1:=⟨f-1,by omega⟩;rw[←hRR];exact sH hn
theorem sI.next {f B F j0 g r8 mm:Nat} {t0:UInt8} {dd:List V→Ev→R} {en:Ending} (hR:dB im) (hbm:b∈im.bodies) (hs:StT im B s) (hsf:s.left≤g) (hgf:g≤f) (hll:LT im.classes s.heap b.locals l) (g0:bY im.classes im.sigs b.locals b.code F j0=some t0) (h105:t0.toNat=105) (hre:ReV P w0 w be bw tx inp bl lv (bJ im inp f b d j0 l s) en w1) (hp:P r8) (h0:w0.heap.size≤r8) (hx:cQ w1 r8) (hm:g+1≤mm+1):
  ∃K N e:Int,en= .returned (.tuple #[.agg #[.int .i32 K,.int .i64 N],.int .i64 e])∧
   ∀RR,fR (bJ im inp f b d j0) dd g l s=RR→sI P w0 be bw tx inp bl lv im B b.locals (bJ im inp f b d j0) dd RR r8 mm e ((w1.setCell ⟨r8,0,none⟩ (.int .i32 K)).setCell ⟨r8,1,none⟩ (.int .i64 N)):=by
 obtain⟨hB,vo,vb,gs,fv,hq⟩:=hre;have HT:=eu hR inp f B b d j0 l s t0 F hbm g0 hll hs (by omega)
 cases hn:bJ im inp f b d j0 l s with
 |bad e o=>
  rw[hn]at hq HT;obtain⟨rfl,s1,l1,ho,a0⟩:=hq;refine⟨_,_,_,rfl,fun RR hRR=>Or.inr ⟨e,o,rfl,HT.1,HT.2.1,?_,⟨_,_,hx.put _ _⟩,s1,l1,vo,vb,gs,fv,ho,a0.lay hp h0 hx _ _⟩⟩;rw[←hRR];exact pj (fun h=>fJ h) hsf hn
 |ok v l1 s1=>
  rw[hn]at hq HT;obtain⟨rfl,a0⟩:=hq;obtain⟨y1,y2,y3,y4,y5⟩:=HT;obtain⟨m,rfl,m1,m2⟩:=y1.int h105
  have a1:0<s.left:=by
   rcases Nat.eq_zero_or_pos s.left with h|h
   ·rw[fJ h]at hn;cases hn
   ·exact h
  refine⟨m,0,0,rfl,fun RR hRR=>Or.inl ⟨rfl,g-1,m,l1,s1,vo,vb,gs,fv,hx.put _ _,a0.lay hp h0 hx _ _,y2,y3,by omega,by omega,?_⟩⟩;obtain⟨g',rfl⟩: ∃g',g=g'+1:=⟨g-1,by omega⟩;rw[←hRR];exact sH hn
theorem ud {f B F:Nat} {t0 t1:UInt8} (hR:dB im) (IH:jF im inp w0 be bw tx f) (h:StQ P w0 w be bw tx inp s bl lv l vo vb gs fv) (hF:FrS P w0 w im b bf d Xb vl vi bl) (hbm:b∈im.bodies) (hs:StT im B s) (hsf:s.left≤f) (hd:d≤12) (hll:LT im.classes s.heap b.locals l) (j0 j1:Nat) (g0:bY im.classes im.sigs b.locals b.code F j0=some t0) (h105:t0.toNat=105) (g1:bY im.classes im.sigs b.locals b.code F j1=some t1) (pl op n pn pc:Nat) (c:UInt8) (pa:Option Addr) (hrow:w0.ownsRow 0 3 1 (.slice pa pn pc) 2 (dM [j0,j1])):
  Calls Tryz.prog 154 #[.pointer (some ⟨be,0,none⟩),.pointer (some ⟨bf,0,none⟩),.agg #[.int .i64 pl,.int .u8 op,.int .u8 c.toNat,.int .i64 n,.slice pa pn pc]] w (ReV P w0 w be bw tx inp bl lv (fR (bJ im inp f b d j0) (bJ im inp f b d j1) f l s)):=by
 have e7:=hid (paW (w:=w) (pl:=pl) (op:=op) (n:=n) (pn:=pn) (pc:=pc) (c:=c) (pa:=pa));have HC:=hid (fun X (hX:NB w X)=>iP IH (h.grown hX) (hF.grown hX) hbm hs hsf hd hll [j0,j1] (by simp) 0 j0 rfl g0 pl op n pn pc c pa hrow);obtain⟨RR,a6⟩: ∃RR,fR (bJ im inp f b d j0) (bJ im inp f b d j1) f l s=RR:=⟨_,rfl⟩;rw[a6];have h0:=h.old.size;have f6:=hid hF;rw[show((0:Nat):Int)=0 from rfl]at HC
 go_in
 go_wp2_with fail;revert e7;generalize ((w.alloc (.cells #[.int .i64 pl,.int .u8 op,.int .u8 c.toNat,.int .i64 n,.slice pa pn pc] 219)).alloc (.cells #[.int .i32 0,.int .i64 0] 168))=W;intro e7;have hD:=e7.out;have m4:=hD.sz;have hN:=hD.nb;refine(HC.out W hN).mono ?_;intro en w1 a7;have c6:=a7.1;obtain⟨K,N,e,rfl,e5⟩:=sI.first hR hbm hs hsf hll g0 h105 a7;have HI:=hid (e5 RR a6);have a3:=f6.out.grown hN;have e4:=a3.but c6;have pI:PQ P w W w.heap.size:=Or.inr ⟨Nat.le_refl _,by omega⟩;have pR:PQ P w W (w.heap.size+1):=Or.inr ⟨by omega,by omega⟩;have d0:=(c6.block _ (by omega) (fun hf=>hf.2 pI)).trans hD.b0
 have f4:cQ W (w.heap.size+1):=⟨0,0,hD.b1⟩;have j3:=ae d0;have l6:w.heap.size+1<w1.heap.size:=Nat.lt_of_lt_of_le (by omega) c6.size;clear HC f6 e5 a7 a6 h hF e7;go_wp2_with fail;have d6:But (fun _=>False) w1 (w1.alloc (.cells #[.int .i32 K,.int .i64 N] 168)):=But.alloc _ _ _;have f5:(w1.alloc (.cells #[.int .i32 K,.int .i64 N] 168)).heap.size=w1.heap.size+1:=by simp
 revert HI d6 f5;generalize (w1.alloc (.cells #[.int .i32 K,.int .i64 N] 168))=W2;intro HI d6 f5;obtain⟨P2,e8⟩: ∃P2:Nat→Prop,PQ (PQ P w W) w1 W2=P2:=⟨_,rfl⟩;have p1: ∀k,PQ P w W k→P2 k:=fun k hk=>by rw[←e8];exact Or.inl hk
 have p8:P2 w1.heap.size:=by rw[←e8];exact Or.inr ⟨Nat.le_refl _,by omega⟩
 rw[e8]at HI;have b2:w0.heap.size≤w1.heap.size:=by omega
 have g7: ∀{X Y:World},But (FrQ P2 w0) X Y→But (FrQ (PQ P w W) w0) X Y:=fun h=>h.mono (fun k _ hf=>⟨hf.1,fun hp=>hf.2 (p1 k hp)⟩)
 have l3: ∀{Y:World},But (FrQ (PQ P w W) w0) W Y→But (FrQ P w0) w Y:=fun h=>(hN.but.mono (fun _ _ h=>h.elim)).trans (h.mono (fun k _ hf=>⟨hf.1,fun hp=>hf.2 (Or.inl hp)⟩))
 have e0:But (FrQ (PQ P w W) w0) W W2:=c6.trans (d6.mono (fun _ _ h=>h.elim));have a9: ∀{Y:World} (a b:Int),But (FrQ (PQ P w W) w0) W Y→But (FrQ (PQ P w W) w0) W ((Y.setCell ⟨w1.heap.size,0,none⟩ (.int .i32 a)).setCell ⟨w1.heap.size,1,none⟩ (.int .i64 b)):=fun a b h=>h.next (cU _ _ _ _) (fun k hk e=>by have e:k=w1.heap.size:=e;omega)
 have f2:=e4.but (d6.mono (fun _ _ h=>h.elim));have a1:=hid (fun(X:World) (hX:But (FrQ (PQ P w W) w0) W X)=>((a3.but hX).mono (p1 _ a3.pf):FrS P2 w0 X im b bf d Xb vl vi bl));have b9:=hid (fun(X:World) (l:List V) (s:Ev) (vo vb:Value) (gs:List Nat) (fv:List Value) (hq:StQ P2 w0 X be bw tx inp s bl lv l vo vb gs fv) (hFX:FrS P2 w0 X im b bf d Xb vl vi bl) (ht:StT im B s) (hl:s.left≤f) (hll:LT im.classes s.heap b.locals l)=>iP IH hq hFX hbm ht hl hd hll [j0,j1] (by simp) 1 j1 rfl g1 pl op n pn pc c pa hrow);have b6:=hid (fun(X:World) (l:List V) (s:Ev) (vo vb:Value) (gs:List Nat) (fv:List Value) (hq:StQ P2 w0 X be bw tx inp s bl lv l vo vb gs fv) (hFX:FrS P2 w0 X im b bf d Xb vl vi bl) (ht:StT im B s) (hl:s.left≤f) (hll:LT im.classes s.heap b.locals l)=>iP IH hq hFX hbm ht hl hd hll [j0,j1] (by simp) 0 j0 rfl g0 pl op n pn pc c pa hrow)
 rw[show((1:Nat):Int)=1 from rfl]at b9;rw[show((0:Nat):Int)=0 from rfl]at b6;have HD:=hid hD;clear e4 f2 c6 d6 hD d0 hs hsf hll hrow IH e8 a3
 go_loopg [9] (f+1) (fun mm v9 wr=> ∃e9:Int,v9= .int .i64 e9∧But (FrQ (PQ P w W) w0) W wr∧mm≤f+1∧Hid (sI P2 w0 be bw tx inp bl lv im B b.locals (bJ im inp f b d j0) (bJ im inp f b d j1) RR w1.heap.size mm e9 wr))
 case atStart=>exact⟨e,rfl,e0,Nat.le_refl _,HI⟩
 case round=>
  obtain⟨e9,rfl,b5,l4,HL⟩:=hrel;clear HI e0 f5;have d0:=(b5.block _ (by omega) (fun hf=>hf.2 pI)).trans HD.out.b0;have f3:=f4.but b5 (fun hf=>hf.2 pR);have j3:=ae d0;obtain⟨Ka,Na,r0,r1,z0,z1,m3⟩:=f3.parts;rcases HL.out with⟨rfl,g,m,l1,s1,h7,h5,g3,f8,h8,b3,y2,y3,m1,l5,a6⟩ | ⟨e,o,rfl,i9,j2,rfl,h8,s1,l1,h7,h5,g3,f8,ho,b3⟩
  ·have a0:=ce0 h8;have m0:=ae h8
   by_cases hm:m=0
   ·subst hm;have a4:RR= .ok (.i 0) l1 s1:=by rw[a6];simp[sG]
    subst a4;have HF:=hid (fun a b=>StQ.fin hN h0 (b3.less p1) b5 (r:=w.heap.size+1) (by omega) f4 a b);clear a6 HL b3 h8 b9 b6 a1 HD d0;go_wp2_with fail;exact cV Tryz.results154 rfl rfl rfl (f3.put _ _) ⟨(HF.out _ _).2.1,_,_,_,_,rfl,(HF.out _ _).2.2⟩
   ·have a4:RR=gj (bJ im inp f b d j1 l1 s1) (fun _ l s=>fR (bJ im inp f b d j0) (bJ im inp f b d j1) g l s):=by rw[a6];simp[sG,hm]
    have m2:(m !=0)=true:=by simpa using hm
    have HC:=hid (b9.out wr l1 s1 h7 h5 g3 f8 b3 (a1.out wr b5) y3 (by omega) y2);have f1:=hid (eu hR inp f B b d j1 l1 s1 t1 F hbm g1 y2 y3 (by omega));have f0:=hid a4;have i5:cQ wr w1.heap.size:=⟨_,_,h8⟩;have i0:=ce0 d0;have i1:=ce1 d0;have i2:=ce2 d0;have i3:=ce3 d0;have i4:=ce4 d0;clear a6 a4 HL b3 b9 h8 d0 hm y2 y3 r0 r1 z0 z1;go_wp2_with fail;refine HC.out.mono ?_;rintro en w2 ⟨g6,h9,h6,g4,g2,hq⟩;clear HC i0 i1 i2 i3 i4 a0;have a2:=b5.trans (g7 g6);have b4:=i5.but g6 (fun hf=>hf.2 p8);have d0:=(a2.block _ (by omega) (fun hf=>hf.2 pI)).trans HD.out.b0;obtain⟨K8,N8,q0,q1,o0,o1,j5⟩:=b4.parts
    have a5:=f1.out;have a8:=f0.out
    cases hn:bJ im inp f b d j1 l1 s1 with
    |bad e o=>
     rw[hn]at hq a5 a8;obtain⟨rfl,s2,l2,ho,e6⟩:=hq;obtain⟨e1,e2⟩:=fK a5.1 a5.2.1;have HN:Hid (sI P2 w0 be bw tx inp bl lv im B b.locals (bJ im inp f b d j0) (bJ im inp f b d j1) RR w1.heap.size g (bK e) ((w2.setCell ⟨w1.heap.size,0,none⟩ (.int .i32 0)).setCell ⟨w1.heap.size,1,none⟩ (.int .i64 0))):=Or.inr ⟨e,o,rfl,a5.1,a5.2.1,a8,⟨_,_,b4.put 0 0⟩,s2,l2,h9,h6,g4,g2,ho,e6.lay p8 b2 b4 0 0⟩;have e3:=a9 0 0 a2;clear e6 f1 f0 a8 a5 hn d0 a2;go_wp2_with fail
     go_roundg g
     case measure=>omega
     case rel=>exact⟨_,rfl,e3,by omega,HN⟩
    |ok u l2 s2=>
     rw[hn]at hq a5 a8;obtain⟨rfl,e6⟩:=hq;obtain⟨x1,x2,x3,x4,x5⟩:=a5;simp only[gj]at a8;have k0: ¬w.heap.size=w1.heap.size:=by omega
     have h1: ¬w1.heap.size=w.heap.size:=by omega
     have e3:=a9 (xN u) (xO u) a2;have h3:=e6.lay p8 b2 b4 (xN u) (xO u);have i7:=(e3.block _ (by omega) (fun hf=>hf.2 pI)).trans HD.out.b0;have h4:cQ ((w2.setCell ⟨w1.heap.size,0,none⟩ (.int .i32 (xN u))).setCell ⟨w1.heap.size,1,none⟩ (.int .i64 (xO u))) w1.heap.size:=⟨_,_,b4.put _ _⟩;have i0:=ce0 d0;have i1:=ce1 d0;have i2:=ce2 d0;have i3:=ce3 d0;have i4:=ce4 d0;have j4:=ae d0;have HC:=hid (b6.out _ l2 s2 h9 h6 g4 g2 h3 (a1.out _ e3) x3 (by omega) x2);have f7:=hid a8;clear e6 f1 f0 a8 hn d0 a2 h3 b6 a1 i7 x1;simp only[aG];go_wp2_with fail;refine HC.out.mono ?_;intro en w3 a7;have g5:=h4.but a7.1 (fun hf=>hf.2 p8)
     obtain⟨K,N,e,rfl,h2⟩:=sI.next (mm:=g) hR hbm x3 (by omega) (by omega) x2 g0 h105 a7 p8 b2 g5 (Nat.le_refl _);have HN:=hid (h2 RR f7.out.symm);have i6:=a9 K N (e3.trans (g7 a7.1));obtain⟨k9,l0,n1,n2,m5,n0,j7⟩:=g5.parts;clear a7 h2 HC f7 i0 i1 i2 i3 i4 q0 q1 o0 o1 h4 b4;go_wp2_with fail
     go_roundg g
     case measure=>omega
     case rel=>exact⟨_,rfl,i6,by omega,HN⟩
  ·obtain⟨e1,e2⟩:=fK i9 j2;have HF:=hid (fun a b=>StQ.fin hN h0 (b3.less p1) b5 (r:=w.heap.size+1) (by omega) f4 a b);clear HL b3 h8 b9 b6 a1 HD d0;go_wp2_with fail;exact cV Tryz.results154 rfl rfl rfl (f3.put _ _) ⟨(HF.out _ _).2.1,_,_,_,_,rfl,s1,l1,ho,(HF.out _ _).2.2⟩
end
def jG (im:Img) (inp:ByteArray) (f:Nat) (b:Bod) (d:Nat) (ps:List Nat) (k:Nat) (l:List V) (s:Ev):R:=match ps[k]? with
 |some j=>bJ im inp f b d j l s
 |none=> .ok .z l s
def doV (im:Img) (inp:ByteArray) (f d:Nat) (x:Ins) (u v:V) (l:List V) (s:Ev):R:=
 if az x.op=0 then fQ im inp x l s else if az x.op=1 then ji im x u l s else jk im (fun b' l'=>bJ im inp f b' (d+1) 0 l' s) d x u v l s
theorem iQ {cs:List Cls} {gs:List Sig} {lo:List UInt8} {t:List Ins} {F k:Nat} {c:UInt8} (h:bY cs gs lo t F k=some c):k<t.length:=by
 cases F with
 |zero=>cases h
 |succ F=>
  simp only[bY]at h
  cases hx:t[k]? with
  |none=>rw[hx]at h;cases h
  |some x=>exact(List.getElem?_eq_some_iff.1 hx).1
theorem wM {cs:List Cls} {gs:List Sig} {lo:List UInt8} {t:List Ins} {F:Nat}: ∀{n k:Nat} {ts:List UInt8},bQ t (bY cs gs lo t F) n k=some ts→
  ts.length=n∧(cr t n k).length=n∧ ∀(q j:Nat),(cr t n k)[q]?=some j→ ∃c,ts[q]?=some c∧bY cs gs lo t F j=some c:=by
 intro n
 induction n with
 |zero=>intro k ts h;simp[bQ]at h;subst h;exact⟨rfl,rfl,fun q j h=>by simp[cr]at h⟩
 |succ n ih=>
  intro k ts h;rw[bQ]at h
  cases hc:bY cs gs lo t F k with
  |none=>rw[hc]at h;cases h
  |some c=>
   rw[hc]at h;simp only[Option.map_eq_some_iff]at h;obtain⟨ts',h1,rfl⟩:=h;obtain⟨a1,a2,a3⟩:=ih h1;have hk:=iQ hc;rw[cr,if_pos hk];refine⟨by simp[a1],by simp[a2],fun q j hq=> ?_⟩
   cases q with
   |zero=>simp at hq;subst hq;exact⟨c,rfl,hc⟩
   |succ q=>simp at hq;simpa using a3 q j hq
theorem Ab {t:List Ins} {i:Nat} {x:Ins} (h:t[i]?=some x):dw t i=cr t (az x.op) (i+1):=by simp[dw,h]
section
variable {im:Img} {inp:ByteArray} {f:Nat} {b:Bod} {d i:Nat} {l:List V} {s:Ev}
theorem yP {x:Ins} {sl:Nat} (hx:b.code[i]?=some x) (hsl:s.left=sl+1) (h:x.op.toNat=111):bJ im inp (f+1) b d i l s=fR (bJ im inp f b d (i+1)) (bJ im inp f b d (bA b.code (i+1))) f l {s with left:=sl}:=by
 have h1:az x.op≠0:=by simp[az,h]
 simp only[bJ,hx,hsl,Nat.add_sub_cancel];rw[if_neg (by omega),if_neg h1,if_pos h]
theorem yQ {x:Ins} {sl:Nat} (hx:b.code[i]?=some x) (hsl:s.left=sl+1) (h:x.op.toNat=105):bJ im inp (f+1) b d i l s=gj (bJ im inp f b d (i+1) l {s with left:=sl}) (fun u l s=>bJ im inp f b d (if u.N=0 then bA b.code (bA b.code (i+1))else bA b.code (i+1)) l s):=by
 have h1:az x.op≠0:=by simp[az,h]
 simp only[bJ,hx,hsl,Nat.add_sub_cancel];rw[if_neg (by omega),if_neg h1,if_neg (by omega)]
 cases bJ im inp f b d (i+1) l {s with left:=sl}with
 |bad e o=>rfl
 |ok u l s=>simp only[gj,h,if_true]
theorem Ac {x:Ins} {sl:Nat} (hx:b.code[i]?=some x) (hsl:s.left=sl+1) (h1:x.op.toNat≠111) (h2:x.op.toNat≠105) (hp:(cr b.code (az x.op) (i+1)).length=az x.op):
  bJ im inp (f+1) b d i l s=gj (jG im inp f b d (cr b.code (az x.op) (i+1)) 0 l {s with left:=sl}) (fun u l s=>gj (jG im inp f b d (cr b.code (az x.op) (i+1)) 1 l s) (fun v l s=>doV im inp f d x u v l s)):=by
 have a0:az x.op=0∨az x.op=1∨az x.op=2:=by
  unfold az;rw[if_neg h2]
  split
  ·exact Or.inr (Or.inr rfl)
  ·split
   ·exact Or.inr (Or.inl rfl)
   ·exact Or.inl rfl
 simp only[bJ,hx,hsl,Nat.add_sub_cancel];rw[if_neg (by omega)];rcases a0 with a0|a0|a0
 ·rw[if_pos a0,a0];simp[jG,cr,gj,doV,a0]
 ·rw[if_neg (by omega),if_neg h1]
  have e0:(cr b.code (az x.op) (i+1))=[i+1]:=by
   rw[a0]at hp⊢;rw[cr]at hp⊢
   split at hp
   ·rename_i hk;rw[if_pos hk];rfl
   ·cases hp
  rw[e0];simp only[jG,List.getElem?_cons_zero,List.getElem?_cons_succ,List.getElem?_nil]
  cases bJ im inp f b d (i+1) l {s with left:=sl}with
  |bad e o=>rfl
  |ok u l s=>simp[gj,h2,a0,doV]
 ·rw[if_neg (by omega),if_neg h1]
  have e0:(cr b.code (az x.op) (i+1))=[i+1,bA b.code (i+1)]:=by
   rw[a0]at hp⊢;rw[cr]at hp⊢
   split at hp
   ·rename_i hk
    rw[if_pos hk];rw[cr]at hp⊢
    split at hp
    ·rename_i hk2;rw[if_pos hk2];rfl
    ·simp at hp
   ·cases hp
  rw[e0];simp only[jG,List.getElem?_cons_zero,List.getElem?_cons_succ]
  cases bJ im inp f b d (i+1) l {s with left:=sl}with
  |bad e o=>rfl
  |ok u l s=>
   simp only[gj,h2,a0,if_false];rw[if_neg (by omega)]
   cases bJ im inp f b d (bA b.code (i+1)) l s with
   |bad e o=>rfl
   |ok v l s=>simp[doV,a0]
def B3 (im:Img) (B:Nat) (lo:List UInt8) (ts:List UInt8) (k:Nat) (s0:Ev):R→Prop
 | .bad e o=>5≤e∧e≤10
 | .ok u l s=>LT im.classes s.heap lo l∧StT im B s∧Ext s0.heap s.heap∧s.left≤s0.left∧ ∀t,ts[k]?=some t→VT im.classes s.heap t u
theorem mq {F B:Nat} {ps:List Nat} {ts:List UInt8} (hR:dB im) (hbm:b∈im.bodies) (hlen:ps.length=ts.length) (hpt: ∀(q j:Nat),ps[q]?=some j→ ∃c,ts[q]?=some c∧bY im.classes im.sigs b.locals b.code F j=some c) (k:Nat) (hll:LT im.classes s.heap b.locals l) (hs:StT im B s) (hsf:s.left≤f):B3 im B b.locals ts k s (jG im inp f b d ps k l s):=by
 unfold jG
 cases hk:ps[k]? with
 |none=>
  refine⟨hll,hs,Ext.refl _,Nat.le_refl _,fun t ht=> ?_⟩;have:=(List.getElem?_eq_some_iff.1 ht).1;rw[List.getElem?_eq_none_iff]at hk;omega
 |some j=>
  obtain⟨c,hc,a0⟩:=hpt k j hk;have HT:=eu hR inp f B b d j l s c F hbm a0 hll hs hsf;simp only
  cases hn:bJ im inp f b d j l s with
  |bad e o=>rw[hn]at HT;exact⟨HT.1,HT.2.1⟩
  |ok u l1 s1=>
   rw[hn]at HT;obtain⟨y1,y2,y3,y4,y5⟩:=HT;exact⟨y2,y3,y4,by omega,fun t ht=>by rw[hc]at ht;cases ht;exact y1⟩
end
section
variable {P:Nat→Prop} {w0 w:World} {be bw tx bl:Nat} {inp:ByteArray} {s:Ev} {lv vo vb:Value} {l:List V} {gs:List Nat} {fv:List Value} {im:Img} {b:Bod} {bf d:Nat} {Xb:bu} {vl vi:Value}
theorem sJ {f B F:Nat} {ps:List Nat} {ts:List UInt8} (IH:jF im inp w0 be bw tx f) (h:StQ P w0 w be bw tx inp s bl lv l vo vb gs fv) (hF:FrS P w0 w im b bf d Xb vl vi bl) (hbm:b∈im.bodies) (hs:StT im B s) (hsf:s.left≤f) (hd:d≤12) (hll:LT im.classes s.heap b.locals l) (hps:ps.length≤3) (hpt: ∀(q j:Nat),ps[q]?=some j→ ∃c,ts[q]?=some c∧bY im.classes im.sigs b.locals b.code F j=some c) (k:Nat) (hk3:k≤3) (pl op n pn pc:Nat) (c:UInt8) (pa:Option Addr) (hrow:w0.ownsRow 0 3 1 (.slice pa pn pc) ps.length (dM ps)):
  Calls Tryz.prog 155 #[.pointer (some ⟨be,0,none⟩),.pointer (some ⟨bf,0,none⟩),.agg #[.int .i64 pl,.int .u8 op,.int .u8 c.toNat,.int .i64 n,.slice pa pn pc],.int .i64 k] w (ReV P w0 w be bw tx inp bl lv (jG im inp f b d ps k l s)):=by
 unfold jG
 cases hk:ps[k]? with
 |none=>
  obtain⟨a',cap',a0⟩:=aw hrow;injection a0 with e1 e2 e3;rw[List.getElem?_eq_none_iff]at hk;exact wL h pl op n pn pc k c pa (by omega) hk3
 |some j=>
  obtain⟨c',hc,a1⟩:=hpt k j hk;exact iP IH h hF hbm hs hsf hd hll ps hps k j hk a1 pl op n pn pc c pa hrow
theorem Ad {B f:Nat} {ts:List UInt8} {tt:UInt8} (IH:jF im inp w0 be bw tx f) (h:StQ P w0 w be bw tx inp s bl lv l vo vb gs fv) (hF:FrS P w0 w im b bf d Xb vl vi bl) (hT:dC w0 tx im) (htab:dc w0) (hR:dB im) (h40:inp.size≤40) (hs:StT im B s) (hsf:s.left≤f) (hd:d≤12) (x:Ins) (hx:WfN im.classes im.sigs.length b.locals.length x) (hll:LT im.classes s.heap b.locals l) (h111:x.op.toNat≠111) (h105:x.op.toNat≠105) (hlk:x.op.toNat=99→0≤cE im.classes im.bodies x.b 5 x.a) (hlen:ts.length=az x.op) (u v:V) (hu: ∀t,ts[0]?=some t→VT im.classes s.heap t u) (hv: ∀t,ts[1]?=some t→VT im.classes s.heap t v) (hnt:bq im.classes im.sigs b.locals x ts=some tt) (pl pn pc:Nat) (pa:Option Addr):
  Calls Tryz.prog 156 #[.pointer (some ⟨be,0,none⟩),.pointer (some ⟨bf,0,none⟩),itN x pa pl pn pc,aG u,aG v] w (ReV P w0 w be bw tx inp bl lv (doV im inp f d x u v l s)):=by
 have a0:az x.op=0∨az x.op=1∨az x.op=2:=by
  unfold az;rw[if_neg h105]
  split
  ·exact Or.inr (Or.inr rfl)
  ·split
   ·exact Or.inr (Or.inl rfl)
   ·exact Or.inl rfl
 unfold doV;rcases a0 with a0|a0|a0
 ·rw[if_pos a0];exact yN h hF hT hR.wf hs h40 x (by rw[hll.len];exact hx) a0 u v pl pn pc pa
 ·rw[if_neg (by omega),if_pos a0]
  match ts,hlen,hu,hnt with
  | [ta],_,hu,hnt=>exact z7 h hF hT htab hR hs x b.locals hx hll a0 ta tt u v (hu ta rfl) hnt pl pn pc pa
  | [],hl,_,_=>simp at hl;omega
  |_::_::_,hl,_,_=>simp at hl;omega
 ·rw[if_neg (by omega),if_neg (by omega)]
  match ts,hlen,hu,hv,hnt with
  | [ta,tc],_,hu,hv,hnt=>exact Aa IH h hF hT hR hs hsf hd x b.locals hx a0 h111 hlk ta tc tt u v (hu ta rfl) (hv tc rfl) hnt pl pn pc pa
  | [],hl,_,_,_=>simp at hl;omega
  | [_],hl,_,_,_=>simp at hl;omega
  |_::_::_::_,hl,_,_,_=>simp at hl;omega
end
theorem ReV.less {P Q:Nat→Prop} {w0 w w1:World} {be bw tx bl:Nat} {inp:ByteArray} {lv:Value} {r:R} {en:Ending} (h:ReV Q w0 w be bw tx inp bl lv r en w1) (hs: ∀k,P k→Q k):ReV P w0 w be bw tx inp bl lv r en w1:=by
 obtain⟨hB,vo,vb,gs,fv,h⟩:=h;refine⟨hB.mono (fun k _ hf=>⟨hf.1,fun hp=>hf.2 (hs k hp)⟩),vo,vb,gs,fv,?_⟩
 cases r with
 |ok u l s=>exact⟨h.1,h.2.less hs⟩
 |bad e o=>obtain⟨a,s,l,b,c⟩:=h;exact⟨a,s,l,b,c.less hs⟩
theorem Ce {t:List Ins} {k:Nat} (h1:k<t.length) (h2:bA t k<t.length) (h3:bA t (bA t k)<t.length):cr t 3 k=[k,bA t k,bA t (bA t k)]:=by
 simp[cr,h1,h2,h3]
theorem Cf {t:List Ins} {k:Nat} (h1:k<t.length) (h2:bA t k<t.length):cr t 2 k=[k,bA t k]:=by
 simp[cr,h1,h2]
theorem uT {x:Ins} {k:Nat} (h:x.op.toNat≠k) (h1:k≠107) (h2:58≤k):(bF x).op.toNat≠k:=by
 cases hd:bI x.op with
 |true=>rw[(sF hd).1];omega
 |false=>
  rw[(eN (x:=x) (by simp[bI]at hd;omega)).1];exact h
section
variable {P:Nat→Prop} {w0 w:World} {be bw tx bl:Nat} {inp:ByteArray} {s:Ev} {lv vo vb:Value} {l:List V} {gs:List Nat} {fv:List Value} {im:Img} {b:Bod} {bf d i:Nat} {Xb:bu} {vl vi:Value}
theorem og (h:StQ P w0 w be bw tx inp s bl lv l vo vb gs fv) (h0:s.left=0):
  Calls Tryz.prog 93 #[.pointer (some ⟨be,0,none⟩),.pointer (some ⟨bf,0,none⟩),.int .i64 i] w (ReV P w0 w be bw tx inp bl lv (.bad 5 s.out)):=by
 have e2:=h.ev.c2;have a1:=h.ev.lt;rw[h0]at e2;have a0:w.cell? ⟨be,2,none⟩=some (.int .i64 0):=e2;have HH:=hid h;clear e2 h h0
 go_in
 go_wp2_with fail;exact cV Tryz.results93 rfl rfl rfl (heap_alloc_new _ _) ⟨But.alloc _ _ _,vo,vb,gs,fv,rfl,s,l,rfl,HH.out.new (But.alloc _ _ _)⟩
end
theorem wN {f:Nat} (w0:World) (be bw tx:Nat) (inp:ByteArray) (h40:inp.size≤40) (im:Img) (hT:dC w0 tx im) (htab:dc w0) (hR:dB im) (IH:jF im inp w0 be bw tx f):jF im inp w0 be bw tx (f+1):=by
 intro b d i l s t F B P w bl lv vo vb gs fv bf X vl vi e3 hd a7 j1 hs s2 h hF
 by_cases h0:s.left=0
 ·rw[fJ h0];exact og h h0
 have hW:=hR.wf;have p3:=iQ a7
 cases F with
 |zero=>cases a7
 |succ F=>
 simp only[bY]at a7;obtain⟨x,hx⟩: ∃x,b.code[i]?=some x:=⟨_,List.getElem?_eq_getElem p3⟩;rw[hx]at a7;simp only at a7;have o0:=hW.bod b e3;have o1:x∈b.code:=List.mem_of_getElem? hx;have q3:=o0.code x o1
 cases hp:bQ b.code (bY im.classes im.sigs b.locals b.code F) (az x.op) (i+1)with
 |none=>rw[hp]at a7;cases a7
 |some ts=>
 rw[hp]at a7;simp only at a7;obtain⟨n1,j2,m3⟩:=wM hp;obtain⟨sl,b4⟩: ∃sl,s.left=sl+1:=⟨s.left-1,by omega⟩;have j4:StT im (B-22) {s with left:=sl}:=⟨hs.ht,by have:=hs.cap;simp;omega,by have:=hs.outn;simp;omega,by have:=hs.bb;omega,by have:=hs.rd;simp;omega⟩;have b9:sl≤f:=by omega
 --the item
 have s0:X.items.length=b.code.length:=hF.bd.bd.its.len;obtain⟨xi,n2⟩: ∃xi,X.items[i]?=some xi:=⟨_,List.getElem?_eq_getElem (by omega)⟩;obtain⟨z1,z2,z3,z4,a9⟩:=hF.bd.bd.its.at' i x xi hx n2;rw[Ab hx]at a9;obtain⟨ps,b2⟩: ∃ps,cr b.code (az x.op) (i+1)=ps:=⟨_,rfl⟩;have f2:=j2;rw[b2]at j2 m3 a9;obtain⟨RR,b1⟩: ∃RR,bJ im inp (f+1) b d i l s=RR:=⟨_,rfl⟩;rw[b1];have p0:az x.op≤3:=by unfold az;split;omega;split;omega;split<;>omega
 have hcl:=o0.len
 --the fuel
 have l0:But (FrQ P w0) w (w.setCell ⟨be,2,none⟩ (.int .i64 sl)):=(But.setB w be 2 _).mono (fun k _ e=>by have e:k=be:=e;subst e;exact h.k1);have hf:=h.fuel sl;have n6:=hF.but l0;have e2:=h.ev.c2;have y2:=h.ev.fz 2;rw[b4]at e2;have o4:w.cell? ⟨be,2,none⟩=some (.int .i64 ((sl:Int)+1)):=by rw[e2];simp
 have r2:=h.ev.lt;have q1: ¬((sl:Int)+1≤0):=by omega
 have r3:be<w.heap.size+1:=by omega
 have q0:sl≤4000:=by have:=hs.cap;omega
 obtain⟨a0,a1,a2,a3,a4,a5,a6,q9⟩:=hF.cells;have p5: ¬be=bf:=fun e=>h.k1.2 (e▸hF.pf)
 have p6: ¬bf=be:=fun e=>p5 e.symm
 have p1:bf<w.heap.size+1:=by omega
 have n3:=hid (fun(Y:World) (hY:But (fun _=>False) w0 Y)=>od X.cls X.meth X.ans vl vi X.items i xi Y (ah hF.bd.it hY (fun _ _ h=>h)) n2 (by omega));have q8:=h.old.size;have HX:=hid (And.intro hx (And.intro b4 (And.intro a7 (And.intro b2 b1))));have HZ:=hid (And.intro z1 (And.intro z2 (And.intro z3 z4)));have b5:=hid m3;have HP:=hid hp;have o3:=hid hx;have Hf:=hid hf;have b3:=hid n6;have e8:=hid l0;clear e2 hx b4 a7 b2 b1 m3 hf n6 l0 hp h hF n2 z1 z2 z3 z4 h0 o1
 go_in
 go_wp2_with fail;have e7:NB (w.setCell ⟨be,2,none⟩ (.int .i64 sl)) ((w.setCell ⟨be,2,none⟩ (.int .i64 sl)).alloc (.cells #[.int .i32 0,.int .i64 0] 168)):=(NB.refl _).alloc (by decide);have f7:cQ ((w.setCell ⟨be,2,none⟩ (.int .i64 sl)).alloc (.cells #[.int .i32 0,.int .i64 0] 168)) w.heap.size:=⟨0,0,aq (by simp[bV]) _⟩;have n9:(w.setCell ⟨be,2,none⟩ (.int .i64 sl)).heap.size=w.heap.size:=bV _ _ _;revert Hf b3 e8 e7 f7 n9;generalize (w.setCell ⟨be,2,none⟩ (.int .i64 sl))=wf;intro Hf b3 e8 e7 f7 n9;revert e7 f7;generalize (wf.alloc (.cells #[.int .i32 0,.int .i64 0] 168))=wa;intro e7 f7;refine(n3.out wa (Hf.out.old.trans e7.but)).mono ?_
 rintro en w2 ⟨rfl,h2⟩;obtain⟨z1,z2,z3,z4⟩:=HZ.out
 have h1:NB wf w2:=⟨e7.but.trans h2.but,fun k a b c fz e=>by
  rcases Nat.lt_or_ge k wa.heap.size with hk|hk
  ·rw[h2.but.block k hk (fun h=>h)]at e;exact e7.nb k a hk c fz e
  ·exact h2.nb k hk b c fz e⟩
 have j0:cQ w2 w.heap.size:=f7.but h2.but (fun h=>h);unfold bU;rw[z1,z2,z3,z4];clear n3 HZ z1 z2 z3 z4 e7 h2 f7 wa a0 a1 a2 a3 a4 a5 a6 o4 y2;generalize h8:(bF x).op.toNat=op;generalize p2:(bF x).cls=cc;generalize p8:(bF x).num=nn;generalize s1:(bF x).place=pp;obtain⟨hx,b4,a7,b2,b1⟩:=HX.out;have c6: ∀c,NB wf (w2.alloc (.cells c 219)):=fun c=>h1.alloc (by decide)
 by_cases h105:x.op.toNat=105
 ·have m2:((op:Int)==105)=true:=tst (by rw[←h8,(eN (x:=x) (by omega)).1,h105]);have m0:az x.op=3:=by simp[az,h105]
  rw[yQ hx b4 h105]at b1;have hp:=HP.out;rw[m0]at hp b2;obtain⟨t0,t1,t2,g0,g1,g2,rfl⟩:=qm hp;simp[bq,cH,bD,Sp.arith,h105]at a7;rw[Ce (iQ g0) (iQ g1) (iQ g2)]at b2;subst b2;have HC:=hid (fun c=>uc hR IH (Hf.out.grown (c6 c)) (b3.out.grown (c6 c)) e3 j4 b9 hd j1 _ _ _ g0 a7.1.1 g1 g2 pp op nn xi.pn xi.pc cc xi.pa a9);rw[b1]at HC;clear HX hx b4 a7 b1 HP hp g0 g1 g2 n1 j2 f2 b5 Hf b3 a9;go_wp2_with fail;refine(HC.out _).mono ?_;intro en w4 e6;obtain⟨K,N,e,rfl,a8⟩:=ReV.pass (c6 _) (by omega) e6;obtain⟨e5,e4⟩:=a8 w.heap.size (by omega) (j0.but (But.alloc (fun _=>False) _ _) (fun h=>h));obtain⟨K9,N9,r0,r1,f0,f1,j3⟩:=e5.parts
  have HF:=hid (e4.since e8.out);clear e4 a8 e6 HC;go_wp2_with fail;exact cV Tryz.results93 rfl rfl rfl (e5.put _ _) HF.out
 have m2:((op:Int)==105)=false:=tsf (k:=105) (by rw[←h8];exact uT h105 (by omega) (by omega))
 by_cases h111:x.op.toNat=111
 ·have m1:((op:Int)==111)=true:=tst (by rw[←h8,(eN (x:=x) (by omega)).1,h111]);have m0:az x.op=2:=by simp[az,h111]
  rw[yP hx b4 h111]at b1;have hp:=HP.out;rw[m0]at hp b2;obtain⟨t0,t1,g0,g1,rfl⟩:=ld hp;simp[bq,cH,bD,Sp.arith,h111]at a7;rw[Cf (iQ g0) (iQ g1)]at b2;subst b2;have HC:=hid (fun c=>ud hR IH (Hf.out.grown (c6 c)) (b3.out.grown (c6 c)) e3 j4 b9 hd j1 _ _ g0 a7.1 g1 pp op nn xi.pn xi.pc cc xi.pa a9);rw[b1]at HC;clear HX hx b4 a7 b1 HP hp g0 g1 n1 j2 f2 b5 Hf b3 a9;go_wp2_with fail;refine(HC.out _).mono ?_;intro en w4 e6;obtain⟨K,N,e,rfl,a8⟩:=ReV.pass (c6 _) (by omega) e6;obtain⟨e5,e4⟩:=a8 w.heap.size (by omega) (j0.but (But.alloc (fun _=>False) _ _) (fun h=>h));obtain⟨K9,N9,r0,r1,f0,f1,j3⟩:=e5.parts
  have HF:=hid (e4.since e8.out);clear e4 a8 e6 HC;go_wp2_with fail;exact cV Tryz.results93 rfl rfl rfl (e5.put _ _) HF.out
 have m1:((op:Int)==111)=false:=tsf (k:=111) (by rw[←h8];exact uT h111 (by omega) (by omega));rw[Ac hx b4 h111 h105 f2,b2]at b1;have h9:ps.length≤3:=by omega
 have n7:ps.length=ts.length:=by omega
 have k0:=hid b1;have i9:=hid a7;have q2:=h1.but.size;have g7:=heap_alloc_new w2 (.cells #[.int .i64 pp,.int .u8 op,.int .u8 cc.toNat,.int .i64 nn,.slice xi.pa xi.pn xi.pc] 219);have h4:(w2.alloc (.cells #[.int .i64 pp,.int .u8 op,.int .u8 cc.toNat,.int .i64 nn,.slice xi.pa xi.pn xi.pc] 219)).heap.size=w2.heap.size+1:=by simp
 have e9:=c6 #[.int .i64 pp,.int .u8 op,.int .u8 cc.toNat,.int .i64 nn,.slice xi.pa xi.pn xi.pc];have f6:=j0.but (But.alloc (fun _=>False) w2 (.cells #[.int .i64 pp,.int .u8 op,.int .u8 cc.toNat,.int .i64 nn,.slice xi.pa xi.pn xi.pc] 219)) (fun h=>h);have o2:=hid (fun(X:World) (hX:X=w2.alloc (.cells #[.int .i64 pp,.int .u8 op,.int .u8 cc.toNat,.int .i64 nn,.slice xi.pa xi.pn xi.pc] 219))=>hX);clear HX hx b4 a7 b2 b1 HP c6 o2 j0;go_wp2_with fail;revert g7 h4 e9 f6;generalize (w2.alloc (.cells #[.int .i64 pp,.int .u8 op,.int .u8 cc.toNat,.int .i64 nn,.slice xi.pa xi.pn xi.pc] 219))=W3;intro g7 h4 e9 f6
 have h3:=Hf.out.grown e9;have g6:=b3.out.grown e9;obtain⟨P3,e0⟩: ∃P3:Nat→Prop,PQ P wf W3=P3:=⟨_,rfl⟩;have pI:P3 w2.heap.size:=by rw[←e0];exact Or.inr ⟨by omega,by omega⟩
 have pR:P3 w.heap.size:=by rw[←e0];exact Or.inr ⟨by omega,by omega⟩
 have pF:=g6.pf;rw[e0]at h3 g6 pF;have j5:=hid (sJ (s:={s with left:=sl}) IH h3 g6 e3 j4 b9 hd j1 h9 b5.out 0 (by omega) pp op nn xi.pn xi.pc cc xi.pa a9);have k9:=hid (mq (inp:=inp) (d:=d) (s:={s with left:=sl}) hR e3 n7 b5.out 0 j1 j4 b9);rw[show((0:Nat):Int)=0 from rfl]at j5;refine j5.out.mono ?_;rintro en w4 ⟨g4,s9,s3,q6,q4,hq⟩;have o5:=g6.but g4;have d0:=(g4.block _ (ae g7) (fun hf=>hf.2 pI)).trans g7;have p4:=ae d0;have m4:=f6.but g4 (fun hf=>hf.2 pR);have b0:=k9.out;have f3:=k0.out;clear j5 g6 h3
 cases hn:jG im inp f b d ps 0 l {s with left:=sl}with
 |bad e o=>
  rw[hn]at hq b0 f3;obtain⟨rfl,s4,l4,ho,i5⟩:=hq;subst f3;obtain⟨e1,e2⟩:=fK b0.1 b0.2;have HF:=hid (fun a b=>StQ.fin e9 (by omega) (e0▸i5) (e0▸g4) (r:=w.heap.size) (by omega) f6 a b);obtain⟨K9,N9,r0,r1,z0,z1,j3⟩:=m4.parts;have m5:w.heap.size<w4.heap.size+1:=by omega
  clear k9 k0 b0 hn d0 i5 g7 i9 b5 Hf b3;go_wp2_with fail;exact cV Tryz.results93 rfl rfl rfl (yO m4) ⟨e8.out.trans ((HF.out _ _).2.1.trans (But.alloc _ _ _)),_,_,_,_,rfl,s4,l4,ho,(HF.out _ _).2.2.new (But.alloc _ _ _)⟩
 |ok u l4 s4=>
  rw[hn]at hq b0 f3;obtain⟨rfl,i5⟩:=hq;obtain⟨y1,y2,y3,y4,y5⟩:=b0;simp only at y3 y4;simp only[gj]at f3;have n4:=hid f3;have i0:=ce0 d0;have i1:=ce1 d0;have i2:=ce2 d0;have i3:=ce3 d0;have i4:=ce4 d0;have h5:=i5.grown1 (c:=#[.int .i32 (xN u),.int .i64 (xO u)]) (t:=168) (by decide);have h6:(w4.alloc (.cells #[.int .i32 (xN u),.int .i64 (xO u)] 168)).heap.size=w4.heap.size+1:=by simp
  have f5:But (fun _=>False) w4 (w4.alloc (.cells #[.int .i32 (xN u),.int .i64 (xO u)] 168)):=But.alloc _ _ _;have h7:=heap_alloc_new w4 (.cells #[.int .i32 (xN u),.int .i64 (xO u)] 168);clear f3 k9 k0 hn;simp only[aG];go_wp2_with fail;revert h5 h6 f5 h7;generalize (w4.alloc (.cells #[.int .i32 (xN u),.int .i64 (xO u)] 168))=W5;intro h5 h6 f5 h7;clear i0 i1 i2 i3 i4;obtain⟨P5,l5⟩: ∃P5:Nat→Prop,PQ P3 w4 W5=P5:=⟨_,rfl⟩;have f8: ∀k,P3 k→P5 k:=fun k hk=>by rw[←l5];exact Or.inl hk
  have pU:P5 w4.heap.size:=by rw[←l5];exact Or.inr ⟨by omega,by omega⟩
  rw[l5]at h5;have l3:FrS P5 w0 W5 im b bf d X vl vi bl:=(o5.but (f5.mono (fun _ _ h=>h.elim))).mono (f8 _ pF);have i7:s4.left≤f:=by omega
  have j7:=hid (sJ IH h5 l3 e3 y2 i7 hd y1 h9 b5.out 1 (by omega) pp op nn xi.pn xi.pc cc xi.pa a9);have n5:=hid (mq (inp:=inp) (d:=d) hR e3 n7 b5.out 1 y1 y2 i7);rw[show((1:Nat):Int)=1 from rfl]at j7;refine j7.out.mono ?_;rintro en w6 ⟨g5,t3,s5,q7,q5,hq⟩;have o6:=l3.but g5;have d5:=(f5.block _ p4 (fun h=>h)).trans d0;have d6:=(g5.block _ (ae d5) (fun hf=>hf.2 (f8 _ pI))).trans d5;have b6:=(g5.block _ (ae h7) (fun hf=>hf.2 pU)).trans h7;have r4:=ae d6;have r5:=ae b6;have n8:=(m4.but f5 (fun h=>h)).but g5 (fun hf=>hf.2 (f8 _ pR));have g3:But (FrQ P3 w0) W3 w6:=(g4.trans (f5.mono (fun _ _ h=>h.elim))).trans (g5.mono (fun k _ hf=>⟨hf.1,fun hp=>hf.2 (f8 k hp)⟩))
  have b0:=n5.out;have f4:=n4.out;clear j7 n4 n5 h5 l3 d5 d0 h7 i5
  cases hn:jG im inp f b d ps 1 l4 s4 with
  |bad e o=>
   rw[hn]at hq b0 f4;obtain⟨rfl,s6,l6,ho,i6⟩:=hq;subst f4;obtain⟨e1,e2⟩:=fK b0.1 b0.2;have HF:=hid (fun a b=>StQ.fin e9 (by omega) (e0▸i6.less f8) (e0▸g3) (r:=w.heap.size) (by omega) f6 a b);obtain⟨K9,N9,r0,r1,z0,z1,j3⟩:=n8.parts;have m5:w.heap.size<w6.heap.size+1:=by omega
   clear b0 hn i6 i9 b5 Hf b3 d6 b6 y5;go_wp2_with fail;exact cV Tryz.results93 rfl rfl rfl (yO n8) ⟨e8.out.trans ((HF.out _ _).2.1.trans (But.alloc _ _ _)),_,_,_,_,rfl,s6,l6,ho,(HF.out _ _).2.2.new (But.alloc _ _ _)⟩
  |ok v l6 s6=>
   rw[hn]at hq b0 f4;obtain⟨rfl,i6⟩:=hq;obtain⟨x1,x2,x3,x4,x5⟩:=b0;simp only[gj]at f4;have n0:s6.left≤f:=by omega
   have HD:=hid (fun ob=>Ad IH (i6.new (But.alloc (fun _=>False) w6 ob)) (o6.but (But.alloc _ w6 ob)) hT htab hR h40 x2 n0 hd x q3 x1 h111 h105 (hR.lk b e3 x (List.mem_of_getElem? o3.out)) n1 u v (fun t ht=>(y5 t ht).ext x3) x5 i9.out pp xi.pn xi.pc xi.pa);unfold itN at HD;rw[h8,p2,p8,f4]at HD;have i0:=ce0 d6;have i1:=ce1 d6;have i2:=ce2 d6;have i3:=ce3 d6;have i4:=ce4 d6;have u0:=ce0 b6;have u1:=ce1 b6;have r6:w2.heap.size<w6.heap.size+1:=by omega
   have r8:w4.heap.size<w6.heap.size+1:=by omega
   clear f4 hn i6 i9 b5 Hf b3 d6 b6 y5 x5;simp only[aG]at HD⊢;go_wp2_with fail;refine(HD.out _).mono ?_;intro en w8 e6;obtain⟨K,N,e,rfl,a8⟩:=ReV.pass e9 (by omega) (e0▸(e6.less f8).since (g3.trans (But.alloc _ _ _)));obtain⟨e5,e4⟩:=a8 w.heap.size (by omega) f6;obtain⟨K9,N9,r0,r1,f0,f1,j3⟩:=e5.parts;have HF:=hid (e4.since e8.out);clear e4 a8 e6 HD i0 i1 i2 i3 i4 u0 u1;go_wp2_with fail;exact cV Tryz.results93 rfl rfl rfl (e5.put _ _) HF.out
theorem yR (w0:World) (be bw tx:Nat) (inp:ByteArray) (h40:inp.size≤40) (im:Img) (hT:dC w0 tx im) (htab:dc w0) (hR:dB im): ∀f,jF im inp w0 be bw tx f:=by
 intro f
 induction f with
 |zero=>
  intro b d i l s t F B P w bl lv vo vb gs fv bf X vl vi a0 hd a3 a1 hs a2 h hF;rw[fJ (by omega)];exact og h (by omega)
 |succ f ih=>exact wN w0 be bw tx inp h40 im hT htab hR ih
end
end Go.Proofs.YtpfkkmacakjmbaaGreatDoor
