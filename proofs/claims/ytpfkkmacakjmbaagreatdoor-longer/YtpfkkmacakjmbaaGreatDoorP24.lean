import Derived.Test.YtpfkkmacakjmbaaGreatDoorP23
set_option maxRecDepth 100000
set_option maxHeartbeats 6400000
set_option linter.unusedSimpArgs false
set_option linter.unusedVariables false
namespace Go.Proofs.YtpfkkmacakjmbaaGreatDoor
section
open Go Go.RowKit Sp
attribute [local go_sem ↓] Go.wp_at_zero Go.wp_at_succ
structure PaW (w W:World) (pl op n pn pc:Nat) (c:UInt8) (pa:Option Addr):Prop where
 nb:NB w W
 b0:W.heap[w.heap.size]?=some (.cells #[.int .i64 pl,.int .u8 op,.int .u8 c.toNat,.int .i64 n,.slice pa pn pc] 219)
 b1:W.heap[w.heap.size+1]?=some (.cells #[.int .i32 0,.int .i64 0] 168)
 sz:W.heap.size=w.heap.size+1+1
theorem paW {w:World} {pl op n pn pc:Nat} {c:UInt8} {pa:Option Addr}:PaW w ((w.alloc (.cells #[.int .i64 pl,.int .u8 op,.int .u8 c.toNat,.int .i64 n,.slice pa pn pc] 219)).alloc (.cells #[.int .i32 0,.int .i64 0] 168)) pl op n pn pc c pa:=
 ⟨((NB.refl w).alloc (by decide)).alloc (by decide),((But.alloc (fun _=>False) _ _).block _ (by simp) (fun h=>h)).trans (heap_alloc_new w _),aq (by simp) _,by simp⟩
section
variable {P:Nat→Prop} {w0 w:World} {be bw tx bl:Nat} {inp:ByteArray} {s:Ev} {lv vo vb:Value} {l:List V} {gs:List Nat} {fv:List Value} {im:Img} {b:Bod} {bf d:Nat} {Xb:bz} {vl vi:Value}
theorem xE (h:StQ P w0 w be bw tx inp s bl lv l vo vb gs fv) (pl op n pn pc k:Nat) (c:UInt8) (pa:Option Addr) (hk:pn≤k) (hk3:k≤3):
  Calls Tryz.prog 155 #[.pointer (some ⟨be,0,none⟩),.pointer (some ⟨bf,0,none⟩),.agg #[.int .i64 pl,.int .u8 op,.int .u8 c.toNat,.int .i64 n,.slice pa pn pc],.int .i64 k] w (ReV P w0 w be bw tx inp bl lv (.ok .z l s)):=by
 have HH:=hid h;have k1: ¬((k:Int)<0):=by omega
 have k2:(pn:Int)≤(k:Int):=by omega
 clear h
 go_in
 go_wp2_with fail;have hP:=paW (w:=w) (pl:=pl) (op:=op) (n:=n) (pn:=pn) (pc:=pc) (c:=c) (pa:=pa);exact cU Tryz.results155 rfl rfl rfl (aq (by simp) _) ⟨hP.nb.but.mono (fun _ _ h=>h.elim),vo,vb,gs,fv,rfl,HH.out.new hP.nb.but⟩
theorem i8 {f B F:Nat} {t:UInt8} (IH:jQ im inp w0 be bw tx f) (h:StQ P w0 w be bw tx inp s bl lv l vo vb gs fv) (hF:FrS P w0 w im b bf d Xb vl vi bl) (hbm:b∈im.bodies) (hs:StT im B s) (hsf:s.left≤f) (hd:d≤12) (hll:LT im.classes s.heap b.locals l) (ps:List Nat) (hps:ps.length≤3) (k j:Nat) (hk:ps[k]?=some j) (hty:bY im.classes im.sigs b.locals b.code F j=some t) (pl op n pn pc:Nat) (c:UInt8) (pa:Option Addr) (hrow:w0.ownsRow 0 3 1 (.slice pa pn pc) ps.length (dN ps)):
  Calls Tryz.prog 155 #[.pointer (some ⟨be,0,none⟩),.pointer (some ⟨bf,0,none⟩),.agg #[.int .i64 pl,.int .u8 op,.int .u8 c.toNat,.int .i64 n,.slice pa pn pc],.int .i64 k] w (ReV P w0 w be bw tx inp bl lv (bn im inp f b d j l s)):=by
 have b4:=(List.getElem?_eq_some_iff.1 hk).1;obtain⟨a',cap',a8⟩:=aw hrow;injection a8 with e1 e2 e3;subst e1 e2 e3;obtain⟨g,rfl,a3,b0,a0⟩:=aI hrow (by omega);have q0:w0.cell? ⟨g,k,none⟩=some (.int .i64 j):=a0 _ _ (by simp[dN,hk]);replace q0:=h.old.kc q0 a3;replace a3:=Nat.lt_of_lt_of_le a3 h.old.size;have a2:=hid (paW (w:=w) (pl:=pl) (op:=op) (n:=n) (pn:=ps.length) (pc:=pc) (c:=c) (pa:=some ⟨g,0,none⟩));have HC:=hid (fun X (hX:NB w X)=>IH b d j l s t F B _ X bl lv vo vb gs fv bf Xb vl vi hbm hd hty hll hs hsf (h.grown hX) (hF.grown hX));obtain⟨RR,a4⟩: ∃RR,bn im inp f b d j l s=RR:=⟨_,rfl⟩;rw[a4]at HC⊢
 have h0:=h.old.size;have k1: ¬((k:Int)<0):=by omega
 have k2: ¬((ps.length:Int)≤(k:Int)):=by omega
 have k3:(k:Int)<(ps.length:Int):=by omega
 have b2:g<w.heap.size+1:=by omega
 have b3:g<w.heap.size+1+1:=by omega
 clear h hF hk hrow a0 a4 hty hll hs;generalize ps.length=np at*
 go_in
 go_wp2_with fail;refine(HC.out _ a2.out.nb).mono ?_;intro en w1 a7;obtain⟨K,N,e,rfl,a1⟩:=ReV.pass a2.out.nb h0 a7;obtain⟨a6,a5⟩:=a1 (w.heap.size+1) (by omega) ⟨0,0,a2.out.b1⟩;obtain⟨K9,N9,r0,r1,z0,z1,b5⟩:=a6.parts;have HF:=hid a5;clear a5 a1 a7 HC a2;go_wp2_with fail;exact cU Tryz.results155 rfl rfl rfl (a6.put _ _) HF.out
end
def gG:R→(V→List V→Ev→R)→R
 | .bad e o,_=> .bad e o
 | .ok u l s,k=>k u l s
theorem fQ {e:Nat} (h1:5≤e) (h2:e≤10):(bK e !=0)=true∧(bK e==0)=false:=by
 have:e=5∨e=6∨e=7∨e=8∨e=9∨e=10:=by omega
 rcases this with rfl|rfl|rfl|rfl|rfl|rfl<;>decide
theorem zz {w:World} {r:Nat} {K N:Int} {ob:Obj} (h:cP w r):(((w.setCell ⟨r,0,none⟩ (.int .i32 K)).setCell ⟨r,1,none⟩ (.int .i64 N)).alloc ob).heap[r]?=some (.cells #[.int .i32 K,.int .i64 N] 168):=
 ((But.alloc (fun _=>False) _ _).block r (ae (h.put K N)) (fun h=>h)).trans (h.put K N)
section
variable {P:Nat→Prop} {w0 w w1:World} {be bw tx bl:Nat} {inp:ByteArray} {s:Ev} {lv vo vb:Value} {l:List V} {gs:List Nat} {fv:List Value} {im:Img} {b:Bod} {bf d:Nat} {Xb:bz} {vl vi:Value}
theorem ReV.since {r:R} {en:Ending} {w2:World} (hB:But (FrQ P w0) w w1) (h:ReV P w0 w1 be bw tx inp bl lv r en w2):ReV P w0 w be bw tx inp bl lv r en w2:=⟨hB.trans h.1,h.2⟩
theorem uE {f B F:Nat} {t0 t1 t2:UInt8} (hR:dz im) (IH:jQ im inp w0 be bw tx f) (h:StQ P w0 w be bw tx inp s bl lv l vo vb gs fv) (hF:FrS P w0 w im b bf d Xb vl vi bl) (hbm:b∈im.bodies) (hs:StT im B s) (hsf:s.left≤f) (hd:d≤12) (hll:LT im.classes s.heap b.locals l) (j0 j1 j2:Nat) (g0:bY im.classes im.sigs b.locals b.code F j0=some t0) (h105:t0.toNat=105) (g1:bY im.classes im.sigs b.locals b.code F j1=some t1) (g2:bY im.classes im.sigs b.locals b.code F j2=some t2) (pl op n pn pc:Nat) (c:UInt8) (pa:Option Addr) (hrow:w0.ownsRow 0 3 1 (.slice pa pn pc) 3 (dN [j0,j1,j2])):
  Calls Tryz.prog 153 #[.pointer (some ⟨be,0,none⟩),.pointer (some ⟨bf,0,none⟩),.agg #[.int .i64 pl,.int .u8 op,.int .u8 c.toNat,.int .i64 n,.slice pa pn pc]] w (ReV P w0 w be bw tx inp bl lv (gG (bn im inp f b d j0 l s) (fun u l s=>bn im inp f b d (if u.N=0 then j2 else j1) l s))):=by
 have a5:=hid (paW (w:=w) (pl:=pl) (op:=op) (n:=n) (pn:=pn) (pc:=pc) (c:=c) (pa:=pa));have HC:=hid (fun X (hX:NB w X)=>i8 IH (h.grown hX) (hF.grown hX) hbm hs hsf hd hll [j0,j1,j2] (by simp) 0 j0 rfl g0 pl op n pn pc c pa hrow);have d6:=hid (ey hR inp f B b d j0 l s t0 F hbm g0 hll hs hsf);obtain⟨RR,e0⟩: ∃RR,gG (bn im inp f b d j0 l s) (fun u l s=>bn im inp f b d (if u.N=0 then j2 else j1) l s)=RR:=⟨_,rfl⟩;rw[e0];have c6:=hid e0;have h0:=h.old.size;have e5:=hid hF;clear h hF e0 hll;rw[show((0:Nat):Int)=0 from rfl]at HC
 go_in
 go_wp2_with fail;revert a5;generalize ((w.alloc (.cells #[.int .i64 pl,.int .u8 op,.int .u8 c.toNat,.int .i64 n,.slice pa pn pc] 219)).alloc (.cells #[.int .i32 0,.int .i64 0] 168))=W;intro a5;have hD:=a5.out;have f1:=hD.sz;have hN:=hD.nb;refine(HC.out W hN).mono ?_;rintro en w1 ⟨a3,f3,f2,e9,e8,hq⟩;clear HC;have a8:=(e5.out.grown hN).but a3;have pI:PQ P w W w.heap.size:=Or.inr ⟨Nat.le_refl _,by omega⟩;have pR:PQ P w W (w.heap.size+1):=Or.inr ⟨by omega,by omega⟩;have d0:=(a3.block _ (by omega) (fun hf=>hf.2 pI)).trans hD.b0;have f0:=ae d0;have b9:cP W (w.heap.size+1):=⟨0,0,hD.b1⟩;have a2:=d6.out
 have a1:=c6.out
 cases hn:bn im inp f b d j0 l s with
 |bad e o=>
  rw[hn]at hq a2 a1;obtain⟨rfl,s1,l1,ho,a4⟩:=hq;subst a1;obtain⟨e1,e2⟩:=fQ a2.1 a2.2.1;have HF:=hid (fun a b=>StQ.fin hN h0 a4 a3 (r:=w.heap.size+1) (by omega) b9 a b);have e3:=b9.but a3 (fun hf=>hf.2 pR);obtain⟨K9,N9,r0,r1,z0,z1,e4⟩:=e3.parts;have e7:w.heap.size+1<w1.heap.size+1:=by omega
  clear d6 c6 a2 hn a5 hD d0 a4;go_wp2_with fail;exact cU Tryz.results153 rfl rfl rfl (zz e3) ⟨(HF.out _ _).2.1.trans (But.alloc _ _ _),_,_,_,_,rfl,s1,l1,ho,(HF.out _ _).2.2.new (But.alloc _ _ _)⟩
 |ok u l1 s1=>
  rw[hn]at hq a2 a1;obtain⟨rfl,a4⟩:=hq;obtain⟨y1,y2,y3,y4,y5⟩:=a2;obtain⟨m,rfl,m1,m2⟩:=y1.int h105;simp only[gG,V.N]at a1;have b5:s1.left≤f:=by omega
  have b6: ∀ob,But (FrQ (PQ P w W) w0) w1 (w1.alloc ob):=fun ob=>But.alloc _ _ _
  have a6:=hid (fun ob=>i8 IH (a4.new (But.alloc (fun _=>False) w1 ob)) (a8.but (b6 ob)) hbm y3 b5 hd y2 [j0,j1,j2] (by simp) 1 j1 rfl g1 pl op n pn pc c pa hrow);have a7:=hid (fun ob=>i8 IH (a4.new (But.alloc (fun _=>False) w1 ob)) (a8.but (b6 ob)) hbm y3 b5 hd y2 [j0,j1,j2] (by simp) 2 j2 rfl g2 pl op n pn pc c pa hrow);rw[show((1:Nat):Int)=1 from rfl]at a6;rw[show((2:Nat):Int)=2 from rfl]at a7;have i0:=ce0 d0;have i1:=ce1 d0;have i2:=ce2 d0;have i3:=ce3 d0;have i4:=ce4 d0;clear d6 c6 hn a5 d0 a4 y1;simp only[aG,xN,xO]
  by_cases hm:m=0
  ·simp only[hm,if_true]at a1;have e6:(m==0)=true:=by simpa using hm
   rw[a1]at a7;clear a1 a6 hm;go_wp2_with fail;refine(a7.out _).mono ?_;intro en w2 b4;obtain⟨K,N,e,rfl,a0⟩:=ReV.pass hN h0 (b4.since (a3.trans (b6 _)));obtain⟨b3,b2⟩:=a0 (w.heap.size+1) (by omega) b9;obtain⟨K9,N9,r0,r1,z0,z1,e4⟩:=b3.parts;have HF:=hid b2;clear b2 a0 b4 a7 i0 i1 i2 i3 i4;go_wp2_with fail;exact cU Tryz.results153 rfl rfl rfl (b3.put _ _) HF.out
  ·simp only[hm,if_false]at a1;have e6:(m==0)=false:=by simpa using hm
   rw[a1]at a6;clear a1 a7 hm;go_wp2_with fail;refine(a6.out _).mono ?_;intro en w2 b4;obtain⟨K,N,e,rfl,a0⟩:=ReV.pass hN h0 (b4.since (a3.trans (b6 _)));obtain⟨b3,b2⟩:=a0 (w.heap.size+1) (by omega) b9;obtain⟨K9,N9,r0,r1,z0,z1,e4⟩:=b3.parts;have HF:=hid b2;clear b2 a0 b4 a6 i0 i1 i2 i3 i4;go_wp2_with fail;exact cU Tryz.results153 rfl rfl rfl (b3.put _ _) HF.out
end
def sY (cc dd:List V→Ev→R) (g:Nat) (n:Int) (l:List V) (s:Ev):R:=if n=0 then .ok (.i 0) l s else gG (dd l s) (fun _ l s=>d7 cc dd g l s)
theorem sZ {cc dd:List V→Ev→R} {g:Nat} {l l1:List V} {s s1:Ev} {n:Int} (h:cc l s= .ok (.i n) l1 s1):d7 cc dd (g+1) l s=sY cc dd g n l1 s1:=by
 simp only[d7,h,sY,V.N]
 by_cases h0:n=0
 ·simp[h0]
 ·simp only[h0,if_false]
  cases dd l1 s1<;>rfl
def s7 (P2:Nat→Prop) (w0:World) (be bw tx:Nat) (inp:ByteArray) (bl:Nat) (lv:Value) (im:Img) (B:Nat) (lo:List UInt8) (cc dd:List V→Ev→R) (RR:R) (r8 mm:Nat) (e9:Int) (wr:World):Prop:=
 (e9=0∧ ∃(g:Nat) (n:Int) (l:List V) (s:Ev) (vo vb:Value) (gs:List Nat) (fv:List Value),wr.heap[r8]?=some (.cells #[.int .i32 n,.int .i64 0] 168)∧StQ P2 w0 wr be bw tx inp s bl lv l vo vb gs fv∧LT im.classes s.heap lo l∧StT im B s∧s.left≤g∧g+1≤mm∧RR=sY cc dd g n l s)∨
 (∃(e:Nat) (o:List UInt8),e9=bK e∧5≤e∧e≤10∧RR= .bad e o∧cP wr r8∧ ∃(s:Ev) (l:List V) (vo vb:Value) (gs:List Nat) (fv:List Value),s.out=o∧StQ P2 w0 wr be bw tx inp s bl lv l vo vb gs fv)
section
variable {P P2:Nat→Prop} {w0 w w1:World} {be bw tx bl:Nat} {inp:ByteArray} {s:Ev} {lv vo vb:Value} {l:List V} {gs:List Nat} {fv:List Value} {im:Img} {b:Bod} {bf d:Nat} {Xb:bz} {vl vi:Value}
theorem FrS.mono (h:FrS P w0 w im b bf d Xb vl vi bl) (hp:P2 bf):FrS P2 w0 w im b bf d Xb vl vi bl:=⟨h.fr,hp,h.bd⟩
theorem StQ.lay (h:StQ P w0 w be bw tx inp s bl lv l vo vb gs fv) {r:Nat} (hp:P r) (h0:w0.heap.size≤r) (hx:cP w r) (K N:Int):StQ P w0 ((w.setCell ⟨r,0,none⟩ (.int .i32 K)).setCell ⟨r,1,none⟩ (.int .i64 N)) be bw tx inp s bl lv l vo vb gs fv:=
 h.tmp (F:=(· =r)) (cS _ _ _ _) (fun k e=>by have e:k=r:=e;subst e;exact⟨hp,h0⟩) (fun k e c fz he=>by have e:k=r:=e;subst e;rw[hx.put]at he;cases he)
theorem StQ.grown1 {c:Array Value} {t:Nat} (h:StQ P w0 w be bw tx inp s bl lv l vo vb gs fv) (ht:t≠5):StQ (PQ P w (w.alloc (.cells c t))) w0 (w.alloc (.cells c t)) be bw tx inp s bl lv l vo vb gs fv:=h.grown ((NB.refl w).alloc ht)
theorem s7.first {f B F j0:Nat} {t0:UInt8} {dd:List V→Ev→R} {en:Ending} (hR:dz im) (hbm:b∈im.bodies) (hs:StT im B s) (hsf:s.left≤f) (hll:LT im.classes s.heap b.locals l) (g0:bY im.classes im.sigs b.locals b.code F j0=some t0) (h105:t0.toNat=105) (hre:ReV P w0 w be bw tx inp bl lv (bn im inp f b d j0 l s) en w1):
  ∃K N e:Int,en= .returned (.tuple #[.agg #[.int .i32 K,.int .i64 N],.int .i64 e])∧
   ∀RR,d7 (bn im inp f b d j0) dd f l s=RR→s7 (PQ P w1 (w1.alloc (.cells #[.int .i32 K,.int .i64 N] 168))) w0 be bw tx inp bl lv im B b.locals (bn im inp f b d j0) dd RR w1.heap.size (f+1) e (w1.alloc (.cells #[.int .i32 K,.int .i64 N] 168)):=by
 obtain⟨hB,vo,vb,gs,fv,hq⟩:=hre;have HT:=ey hR inp f B b d j0 l s t0 F hbm g0 hll hs hsf
 cases hn:bn im inp f b d j0 l s with
 |bad e o=>
  rw[hn]at hq HT;obtain⟨rfl,s1,l1,ho,a0⟩:=hq;refine⟨_,_,_,rfl,fun RR hRR=>Or.inr ⟨e,o,rfl,HT.1,HT.2.1,?_,⟨_,_,heap_alloc_new _ _⟩,s1,l1,vo,vb,gs,fv,ho,a0.grown1 (by decide)⟩⟩;rw[←hRR];exact pE (fun h=>fP h) hsf hn
 |ok v l1 s1=>
  rw[hn]at hq HT;obtain⟨rfl,a0⟩:=hq;obtain⟨y1,y2,y3,y4,y5⟩:=HT;obtain⟨m,rfl,m1,m2⟩:=y1.int h105
  have a1:0<s.left:=by
   rcases Nat.eq_zero_or_pos s.left with h|h
   ·rw[fP h]at hn;cases hn
   ·exact h
  refine⟨m,0,0,rfl,fun RR hRR=>Or.inl ⟨rfl,f-1,m,l1,s1,vo,vb,gs,fv,heap_alloc_new _ _,a0.grown1 (by decide),y2,y3,by omega,by omega,?_⟩⟩;obtain⟨g,rfl⟩: ∃g,f=g+1:=⟨f-1,by omega⟩;rw[←hRR];exact sZ hn
theorem s7.next {f B F j0 g r8 mm:Nat} {t0:UInt8} {dd:List V→Ev→R} {en:Ending} (hR:dz im) (hbm:b∈im.bodies) (hs:StT im B s) (hsf:s.left≤g) (hgf:g≤f) (hll:LT im.classes s.heap b.locals l) (g0:bY im.classes im.sigs b.locals b.code F j0=some t0) (h105:t0.toNat=105) (hre:ReV P w0 w be bw tx inp bl lv (bn im inp f b d j0 l s) en w1) (hp:P r8) (h0:w0.heap.size≤r8) (hx:cP w1 r8) (hm:g+1≤mm+1):
  ∃K N e:Int,en= .returned (.tuple #[.agg #[.int .i32 K,.int .i64 N],.int .i64 e])∧
   ∀RR,d7 (bn im inp f b d j0) dd g l s=RR→s7 P w0 be bw tx inp bl lv im B b.locals (bn im inp f b d j0) dd RR r8 mm e ((w1.setCell ⟨r8,0,none⟩ (.int .i32 K)).setCell ⟨r8,1,none⟩ (.int .i64 N)):=by
 obtain⟨hB,vo,vb,gs,fv,hq⟩:=hre;have HT:=ey hR inp f B b d j0 l s t0 F hbm g0 hll hs (by omega)
 cases hn:bn im inp f b d j0 l s with
 |bad e o=>
  rw[hn]at hq HT;obtain⟨rfl,s1,l1,ho,a0⟩:=hq;refine⟨_,_,_,rfl,fun RR hRR=>Or.inr ⟨e,o,rfl,HT.1,HT.2.1,?_,⟨_,_,hx.put _ _⟩,s1,l1,vo,vb,gs,fv,ho,a0.lay hp h0 hx _ _⟩⟩;rw[←hRR];exact pE (fun h=>fP h) hsf hn
 |ok v l1 s1=>
  rw[hn]at hq HT;obtain⟨rfl,a0⟩:=hq;obtain⟨y1,y2,y3,y4,y5⟩:=HT;obtain⟨m,rfl,m1,m2⟩:=y1.int h105
  have a1:0<s.left:=by
   rcases Nat.eq_zero_or_pos s.left with h|h
   ·rw[fP h]at hn;cases hn
   ·exact h
  refine⟨m,0,0,rfl,fun RR hRR=>Or.inl ⟨rfl,g-1,m,l1,s1,vo,vb,gs,fv,hx.put _ _,a0.lay hp h0 hx _ _,y2,y3,by omega,by omega,?_⟩⟩;obtain⟨g',rfl⟩: ∃g',g=g'+1:=⟨g-1,by omega⟩;rw[←hRR];exact sZ hn
theorem uF {f B F:Nat} {t0 t1:UInt8} (hR:dz im) (IH:jQ im inp w0 be bw tx f) (h:StQ P w0 w be bw tx inp s bl lv l vo vb gs fv) (hF:FrS P w0 w im b bf d Xb vl vi bl) (hbm:b∈im.bodies) (hs:StT im B s) (hsf:s.left≤f) (hd:d≤12) (hll:LT im.classes s.heap b.locals l) (j0 j1:Nat) (g0:bY im.classes im.sigs b.locals b.code F j0=some t0) (h105:t0.toNat=105) (g1:bY im.classes im.sigs b.locals b.code F j1=some t1) (pl op n pn pc:Nat) (c:UInt8) (pa:Option Addr) (hrow:w0.ownsRow 0 3 1 (.slice pa pn pc) 2 (dN [j0,j1])):
  Calls Tryz.prog 154 #[.pointer (some ⟨be,0,none⟩),.pointer (some ⟨bf,0,none⟩),.agg #[.int .i64 pl,.int .u8 op,.int .u8 c.toNat,.int .i64 n,.slice pa pn pc]] w (ReV P w0 w be bw tx inp bl lv (d7 (bn im inp f b d j0) (bn im inp f b d j1) f l s)):=by
 have e8:=hid (paW (w:=w) (pl:=pl) (op:=op) (n:=n) (pn:=pn) (pc:=pc) (c:=c) (pa:=pa));have HC:=hid (fun X (hX:NB w X)=>i8 IH (h.grown hX) (hF.grown hX) hbm hs hsf hd hll [j0,j1] (by simp) 0 j0 rfl g0 pl op n pn pc c pa hrow);obtain⟨RR,a6⟩: ∃RR,d7 (bn im inp f b d j0) (bn im inp f b d j1) f l s=RR:=⟨_,rfl⟩;rw[a6];have h0:=h.old.size;have f7:=hid hF;rw[show((0:Nat):Int)=0 from rfl]at HC
 go_in
 go_wp2_with fail;revert e8;generalize ((w.alloc (.cells #[.int .i64 pl,.int .u8 op,.int .u8 c.toNat,.int .i64 n,.slice pa pn pc] 219)).alloc (.cells #[.int .i32 0,.int .i64 0] 168))=W;intro e8;have hD:=e8.out;have m5:=hD.sz;have hN:=hD.nb;refine(HC.out W hN).mono ?_;intro en w1 a7;have d6:=a7.1;obtain⟨K,N,e,rfl,e6⟩:=s7.first hR hbm hs hsf hll g0 h105 a7;have HI:=hid (e6 RR a6);have a3:=f7.out.grown hN;have e5:=a3.but d6;have pI:PQ P w W w.heap.size:=Or.inr ⟨Nat.le_refl _,by omega⟩;have pR:PQ P w W (w.heap.size+1):=Or.inr ⟨by omega,by omega⟩;have d0:=(d6.block _ (by omega) (fun hf=>hf.2 pI)).trans hD.b0
 have f5:cP W (w.heap.size+1):=⟨0,0,hD.b1⟩;have j4:=ae d0;have m0:w.heap.size+1<w1.heap.size:=Nat.lt_of_lt_of_le (by omega) d6.size;clear HC f7 e6 a7 a6 h hF e8;go_wp2_with fail;have e0:But (fun _=>False) w1 (w1.alloc (.cells #[.int .i32 K,.int .i64 N] 168)):=But.alloc _ _ _;have f6:(w1.alloc (.cells #[.int .i32 K,.int .i64 N] 168)).heap.size=w1.heap.size+1:=by simp
 revert HI e0 f6;generalize (w1.alloc (.cells #[.int .i32 K,.int .i64 N] 168))=W2;intro HI e0 f6;obtain⟨P2,f0⟩: ∃P2:Nat→Prop,PQ (PQ P w W) w1 W2=P2:=⟨_,rfl⟩;have p1: ∀k,PQ P w W k→P2 k:=fun k hk=>by rw[←f0];exact Or.inl hk
 have p8:P2 w1.heap.size:=by rw[←f0];exact Or.inr ⟨Nat.le_refl _,by omega⟩
 rw[f0]at HI;have b3:w0.heap.size≤w1.heap.size:=by omega
 have g7: ∀{X Y:World},But (FrQ P2 w0) X Y→But (FrQ (PQ P w W) w0) X Y:=fun h=>h.mono (fun k _ hf=>⟨hf.1,fun hp=>hf.2 (p1 k hp)⟩)
 have l4: ∀{Y:World},But (FrQ (PQ P w W) w0) W Y→But (FrQ P w0) w Y:=fun h=>(hN.but.mono (fun _ _ h=>h.elim)).trans (h.mono (fun k _ hf=>⟨hf.1,fun hp=>hf.2 (Or.inl hp)⟩))
 have e3:But (FrQ (PQ P w W) w0) W W2:=d6.trans (e0.mono (fun _ _ h=>h.elim));have b2: ∀{Y:World} (a b:Int),But (FrQ (PQ P w W) w0) W Y→But (FrQ (PQ P w W) w0) W ((Y.setCell ⟨w1.heap.size,0,none⟩ (.int .i32 a)).setCell ⟨w1.heap.size,1,none⟩ (.int .i64 b)):=fun a b h=>h.next (cS _ _ _ _) (fun k hk e=>by have e:k=w1.heap.size:=e;omega)
 have f3:=e5.but (e0.mono (fun _ _ h=>h.elim));have a1:=hid (fun(X:World) (hX:But (FrQ (PQ P w W) w0) W X)=>((a3.but hX).mono (p1 _ a3.pf):FrS P2 w0 X im b bf d Xb vl vi bl));have c6:=hid (fun(X:World) (l:List V) (s:Ev) (vo vb:Value) (gs:List Nat) (fv:List Value) (hq:StQ P2 w0 X be bw tx inp s bl lv l vo vb gs fv) (hFX:FrS P2 w0 X im b bf d Xb vl vi bl) (ht:StT im B s) (hl:s.left≤f) (hll:LT im.classes s.heap b.locals l)=>i8 IH hq hFX hbm ht hl hd hll [j0,j1] (by simp) 1 j1 rfl g1 pl op n pn pc c pa hrow);have b9:=hid (fun(X:World) (l:List V) (s:Ev) (vo vb:Value) (gs:List Nat) (fv:List Value) (hq:StQ P2 w0 X be bw tx inp s bl lv l vo vb gs fv) (hFX:FrS P2 w0 X im b bf d Xb vl vi bl) (ht:StT im B s) (hl:s.left≤f) (hll:LT im.classes s.heap b.locals l)=>i8 IH hq hFX hbm ht hl hd hll [j0,j1] (by simp) 0 j0 rfl g0 pl op n pn pc c pa hrow)
 rw[show((1:Nat):Int)=1 from rfl]at c6;rw[show((0:Nat):Int)=0 from rfl]at b9;have HD:=hid hD;clear e5 f3 d6 e0 hD d0 hs hsf hll hrow IH f0 a3
 go_loopg [9] (f+1) (fun mm v9 wr=> ∃e9:Int,v9= .int .i64 e9∧But (FrQ (PQ P w W) w0) W wr∧mm≤f+1∧Hid (s7 P2 w0 be bw tx inp bl lv im B b.locals (bn im inp f b d j0) (bn im inp f b d j1) RR w1.heap.size mm e9 wr))
 case atStart=>exact⟨e,rfl,e3,Nat.le_refl _,HI⟩
 case round=>
  obtain⟨e9,rfl,b6,l5,HL⟩:=hrel;clear HI e3 f6;have d0:=(b6.block _ (by omega) (fun hf=>hf.2 pI)).trans HD.out.b0;have f4:=f5.but b6 (fun hf=>hf.2 pR);have j4:=ae d0;obtain⟨Ka,Na,r0,r1,z0,z1,m4⟩:=f4.parts;rcases HL.out with⟨rfl,g,m,l1,s1,h7,h5,g3,f9,h8,b4,y2,y3,m2,l6,a6⟩ | ⟨e,o,rfl,j2,j3,rfl,h8,s1,l1,h7,h5,g3,f9,ho,b4⟩
  ·have a0:=ce0 h8;have m1:=ae h8
   by_cases hm:m=0
   ·subst hm;have a4:RR= .ok (.i 0) l1 s1:=by rw[a6];simp[sY]
    subst a4;have HF:=hid (fun a b=>StQ.fin hN h0 (b4.less p1) b6 (r:=w.heap.size+1) (by omega) f5 a b);clear a6 HL b4 h8 c6 b9 a1 HD d0;go_wp2_with fail;exact cU Tryz.results154 rfl rfl rfl (f4.put _ _) ⟨(HF.out _ _).2.1,_,_,_,_,rfl,(HF.out _ _).2.2⟩
   ·have a4:RR=gG (bn im inp f b d j1 l1 s1) (fun _ l s=>d7 (bn im inp f b d j0) (bn im inp f b d j1) g l s):=by rw[a6];simp[sY,hm]
    have m3:(m !=0)=true:=by simpa using hm
    have HC:=hid (c6.out wr l1 s1 h7 h5 g3 f9 b4 (a1.out wr b6) y3 (by omega) y2);have f2:=hid (ey hR inp f B b d j1 l1 s1 t1 F hbm g1 y2 y3 (by omega));have f1:=hid a4;have i5:cP wr w1.heap.size:=⟨_,_,h8⟩;have i0:=ce0 d0;have i1:=ce1 d0;have i2:=ce2 d0;have i3:=ce3 d0;have i4:=ce4 d0;clear a6 a4 HL b4 c6 h8 d0 hm y2 y3 r0 r1 z0 z1;go_wp2_with fail;refine HC.out.mono ?_;rintro en w2 ⟨g6,h9,h6,g4,g2,hq⟩;clear HC i0 i1 i2 i3 i4 a0;have a2:=b6.trans (g7 g6);have b5:=i5.but g6 (fun hf=>hf.2 p8);have d0:=(a2.block _ (by omega) (fun hf=>hf.2 pI)).trans HD.out.b0;obtain⟨K8,N8,q0,q1,o0,o1,j7⟩:=b5.parts
    have a5:=f2.out;have a8:=f1.out
    cases hn:bn im inp f b d j1 l1 s1 with
    |bad e o=>
     rw[hn]at hq a5 a8;obtain⟨rfl,s2,l2,ho,e7⟩:=hq;obtain⟨e1,e2⟩:=fQ a5.1 a5.2.1;have HN:Hid (s7 P2 w0 be bw tx inp bl lv im B b.locals (bn im inp f b d j0) (bn im inp f b d j1) RR w1.heap.size g (bK e) ((w2.setCell ⟨w1.heap.size,0,none⟩ (.int .i32 0)).setCell ⟨w1.heap.size,1,none⟩ (.int .i64 0))):=Or.inr ⟨e,o,rfl,a5.1,a5.2.1,a8,⟨_,_,b5.put 0 0⟩,s2,l2,h9,h6,g4,g2,ho,e7.lay p8 b3 b5 0 0⟩;have e4:=b2 0 0 a2;clear e7 f2 f1 a8 a5 hn d0 a2;go_wp2_with fail
     go_roundg g
     case measure=>omega
     case rel=>exact⟨_,rfl,e4,by omega,HN⟩
    |ok u l2 s2=>
     rw[hn]at hq a5 a8;obtain⟨rfl,e7⟩:=hq;obtain⟨x1,x2,x3,x4,x5⟩:=a5;simp only[gG]at a8;have k9: ¬w.heap.size=w1.heap.size:=by omega
     have h1: ¬w1.heap.size=w.heap.size:=by omega
     have e4:=b2 (xN u) (xO u) a2;have h3:=e7.lay p8 b3 b5 (xN u) (xO u);have i7:=(e4.block _ (by omega) (fun hf=>hf.2 pI)).trans HD.out.b0;have h4:cP ((w2.setCell ⟨w1.heap.size,0,none⟩ (.int .i32 (xN u))).setCell ⟨w1.heap.size,1,none⟩ (.int .i64 (xO u))) w1.heap.size:=⟨_,_,b5.put _ _⟩;have i0:=ce0 d0;have i1:=ce1 d0;have i2:=ce2 d0;have i3:=ce3 d0;have i4:=ce4 d0;have j5:=ae d0;have HC:=hid (b9.out _ l2 s2 h9 h6 g4 g2 h3 (a1.out _ e4) x3 (by omega) x2);have f8:=hid a8;clear e7 f2 f1 a8 hn d0 a2 h3 b9 a1 i7 x1;simp only[aG];go_wp2_with fail;refine HC.out.mono ?_;intro en w3 a7;have g5:=h4.but a7.1 (fun hf=>hf.2 p8)
     obtain⟨K,N,e,rfl,h2⟩:=s7.next (mm:=g) hR hbm x3 (by omega) (by omega) x2 g0 h105 a7 p8 b3 g5 (Nat.le_refl _);have HN:=hid (h2 RR f8.out.symm);have i6:=b2 K N (e4.trans (g7 a7.1));obtain⟨l0,l3,n2,n3,n0,n1,k0⟩:=g5.parts;clear a7 h2 HC f8 i0 i1 i2 i3 i4 q0 q1 o0 o1 h4 b5;go_wp2_with fail
     go_roundg g
     case measure=>omega
     case rel=>exact⟨_,rfl,i6,by omega,HN⟩
  ·obtain⟨e1,e2⟩:=fQ j2 j3;have HF:=hid (fun a b=>StQ.fin hN h0 (b4.less p1) b6 (r:=w.heap.size+1) (by omega) f5 a b);clear HL b4 h8 c6 b9 a1 HD d0;go_wp2_with fail;exact cU Tryz.results154 rfl rfl rfl (f4.put _ _) ⟨(HF.out _ _).2.1,_,_,_,_,rfl,s1,l1,ho,(HF.out _ _).2.2⟩
end
def jR (im:Img) (inp:ByteArray) (f:Nat) (b:Bod) (d:Nat) (ps:List Nat) (k:Nat) (l:List V) (s:Ev):R:=match ps[k]? with
 |some j=>bn im inp f b d j l s
 |none=> .ok .z l s
def doV (im:Img) (inp:ByteArray) (f d:Nat) (x:Ins) (u v:V) (l:List V) (s:Ev):R:=
 if az x.op=0 then ef im inp x l s else if az x.op=1 then fV im x u l s else eH im (fun b' l'=>bn im inp f b' (d+1) 0 l' s) d x u v l s
theorem ja {cs:List Cls} {gs:List Sig} {lo:List UInt8} {t:List Ins} {F k:Nat} {c:UInt8} (h:bY cs gs lo t F k=some c):k<t.length:=by
 cases F with
 |zero=>cases h
 |succ F=>
  simp only[bY]at h
  cases hx:t[k]? with
  |none=>rw[hx]at h;cases h
  |some x=>exact(List.getElem?_eq_some_iff.1 hx).1
theorem xF {cs:List Cls} {gs:List Sig} {lo:List UInt8} {t:List Ins} {F:Nat}: ∀{n k:Nat} {ts:List UInt8},bQ t (bY cs gs lo t F) n k=some ts→
  ts.length=n∧(cy t n k).length=n∧ ∀(q j:Nat),(cy t n k)[q]?=some j→ ∃c,ts[q]?=some c∧bY cs gs lo t F j=some c:=by
 intro n
 induction n with
 |zero=>intro k ts h;simp[bQ]at h;subst h;exact⟨rfl,rfl,fun q j h=>by simp[cy]at h⟩
 |succ n ih=>
  intro k ts h;rw[bQ]at h
  cases hc:bY cs gs lo t F k with
  |none=>rw[hc]at h;cases h
  |some c=>
   rw[hc]at h;simp only[Option.map_eq_some_iff]at h;obtain⟨ts',h1,rfl⟩:=h;obtain⟨a1,a2,a3⟩:=ih h1;have hk:=ja hc;rw[cy,if_pos hk];refine⟨by simp[a1],by simp[a2],fun q j hq=> ?_⟩
   cases q with
   |zero=>simp at hq;subst hq;exact⟨c,rfl,hc⟩
   |succ q=>simp at hq;simpa using a3 q j hq
theorem AK {t:List Ins} {i:Nat} {x:Ins} (h:t[i]?=some x):dt t i=cy t (az x.op) (i+1):=by simp[dt,h]
section
variable {im:Img} {inp:ByteArray} {f:Nat} {b:Bod} {d i:Nat} {l:List V} {s:Ev}
theorem zA {x:Ins} {sl:Nat} (hx:b.code[i]?=some x) (hsl:s.left=sl+1) (h:x.op.toNat=111):bn im inp (f+1) b d i l s=d7 (bn im inp f b d (i+1)) (bn im inp f b d (bu b.code (i+1))) f l {s with left:=sl}:=by
 have h1:az x.op≠0:=by simp[az,h]
 simp only[bn,hx,hsl,Nat.add_sub_cancel];rw[if_neg (by omega),if_neg h1,if_pos h]
theorem zB {x:Ins} {sl:Nat} (hx:b.code[i]?=some x) (hsl:s.left=sl+1) (h:x.op.toNat=105):bn im inp (f+1) b d i l s=gG (bn im inp f b d (i+1) l {s with left:=sl}) (fun u l s=>bn im inp f b d (if u.N=0 then bu b.code (bu b.code (i+1))else bu b.code (i+1)) l s):=by
 have h1:az x.op≠0:=by simp[az,h]
 simp only[bn,hx,hsl,Nat.add_sub_cancel];rw[if_neg (by omega),if_neg h1,if_neg (by omega)]
 cases bn im inp f b d (i+1) l {s with left:=sl}with
 |bad e o=>rfl
 |ok u l s=>simp only[gG,h,if_true]
theorem AL {x:Ins} {sl:Nat} (hx:b.code[i]?=some x) (hsl:s.left=sl+1) (h1:x.op.toNat≠111) (h2:x.op.toNat≠105) (hp:(cy b.code (az x.op) (i+1)).length=az x.op):
  bn im inp (f+1) b d i l s=gG (jR im inp f b d (cy b.code (az x.op) (i+1)) 0 l {s with left:=sl}) (fun u l s=>gG (jR im inp f b d (cy b.code (az x.op) (i+1)) 1 l s) (fun v l s=>doV im inp f d x u v l s)):=by
 have a0:az x.op=0∨az x.op=1∨az x.op=2:=by
  unfold az;rw[if_neg h2]
  split
  ·exact Or.inr (Or.inr rfl)
  ·split
   ·exact Or.inr (Or.inl rfl)
   ·exact Or.inl rfl
 simp only[bn,hx,hsl,Nat.add_sub_cancel];rw[if_neg (by omega)];rcases a0 with a0|a0|a0
 ·rw[if_pos a0,a0];simp[jR,cy,gG,doV,a0]
 ·rw[if_neg (by omega),if_neg h1]
  have e0:(cy b.code (az x.op) (i+1))=[i+1]:=by
   rw[a0]at hp⊢;rw[cy]at hp⊢
   split at hp
   ·rename_i hk;rw[if_pos hk];rfl
   ·cases hp
  rw[e0];simp only[jR,List.getElem?_cons_zero,List.getElem?_cons_succ,List.getElem?_nil]
  cases bn im inp f b d (i+1) l {s with left:=sl}with
  |bad e o=>rfl
  |ok u l s=>simp[gG,h2,a0,doV]
 ·rw[if_neg (by omega),if_neg h1]
  have e0:(cy b.code (az x.op) (i+1))=[i+1,bu b.code (i+1)]:=by
   rw[a0]at hp⊢;rw[cy]at hp⊢
   split at hp
   ·rename_i hk
    rw[if_pos hk];rw[cy]at hp⊢
    split at hp
    ·rename_i hk2;rw[if_pos hk2];rfl
    ·simp at hp
   ·cases hp
  rw[e0];simp only[jR,List.getElem?_cons_zero,List.getElem?_cons_succ]
  cases bn im inp f b d (i+1) l {s with left:=sl}with
  |bad e o=>rfl
  |ok u l s=>
   simp only[gG,h2,a0,if_false];rw[if_neg (by omega)]
   cases bn im inp f b d (bu b.code (i+1)) l s with
   |bad e o=>rfl
   |ok v l s=>simp[doV,a0]
def CE (im:Img) (B:Nat) (lo:List UInt8) (ts:List UInt8) (k:Nat) (s0:Ev):R→Prop
 | .bad e o=>5≤e∧e≤10
 | .ok u l s=>LT im.classes s.heap lo l∧StT im B s∧Ext s0.heap s.heap∧s.left≤s0.left∧ ∀t,ts[k]?=some t→VT im.classes s.heap t u
theorem mG {F B:Nat} {ps:List Nat} {ts:List UInt8} (hR:dz im) (hbm:b∈im.bodies) (hlen:ps.length=ts.length) (hpt: ∀(q j:Nat),ps[q]?=some j→ ∃c,ts[q]?=some c∧bY im.classes im.sigs b.locals b.code F j=some c) (k:Nat) (hll:LT im.classes s.heap b.locals l) (hs:StT im B s) (hsf:s.left≤f):CE im B b.locals ts k s (jR im inp f b d ps k l s):=by
 unfold jR
 cases hk:ps[k]? with
 |none=>
  refine⟨hll,hs,Ext.refl _,Nat.le_refl _,fun t ht=> ?_⟩;have:=(List.getElem?_eq_some_iff.1 ht).1;rw[List.getElem?_eq_none_iff]at hk;omega
 |some j=>
  obtain⟨c,hc,a0⟩:=hpt k j hk;have HT:=ey hR inp f B b d j l s c F hbm a0 hll hs hsf;simp only
  cases hn:bn im inp f b d j l s with
  |bad e o=>rw[hn]at HT;exact⟨HT.1,HT.2.1⟩
  |ok u l1 s1=>
   rw[hn]at HT;obtain⟨y1,y2,y3,y4,y5⟩:=HT;exact⟨y2,y3,y4,by omega,fun t ht=>by rw[hc]at ht;cases ht;exact y1⟩
end
section
variable {P:Nat→Prop} {w0 w:World} {be bw tx bl:Nat} {inp:ByteArray} {s:Ev} {lv vo vb:Value} {l:List V} {gs:List Nat} {fv:List Value} {im:Img} {b:Bod} {bf d:Nat} {Xb:bz} {vl vi:Value}
theorem s8 {f B F:Nat} {ps:List Nat} {ts:List UInt8} (IH:jQ im inp w0 be bw tx f) (h:StQ P w0 w be bw tx inp s bl lv l vo vb gs fv) (hF:FrS P w0 w im b bf d Xb vl vi bl) (hbm:b∈im.bodies) (hs:StT im B s) (hsf:s.left≤f) (hd:d≤12) (hll:LT im.classes s.heap b.locals l) (hps:ps.length≤3) (hpt: ∀(q j:Nat),ps[q]?=some j→ ∃c,ts[q]?=some c∧bY im.classes im.sigs b.locals b.code F j=some c) (k:Nat) (hk3:k≤3) (pl op n pn pc:Nat) (c:UInt8) (pa:Option Addr) (hrow:w0.ownsRow 0 3 1 (.slice pa pn pc) ps.length (dN ps)):
  Calls Tryz.prog 155 #[.pointer (some ⟨be,0,none⟩),.pointer (some ⟨bf,0,none⟩),.agg #[.int .i64 pl,.int .u8 op,.int .u8 c.toNat,.int .i64 n,.slice pa pn pc],.int .i64 k] w (ReV P w0 w be bw tx inp bl lv (jR im inp f b d ps k l s)):=by
 unfold jR
 cases hk:ps[k]? with
 |none=>
  obtain⟨a',cap',a0⟩:=aw hrow;injection a0 with e1 e2 e3;rw[List.getElem?_eq_none_iff]at hk;exact xE h pl op n pn pc k c pa (by omega) hk3
 |some j=>
  obtain⟨c',hc,a1⟩:=hpt k j hk;exact i8 IH h hF hbm hs hsf hd hll ps hps k j hk a1 pl op n pn pc c pa hrow
theorem AM {B f:Nat} {ts:List UInt8} {tt:UInt8} (IH:jQ im inp w0 be bw tx f) (h:StQ P w0 w be bw tx inp s bl lv l vo vb gs fv) (hF:FrS P w0 w im b bf d Xb vl vi bl) (hT:dA w0 tx im) (htab:dw w0) (hR:dz im) (h40:inp.size≤40) (hs:StT im B s) (hsf:s.left≤f) (hd:d≤12) (x:Ins) (hx:WfN im.classes im.sigs.length b.locals.length x) (hll:LT im.classes s.heap b.locals l) (h111:x.op.toNat≠111) (h105:x.op.toNat≠105) (hlk:x.op.toNat=99→0≤cE im.classes im.bodies x.b 5 x.a) (hlen:ts.length=az x.op) (u v:V) (hu: ∀t,ts[0]?=some t→VT im.classes s.heap t u) (hv: ∀t,ts[1]?=some t→VT im.classes s.heap t v) (hnt:br im.classes im.sigs b.locals x ts=some tt) (pl pn pc:Nat) (pa:Option Addr):
  Calls Tryz.prog 156 #[.pointer (some ⟨be,0,none⟩),.pointer (some ⟨bf,0,none⟩),itN x pa pl pn pc,aG u,aG v] w (ReV P w0 w be bw tx inp bl lv (doV im inp f d x u v l s)):=by
 have a0:az x.op=0∨az x.op=1∨az x.op=2:=by
  unfold az;rw[if_neg h105]
  split
  ·exact Or.inr (Or.inr rfl)
  ·split
   ·exact Or.inr (Or.inl rfl)
   ·exact Or.inl rfl
 unfold doV;rcases a0 with a0|a0|a0
 ·rw[if_pos a0];exact zy h hF hT hR.wf hs h40 x (by rw[hll.len];exact hx) a0 u v pl pn pc pa
 ·rw[if_neg (by omega),if_pos a0]
  match ts,hlen,hu,hnt with
  | [ta],_,hu,hnt=>exact AI h hF hT htab hR hs x b.locals hx hll a0 ta tt u v (hu ta rfl) hnt pl pn pc pa
  | [],hl,_,_=>simp at hl;omega
  |_::_::_,hl,_,_=>simp at hl;omega
 ·rw[if_neg (by omega),if_neg (by omega)]
  match ts,hlen,hu,hv,hnt with
  | [ta,tc],_,hu,hv,hnt=>exact AJ IH h hF hT hR hs hsf hd x b.locals hx a0 h111 hlk ta tc tt u v (hu ta rfl) (hv tc rfl) hnt pl pn pc pa
  | [],hl,_,_,_=>simp at hl;omega
  | [_],hl,_,_,_=>simp at hl;omega
  |_::_::_::_,hl,_,_,_=>simp at hl;omega
end
theorem ReV.less {P Q:Nat→Prop} {w0 w w1:World} {be bw tx bl:Nat} {inp:ByteArray} {lv:Value} {r:R} {en:Ending} (h:ReV Q w0 w be bw tx inp bl lv r en w1) (hs: ∀k,P k→Q k):ReV P w0 w be bw tx inp bl lv r en w1:=by
 obtain⟨hB,vo,vb,gs,fv,h⟩:=h;refine⟨hB.mono (fun k _ hf=>⟨hf.1,fun hp=>hf.2 (hs k hp)⟩),vo,vb,gs,fv,?_⟩
 cases r with
 |ok u l s=>exact⟨h.1,h.2.less hs⟩
 |bad e o=>obtain⟨a,s,l,b,c⟩:=h;exact⟨a,s,l,b,c.less hs⟩
theorem CP {t:List Ins} {k:Nat} (h1:k<t.length) (h2:bu t k<t.length) (h3:bu t (bu t k)<t.length):cy t 3 k=[k,bu t k,bu t (bu t k)]:=by
 simp[cy,h1,h2,h3]
theorem CQ {t:List Ins} {k:Nat} (h1:k<t.length) (h2:bu t k<t.length):cy t 2 k=[k,bu t k]:=by
 simp[cy,h1,h2]
theorem vB {x:Ins} {k:Nat} (h:x.op.toNat≠k) (h1:k≠107) (h2:58≤k):(bG x).op.toNat≠k:=by
 cases hd:bJ x.op with
 |true=>rw[(sX hd).1];omega
 |false=>
  rw[(eS (x:=x) (by simp[bJ]at hd;omega)).1];exact h
section
variable {P:Nat→Prop} {w0 w:World} {be bw tx bl:Nat} {inp:ByteArray} {s:Ev} {lv vo vb:Value} {l:List V} {gs:List Nat} {fv:List Value} {im:Img} {b:Bod} {bf d i:Nat} {Xb:bz} {vl vi:Value}
theorem oy (h:StQ P w0 w be bw tx inp s bl lv l vo vb gs fv) (h0:s.left=0):
  Calls Tryz.prog 93 #[.pointer (some ⟨be,0,none⟩),.pointer (some ⟨bf,0,none⟩),.int .i64 i] w (ReV P w0 w be bw tx inp bl lv (.bad 5 s.out)):=by
 have e2:=h.ev.c2;have a1:=h.ev.lt;rw[h0]at e2;have a0:w.cell? ⟨be,2,none⟩=some (.int .i64 0):=e2;have HH:=hid h;clear e2 h h0
 go_in
 go_wp2_with fail;exact cU Tryz.results93 rfl rfl rfl (heap_alloc_new _ _) ⟨But.alloc _ _ _,vo,vb,gs,fv,rfl,s,l,rfl,HH.out.new (But.alloc _ _ _)⟩
end
theorem xG {f:Nat} (w0:World) (be bw tx:Nat) (inp:ByteArray) (h40:inp.size≤40) (im:Img) (hT:dA w0 tx im) (htab:dw w0) (hR:dz im) (IH:jQ im inp w0 be bw tx f):jQ im inp w0 be bw tx (f+1):=by
 intro b d i l s t F B P w bl lv vo vb gs fv bf X vl vi e4 hd a7 j2 hs s3 h hF
 by_cases h0:s.left=0
 ·rw[fP h0];exact oy h h0
 have hW:=hR.wf;have p4:=ja a7
 cases F with
 |zero=>cases a7
 |succ F=>
 simp only[bY]at a7;obtain⟨x,hx⟩: ∃x,b.code[i]?=some x:=⟨_,List.getElem?_eq_getElem p4⟩;rw[hx]at a7;simp only at a7;have o1:=hW.bod b e4;have o2:x∈b.code:=List.mem_of_getElem? hx;have q4:=o1.code x o2
 cases hp:bQ b.code (bY im.classes im.sigs b.locals b.code F) (az x.op) (i+1)with
 |none=>rw[hp]at a7;cases a7
 |some ts=>
 rw[hp]at a7;simp only at a7;obtain⟨n2,j3,m4⟩:=xF hp;obtain⟨sl,b5⟩: ∃sl,s.left=sl+1:=⟨s.left-1,by omega⟩;have j5:StT im (B-22) {s with left:=sl}:=⟨hs.ht,by have:=hs.cap;simp;omega,by have:=hs.outn;simp;omega,by have:=hs.bb;omega,by have:=hs.rd;simp;omega⟩;have c6:sl≤f:=by omega
 --the item
 have s1:X.items.length=b.code.length:=hF.bd.bd.its.len;obtain⟨xi,n3⟩: ∃xi,X.items[i]?=some xi:=⟨_,List.getElem?_eq_getElem (by omega)⟩;obtain⟨z1,z2,z3,z4,b0⟩:=hF.bd.bd.its.at' i x xi hx n3;rw[AK hx]at b0;obtain⟨ps,b3⟩: ∃ps,cy b.code (az x.op) (i+1)=ps:=⟨_,rfl⟩;have f3:=j3;rw[b3]at j3 m4 b0;obtain⟨RR,b2⟩: ∃RR,bn im inp (f+1) b d i l s=RR:=⟨_,rfl⟩;rw[b2];have p1:az x.op≤3:=by unfold az;split;omega;split;omega;split<;>omega
 have hcl:=o1.len
 --the fuel
 have l3:But (FrQ P w0) w (w.setCell ⟨be,2,none⟩ (.int .i64 sl)):=(But.setB w be 2 _).mono (fun k _ e=>by have e:k=be:=e;subst e;exact h.k1);have hf:=h.fuel sl;have n7:=hF.but l3;have e2:=h.ev.c2;have y2:=h.ev.fz 2;rw[b5]at e2;have o5:w.cell? ⟨be,2,none⟩=some (.int .i64 ((sl:Int)+1)):=by rw[e2];simp
 have r3:=h.ev.lt;have q2: ¬((sl:Int)+1≤0):=by omega
 have r4:be<w.heap.size+1:=by omega
 have q1:sl≤4000:=by have:=hs.cap;omega
 obtain⟨a0,a1,a2,a3,a4,a5,a6,r2⟩:=hF.cells;have p6: ¬be=bf:=fun e=>h.k1.2 (e▸hF.pf)
 have p8: ¬bf=be:=fun e=>p6 e.symm
 have p2:bf<w.heap.size+1:=by omega
 have n4:=hid (fun(Y:World) (hY:But (fun _=>False) w0 Y)=>ow X.cls X.meth X.ans vl vi X.items i xi Y (ag hF.bd.it hY (fun _ _ h=>h)) n3 (by omega));have q9:=h.old.size;have HX:=hid (And.intro hx (And.intro b5 (And.intro a7 (And.intro b3 b2))));have HZ:=hid (And.intro z1 (And.intro z2 (And.intro z3 z4)));have b9:=hid m4;have HP:=hid hp;have o4:=hid hx;have Hf:=hid hf;have b4:=hid n7;have e9:=hid l3;clear e2 hx b5 a7 b3 b2 m4 hf n7 l3 hp h hF n3 z1 z2 z3 z4 h0 o2
 go_in
 go_wp2_with fail;have e8:NB (w.setCell ⟨be,2,none⟩ (.int .i64 sl)) ((w.setCell ⟨be,2,none⟩ (.int .i64 sl)).alloc (.cells #[.int .i32 0,.int .i64 0] 168)):=(NB.refl _).alloc (by decide);have f8:cP ((w.setCell ⟨be,2,none⟩ (.int .i64 sl)).alloc (.cells #[.int .i32 0,.int .i64 0] 168)) w.heap.size:=⟨0,0,aq (by simp[bV]) _⟩;have o0:(w.setCell ⟨be,2,none⟩ (.int .i64 sl)).heap.size=w.heap.size:=bV _ _ _;revert Hf b4 e9 e8 f8 o0;generalize (w.setCell ⟨be,2,none⟩ (.int .i64 sl))=wf;intro Hf b4 e9 e8 f8 o0;revert e8 f8;generalize (wf.alloc (.cells #[.int .i32 0,.int .i64 0] 168))=wa;intro e8 f8;refine(n4.out wa (Hf.out.old.trans e8.but)).mono ?_
 rintro en w2 ⟨rfl,h2⟩;obtain⟨z1,z2,z3,z4⟩:=HZ.out
 have h1:NB wf w2:=⟨e8.but.trans h2.but,fun k a b c fz e=>by
  rcases Nat.lt_or_ge k wa.heap.size with hk|hk
  ·rw[h2.but.block k hk (fun h=>h)]at e;exact e8.nb k a hk c fz e
  ·exact h2.nb k hk b c fz e⟩
 have j1:cP w2 w.heap.size:=f8.but h2.but (fun h=>h);unfold bU;rw[z1,z2,z3,z4];clear n4 HZ z1 z2 z3 z4 e8 h2 f8 wa a0 a1 a2 a3 a4 a5 a6 o5 y2;generalize h8:(bG x).op.toNat=op;generalize p3:(bG x).cls=cc;generalize q0:(bG x).num=nn;generalize s2:(bG x).place=pp;obtain⟨hx,b5,a7,b3,b2⟩:=HX.out;have e0: ∀c,NB wf (w2.alloc (.cells c 219)):=fun c=>h1.alloc (by decide)
 by_cases h105:x.op.toNat=105
 ·have m3:((op:Int)==105)=true:=tst (by rw[←h8,(eS (x:=x) (by omega)).1,h105]);have m1:az x.op=3:=by simp[az,h105]
  rw[zB hx b5 h105]at b2;have hp:=HP.out;rw[m1]at hp b3;obtain⟨t0,t1,t2,g0,g1,g2,rfl⟩:=qB hp;simp[br,cH,bE,Sp.arith,h105]at a7;rw[CP (ja g0) (ja g1) (ja g2)]at b3;subst b3;have HC:=hid (fun c=>uE hR IH (Hf.out.grown (e0 c)) (b4.out.grown (e0 c)) e4 j5 c6 hd j2 _ _ _ g0 a7.1.1 g1 g2 pp op nn xi.pn xi.pc cc xi.pa b0);rw[b2]at HC;clear HX hx b5 a7 b2 HP hp g0 g1 g2 n2 j3 f3 b9 Hf b4 b0;go_wp2_with fail;refine(HC.out _).mono ?_;intro en w4 e7;obtain⟨K,N,e,rfl,a8⟩:=ReV.pass (e0 _) (by omega) e7;obtain⟨e6,e5⟩:=a8 w.heap.size (by omega) (j1.but (But.alloc (fun _=>False) _ _) (fun h=>h));obtain⟨K9,N9,r0,r1,f0,f1,j4⟩:=e6.parts
  have HF:=hid (e5.since e9.out);clear e5 a8 e7 HC;go_wp2_with fail;exact cU Tryz.results93 rfl rfl rfl (e6.put _ _) HF.out
 have m3:((op:Int)==105)=false:=tsf (k:=105) (by rw[←h8];exact vB h105 (by omega) (by omega))
 by_cases h111:x.op.toNat=111
 ·have m2:((op:Int)==111)=true:=tst (by rw[←h8,(eS (x:=x) (by omega)).1,h111]);have m1:az x.op=2:=by simp[az,h111]
  rw[zA hx b5 h111]at b2;have hp:=HP.out;rw[m1]at hp b3;obtain⟨t0,t1,g0,g1,rfl⟩:=lu hp;simp[br,cH,bE,Sp.arith,h111]at a7;rw[CQ (ja g0) (ja g1)]at b3;subst b3;have HC:=hid (fun c=>uF hR IH (Hf.out.grown (e0 c)) (b4.out.grown (e0 c)) e4 j5 c6 hd j2 _ _ g0 a7.1 g1 pp op nn xi.pn xi.pc cc xi.pa b0);rw[b2]at HC;clear HX hx b5 a7 b2 HP hp g0 g1 n2 j3 f3 b9 Hf b4 b0;go_wp2_with fail;refine(HC.out _).mono ?_;intro en w4 e7;obtain⟨K,N,e,rfl,a8⟩:=ReV.pass (e0 _) (by omega) e7;obtain⟨e6,e5⟩:=a8 w.heap.size (by omega) (j1.but (But.alloc (fun _=>False) _ _) (fun h=>h));obtain⟨K9,N9,r0,r1,f0,f1,j4⟩:=e6.parts
  have HF:=hid (e5.since e9.out);clear e5 a8 e7 HC;go_wp2_with fail;exact cU Tryz.results93 rfl rfl rfl (e6.put _ _) HF.out
 have m2:((op:Int)==111)=false:=tsf (k:=111) (by rw[←h8];exact vB h111 (by omega) (by omega));rw[AL hx b5 h111 h105 f3,b3]at b2;have h9:ps.length≤3:=by omega
 have n8:ps.length=ts.length:=by omega
 have k9:=hid b2;have j0:=hid a7;have q3:=h1.but.size;have g7:=heap_alloc_new w2 (.cells #[.int .i64 pp,.int .u8 op,.int .u8 cc.toNat,.int .i64 nn,.slice xi.pa xi.pn xi.pc] 219);have h4:(w2.alloc (.cells #[.int .i64 pp,.int .u8 op,.int .u8 cc.toNat,.int .i64 nn,.slice xi.pa xi.pn xi.pc] 219)).heap.size=w2.heap.size+1:=by simp
 have f2:=e0 #[.int .i64 pp,.int .u8 op,.int .u8 cc.toNat,.int .i64 nn,.slice xi.pa xi.pn xi.pc];have f7:=j1.but (But.alloc (fun _=>False) w2 (.cells #[.int .i64 pp,.int .u8 op,.int .u8 cc.toNat,.int .i64 nn,.slice xi.pa xi.pn xi.pc] 219)) (fun h=>h);have o3:=hid (fun(X:World) (hX:X=w2.alloc (.cells #[.int .i64 pp,.int .u8 op,.int .u8 cc.toNat,.int .i64 nn,.slice xi.pa xi.pn xi.pc] 219))=>hX);clear HX hx b5 a7 b3 b2 HP e0 o3 j1;go_wp2_with fail;revert g7 h4 f2 f7;generalize (w2.alloc (.cells #[.int .i64 pp,.int .u8 op,.int .u8 cc.toNat,.int .i64 nn,.slice xi.pa xi.pn xi.pc] 219))=W3;intro g7 h4 f2 f7
 have h3:=Hf.out.grown f2;have g6:=b4.out.grown f2;obtain⟨P3,e3⟩: ∃P3:Nat→Prop,PQ P wf W3=P3:=⟨_,rfl⟩;have pI:P3 w2.heap.size:=by rw[←e3];exact Or.inr ⟨by omega,by omega⟩
 have pR:P3 w.heap.size:=by rw[←e3];exact Or.inr ⟨by omega,by omega⟩
 have pF:=g6.pf;rw[e3]at h3 g6 pF;have j7:=hid (s8 (s:={s with left:=sl}) IH h3 g6 e4 j5 c6 hd j2 h9 b9.out 0 (by omega) pp op nn xi.pn xi.pc cc xi.pa b0);have l0:=hid (mG (inp:=inp) (d:=d) (s:={s with left:=sl}) hR e4 n8 b9.out 0 j2 j5 c6);rw[show((0:Nat):Int)=0 from rfl]at j7;refine j7.out.mono ?_;rintro en w4 ⟨g4,t3,s5,q7,q5,hq⟩;have o6:=g6.but g4;have d0:=(g4.block _ (ae g7) (fun hf=>hf.2 pI)).trans g7;have p5:=ae d0;have m5:=f7.but g4 (fun hf=>hf.2 pR);have b1:=l0.out;have f4:=k9.out;clear j7 g6 h3
 cases hn:jR im inp f b d ps 0 l {s with left:=sl}with
 |bad e o=>
  rw[hn]at hq b1 f4;obtain⟨rfl,s4,l4,ho,i5⟩:=hq;subst f4;obtain⟨e1,e2⟩:=fQ b1.1 b1.2;have HF:=hid (fun a b=>StQ.fin f2 (by omega) (e3▸i5) (e3▸g4) (r:=w.heap.size) (by omega) f7 a b);obtain⟨K9,N9,r0,r1,z0,z1,j4⟩:=m5.parts;have n0:w.heap.size<w4.heap.size+1:=by omega
  clear l0 k9 b1 hn d0 i5 g7 j0 b9 Hf b4;go_wp2_with fail;exact cU Tryz.results93 rfl rfl rfl (zz m5) ⟨e9.out.trans ((HF.out _ _).2.1.trans (But.alloc _ _ _)),_,_,_,_,rfl,s4,l4,ho,(HF.out _ _).2.2.new (But.alloc _ _ _)⟩
 |ok u l4 s4=>
  rw[hn]at hq b1 f4;obtain⟨rfl,i5⟩:=hq;obtain⟨y1,y2,y3,y4,y5⟩:=b1;simp only at y3 y4;simp only[gG]at f4;have n5:=hid f4;have i0:=ce0 d0;have i1:=ce1 d0;have i2:=ce2 d0;have i3:=ce3 d0;have i4:=ce4 d0;have h5:=i5.grown1 (c:=#[.int .i32 (xN u),.int .i64 (xO u)]) (t:=168) (by decide);have h6:(w4.alloc (.cells #[.int .i32 (xN u),.int .i64 (xO u)] 168)).heap.size=w4.heap.size+1:=by simp
  have f6:But (fun _=>False) w4 (w4.alloc (.cells #[.int .i32 (xN u),.int .i64 (xO u)] 168)):=But.alloc _ _ _;have h7:=heap_alloc_new w4 (.cells #[.int .i32 (xN u),.int .i64 (xO u)] 168);clear f4 l0 k9 hn;simp only[aG];go_wp2_with fail;revert h5 h6 f6 h7;generalize (w4.alloc (.cells #[.int .i32 (xN u),.int .i64 (xO u)] 168))=W5;intro h5 h6 f6 h7;clear i0 i1 i2 i3 i4;obtain⟨P5,m0⟩: ∃P5:Nat→Prop,PQ P3 w4 W5=P5:=⟨_,rfl⟩;have f9: ∀k,P3 k→P5 k:=fun k hk=>by rw[←m0];exact Or.inl hk
  have pU:P5 w4.heap.size:=by rw[←m0];exact Or.inr ⟨by omega,by omega⟩
  rw[m0]at h5;have l5:FrS P5 w0 W5 im b bf d X vl vi bl:=(o6.but (f6.mono (fun _ _ h=>h.elim))).mono (f9 _ pF);have i7:s4.left≤f:=by omega
  have k0:=hid (s8 IH h5 l5 e4 y2 i7 hd y1 h9 b9.out 1 (by omega) pp op nn xi.pn xi.pc cc xi.pa b0);have n6:=hid (mG (inp:=inp) (d:=d) hR e4 n8 b9.out 1 y1 y2 i7);rw[show((1:Nat):Int)=1 from rfl]at k0;refine k0.out.mono ?_;rintro en w6 ⟨g5,t4,s9,q8,q6,hq⟩;have p0:=l5.but g5;have d5:=(f6.block _ p5 (fun h=>h)).trans d0;have d6:=(g5.block _ (ae d5) (fun hf=>hf.2 (f9 _ pI))).trans d5;have b6:=(g5.block _ (ae h7) (fun hf=>hf.2 pU)).trans h7;have r5:=ae d6;have r6:=ae b6;have n9:=(m5.but f6 (fun h=>h)).but g5 (fun hf=>hf.2 (f9 _ pR));have g3:But (FrQ P3 w0) W3 w6:=(g4.trans (f6.mono (fun _ _ h=>h.elim))).trans (g5.mono (fun k _ hf=>⟨hf.1,fun hp=>hf.2 (f9 k hp)⟩))
  have b1:=n6.out;have f5:=n5.out;clear k0 n5 n6 h5 l5 d5 d0 h7 i5
  cases hn:jR im inp f b d ps 1 l4 s4 with
  |bad e o=>
   rw[hn]at hq b1 f5;obtain⟨rfl,s6,l6,ho,i6⟩:=hq;subst f5;obtain⟨e1,e2⟩:=fQ b1.1 b1.2;have HF:=hid (fun a b=>StQ.fin f2 (by omega) (e3▸i6.less f9) (e3▸g3) (r:=w.heap.size) (by omega) f7 a b);obtain⟨K9,N9,r0,r1,z0,z1,j4⟩:=n9.parts;have n0:w.heap.size<w6.heap.size+1:=by omega
   clear b1 hn i6 j0 b9 Hf b4 d6 b6 y5;go_wp2_with fail;exact cU Tryz.results93 rfl rfl rfl (zz n9) ⟨e9.out.trans ((HF.out _ _).2.1.trans (But.alloc _ _ _)),_,_,_,_,rfl,s6,l6,ho,(HF.out _ _).2.2.new (But.alloc _ _ _)⟩
  |ok v l6 s6=>
   rw[hn]at hq b1 f5;obtain⟨rfl,i6⟩:=hq;obtain⟨x1,x2,x3,x4,x5⟩:=b1;simp only[gG]at f5;have n1:s6.left≤f:=by omega
   have HD:=hid (fun ob=>AM IH (i6.new (But.alloc (fun _=>False) w6 ob)) (p0.but (But.alloc _ w6 ob)) hT htab hR h40 x2 n1 hd x q4 x1 h111 h105 (hR.lk b e4 x (List.mem_of_getElem? o4.out)) n2 u v (fun t ht=>(y5 t ht).ext x3) x5 j0.out pp xi.pn xi.pc xi.pa);unfold itN at HD;rw[h8,p3,q0,f5]at HD;have i0:=ce0 d6;have i1:=ce1 d6;have i2:=ce2 d6;have i3:=ce3 d6;have i4:=ce4 d6;have u0:=ce0 b6;have u1:=ce1 b6;have r8:w2.heap.size<w6.heap.size+1:=by omega
   have s0:w4.heap.size<w6.heap.size+1:=by omega
   clear f5 hn i6 j0 b9 Hf b4 d6 b6 y5 x5;simp only[aG]at HD⊢;go_wp2_with fail;refine(HD.out _).mono ?_;intro en w8 e7;obtain⟨K,N,e,rfl,a8⟩:=ReV.pass f2 (by omega) (e3▸(e7.less f9).since (g3.trans (But.alloc _ _ _)));obtain⟨e6,e5⟩:=a8 w.heap.size (by omega) f7;obtain⟨K9,N9,r0,r1,f0,f1,j4⟩:=e6.parts;have HF:=hid (e5.since e9.out);clear e5 a8 e7 HD i0 i1 i2 i3 i4 u0 u1;go_wp2_with fail;exact cU Tryz.results93 rfl rfl rfl (e6.put _ _) HF.out
theorem zC (w0:World) (be bw tx:Nat) (inp:ByteArray) (h40:inp.size≤40) (im:Img) (hT:dA w0 tx im) (htab:dw w0) (hR:dz im): ∀f,jQ im inp w0 be bw tx f:=by
 intro f
 induction f with
 |zero=>
  intro b d i l s t F B P w bl lv vo vb gs fv bf X vl vi a0 hd a3 a1 hs a2 h hF;rw[fP (by omega)];exact oy h (by omega)
 |succ f ih=>exact xG w0 be bw tx inp h40 im hT htab hR ih
theorem zD (tx:Nat) (inp:ByteArray) (w:World):
  Calls Tryz.prog 86 #[.pointer (some ⟨tx,0,none⟩),.string inp] w fun en w'=>en= .returned (.pointer (some ⟨w.heap.size,0,none⟩))∧w'=w.alloc (.cells #[.pointer (some ⟨tx,0,none⟩),.string inp,.int .i64 0,.slice none 0 0,.slice none 0 0,.int .i64 0] 211):=by
 go_in
 go_wp2_with fail;go_ret;exact⟨rfl,rfl⟩
theorem vC {w:World} {bw tx base:Nat} {inp:ByteArray} {r:Int} {vo vb:Value} {o:List UInt8} (h:XwB w bw tx inp r vo vb) (ho:w.ownsRow base 5 1 vo o.length (Lib.byteCells o)):
  Calls Tryz.prog 89 #[.pointer (some ⟨bw,0,none⟩)] w fun en w'=>en= .returned (.string ⟨o.toArray⟩)∧w'=w:=by
 have c3:=h.c3;have hl:=h.lt;have a0:=fx (l:=o) ho;obtain⟨ao,cap,rfl⟩:=aw ho;clear h ho
 go_in
 go_wp2_with fail;go_ret;exact⟨rfl,rfl⟩
theorem te (e:Nat) (he:e=0∨(5≤e∧e≤10)) (w:World):
  Calls Tryz.prog 59 #[.int .i64 (bK e)] w fun en w'=>en= .returned (.int .i64 e)∧w'=w:=by
 have:e=0∨e=5∨e=6∨e=7∨e=8∨e=9∨e=10:=by omega
 rcases this with rfl|rfl|rfl|rfl|rfl|rfl|rfl
 ·rw[show bK _=0 from rfl]
  go_in
  go_wp2_with fail;go_ret;exact⟨rfl,rfl⟩
 ·rw[show bK _=1 from rfl]
  go_in
  go_wp2_with fail;go_ret;exact⟨rfl,rfl⟩
 ·rw[show bK _=2 from rfl]
  go_in
  go_wp2_with fail;go_ret;exact⟨rfl,rfl⟩
 ·rw[show bK _=3 from rfl]
  go_in
  go_wp2_with fail;go_ret;exact⟨rfl,rfl⟩
 ·rw[show bK _=4 from rfl]
  go_in
  go_wp2_with fail;go_ret;exact⟨rfl,rfl⟩
 ·rw[show bK _=5 from rfl]
  go_in
  go_wp2_with fail;go_ret;exact⟨rfl,rfl⟩
 ·rw[show bK _=6 from rfl]
  go_in
  go_wp2_with fail;go_ret;exact⟨rfl,rfl⟩
theorem xH {w0 w w2:World} {be bw tx bl:Nat} {inp:ByteArray} {fu:Nat} {lv:Value} {l:List V} (hB0:But (fun _=>False) w0 w) (he:XeB w be tx bw fu) (hw:XwB w bw tx inp 0 (.slice none 0 0) (.slice none 0 0)) (hbe:w0.heap.size≤be) (hbw:w0.heap.size≤bw) (hB:But (fun _=>False) w w2) (hb:w2.heap[bl]?=some (.cells #[lv] 280)) (hr:w2.ownsRow w.heap.size 168 2 lv l.length (au l)) (hbl:w.heap.size≤bl):
  StQ (fun _=>False) w0 w2 be bw tx inp ⟨[],0,fu,[]⟩ bl lv l (.slice none 0 0) (.slice none 0 0) [] []:=by
 have h0:=hB0.size;refine⟨hB0.trans hB,he.but hB (fun h=>h),?_,fT _ _ _ _,fT _ _ _ _,rfl,rfl,fun k o g v h=>by simp at h,fun j k g h=>by simp at h,hb,World.ownsRow.mono hr h0,fun k hk=>⟨?_,fun h=>h⟩,fun k h=>h.elim,fun v h=>by simp at h,fun j k v v' g h=>by simp at h⟩
 ·have:=hw.but hB (fun h=>h);simpa using this
 ·rcases hk with rfl|rfl|rfl|hk|hk|hk|hk| ⟨v,hv,hk⟩
  ·exact hbe
  ·exact hbw
  ·omega
  ·cases hk
  ·cases hk
  ·have:=aA hr k hk;omega
  ·simp at hk
  ·simp at hv
theorem xI (inp:ByteArray) (fu:Nat) (hfu:fu≤4000) (im:Img) (hR:dz im):(jd im inp fu).2.2=0∨(5≤(jd im inp fu).2.2∧(jd im inp fu).2.2≤10):=by
 obtain⟨bs,mb,a0,a5,a4⟩:=hR.we.main;obtain⟨q,hq⟩: ∃q,im.bodies.length=q+1:=⟨bs.length,by rw[a0];simp⟩
 have a3:im.bodies[q]?=some mb:=by
  have h1:q=bs.length:=by rw[a0]at hq;simp at hq;omega
  rw[h1,a0];simp
 have a1:mb∈im.bodies:=List.mem_of_getElem? a3;rw[sA hq a3];have a2:=hR.ty mb a1;unfold dR at a2
 cases h:bY im.classes im.sigs mb.locals mb.code mb.code.length 0 with
 |none=>rw[h]at a2;cases a2
 |some t=>
  have HT:=ey hR inp fu 88000 mb 1 0 _ _ t _ a1 h (vx hR a1) (pG im hfu) (Nat.le_refl _)
  cases hn:bn im inp fu mb 1 0 (aR mb []) ⟨[],0,fu,[]⟩with
  |bad e o=>rw[hn]at HT;exact Or.inr ⟨HT.1,HT.2.1⟩
  |ok v l s=>exact Or.inl rfl
def evQ (r:List UInt8×Int×Nat):Ending:= .returned (.tuple #[.string ⟨r.1.toArray⟩,.int .i64 r.2.1,.int .i64 (bK r.2.2)])
theorem xJ (w:World) (tx:Nat) (inp:ByteArray) (fu:Nat) (h40:inp.size≤40) (hfu:fu≤4000) (im:Img) (hT:dA w tx im) (htab:dw w) (hR:dz im):
  Calls Tryz.prog 61 #[.pointer (some ⟨tx,0,none⟩),.string inp,.int .i64 fu] w fun en w'=>en=evQ (jd im inp fu)∧But (fun _=>False) w w':=by
 obtain⟨bs,mb,b0,e8,g1⟩:=hR.we.main;obtain⟨q,hq⟩: ∃q,im.bodies.length=q+1:=⟨bs.length,by rw[b0];simp⟩
 have b2:im.bodies[q]?=some mb:=by
  have h1:q=bs.length:=by rw[b0]at hq;simp at hq;omega
  rw[h1,b0];simp
 have b3:mb∈im.bodies:=List.mem_of_getElem? b2;have h0:=hR.wf.nb;obtain⟨RR,b4⟩: ∃RR,jd im inp fu=RR:=⟨_,rfl⟩;rw[b4];have b6:Hid (RR=match bn im inp fu mb 1 0 (aR mb []) ⟨[],0,fu,[]⟩with| .bad e o=>(o,0,e) | .ok v _ s=>(s.out,v.N,0)):=by show _=_;rw[←b4];exact sA hq b2
 have a3:=hR.ty mb b3
 obtain⟨t,e9,g4⟩: ∃t,bY im.classes im.sigs mb.locals mb.code mb.code.length 0=some t∧bP im.classes t 105=true:=by
  unfold dR at a3
  cases h:bY im.classes im.sigs mb.locals mb.code mb.code.length 0 with
  |none=>rw[h]at a3;cases a3
  |some t=>rw[h]at a3;simp only at a3;rw[if_pos (by rw[e8];omega)]at a3;exact⟨t,rfl,a3⟩
 obtain⟨xbs,⟨v2,t2,f8,lb,hO,hm,hf⟩,a0,g2⟩:=hT.bod;have b1:lb.length=q+1:=by rw[←hq,←a0,←hm];simp
 obtain⟨ao,capo,rfl⟩:=aw hO;rw[b1]at t2;have h3:=dE (q:Int) (by omega) (by omega);obtain⟨W,a8⟩: ∃W,(w.alloc (.cells #[.pointer (some ⟨tx,0,none⟩),.string inp,.int .i64 0,.slice none 0 0,.slice none 0 0,.int .i64 0] 211)).alloc (.cells #[.pointer (some ⟨tx,0,none⟩),.pointer (some ⟨w.heap.size,0,none⟩),.int .i64 fu] 164)=W:=⟨_,rfl⟩;have a6:But (fun _=>False) w W:=by rw[←a8];exact(But.alloc _ _ _).trans (But.alloc _ _ _)
 have f9:XwB W w.heap.size tx inp 0 (.slice none 0 0) (.slice none 0 0):=by rw[←a8];exact((But.alloc (fun _=>False) _ _).block _ (by simp) (fun h=>h)).trans (heap_alloc_new w _)
 have e6:XeB W (w.heap.size+1) tx w.heap.size fu:=by rw[←a8];exact aq (by simp) _
 have b5:=hid (kw e6 a6 im hT q 1 mb b2 (hR.wf.bod mb b3).loc.1 (by omega));rw[show((1:Nat):Int)=1 from rfl]at b5;have t2W:=a6.kc t2 f8;have g3:=Nat.lt_of_lt_of_le f8 a6.size;have f0:=hid a8;have g0:=hid (And.intro b0 (And.intro b2 (And.intro e8 b4)));clear a8 hm b1 a0 g2 hf hO hq b0 b2 e8 b4 a3 g1
 go_in
 go_wp2_with fail;refine(zD tx inp w).mono ?_;rintro en w1 ⟨rfl,rfl⟩;go_wp2_with fail;rw[f0.out];clear f0;refine b5.out.mono ?_;rintro en w2 ⟨c6,bl2,g5,X2,vl2,vi2,rfl,f1,e0,f3,f6,a4,a0,e5⟩;have e7:mb.locals.map cC=aR mb []:=by simp[aR]
 rw[e7,show mb.locals.length=(aR mb []).length from by rw[←e7];simp]at a4;have f7:=(xH (w0:=w) a6 e6 f9 (by omega) (by omega) f1 f6 a4 a0).add e0;have f4:FrS (fun j=>False∨j=c6) w w2 im mb c6 1 X2 vl2 vi2 bl2:=⟨e0,Or.inr rfl,f3⟩;have e3:=vx hR b3;have e4:=pG im hfu;have b9:=hid (ey hR inp fu 88000 mb 1 0 _ _ t _ b3 e9 e3 e4 (Nat.le_refl _));have HC:=hid (zC w (w.heap.size+1) w.heap.size tx inp h40 im hT htab hR fu mb 1 0 _ _ t _ 88000 _ w2 bl2 g5 _ _ _ _ c6 X2 vl2 vi2 b3 (by omega) e9 e3 e4 (Nat.le_refl _) f7 f4);rw[show((0:Nat):Int)=0 from rfl]at HC;clear b5 f7 f4 e3 e4 e9 e0 f3 f6 a4 a0 e5 e7 t2 t2W f9 e6 g0
 have d6:=a6.trans f1;go_wp2_with fail;refine HC.out.mono ?_;rintro en w3 ⟨f2,h5,h4,g7,g6,hq⟩;have a7:But (fun _=>False) w w3:=d6.next f2 (fun k hk hf=>by have:=hf.1;omega);have a5:=b6.out;have a2:=b9.out;clear HC f2
 cases hn:bn im inp fu mb 1 0 (aR mb []) ⟨[],0,fu,[]⟩with
 |bad e o=>
  rw[hn]at hq a5 a2;simp only at a5;subst a5;obtain⟨rfl,s3,l3,ho,a1⟩:=hq;obtain⟨e1,e2⟩:=fQ a2.1 a2.2.1;have c1:=a1.ev.c1;have f5:=a1.ev.lt;have HO:=hid (fun ob=>vC (a1.new (But.alloc (fun _=>False) w3 ob)).wd (a1.new (But.alloc (fun _=>False) w3 ob)).out);rw[ho]at HO;have h1:=a2.1;have h2:=a2.2.1;clear a1 b6 b9 a2 hn;go_wp2_with fail;refine(HO.out _).mono ?_;rintro en w4 ⟨rfl,rfl⟩;go_wp2_with fail;exact bodyPost_ret (v:= .tuple #[.string ⟨o.toArray⟩,.int .i64 0,.int .i64 (bK e)]) (by simp[results,Tryz.results61,go_sem]) rfl ⟨rfl,a7.trans (But.alloc _ _ _)⟩
 |ok v l3 s3=>
  rw[hn]at hq a5 a2;simp only at a5;subst a5;obtain⟨rfl,a1⟩:=hq;obtain⟨y1,y2,y3,y4,y5⟩:=a2;obtain⟨m,rfl,m1,m2⟩:=(y1.sub hR.wf.cls hR.wf.nc y3.ht (t':=105) g4 (by decide)).int (by decide);have c1:=a1.ev.c1;have f5:=a1.ev.lt;have HO:=hid (fun ob n=>vC (a1.new ((But.alloc (fun _=>False) w3 ob).trans (But.drewN _ _ n))).wd (a1.new ((But.alloc (fun _=>False) w3 ob).trans (But.drewN _ _ n))).out);clear a1 b6 b9 y1 y2 y3 y4 y5 hn;simp only[aG,xN,xO,V.N];go_wp2_with fail;have q1: ∀ob,(w3.alloc ob).cell? ⟨w.heap.size+1,1,none⟩=some (.pointer (some ⟨w.heap.size,0,none⟩)):=fun ob=>((But.alloc (fun _=>False) w3 ob).cell (p:=⟨w.heap.size+1,1,none⟩) f5 (fun h=>h)).trans c1
  go_quiet (exact Calls.quiet_of_same (HO.out _ _))
  go_wp2_with fail;exact bodyPost_ret (v:= .tuple #[.string ⟨s3.out.toArray⟩,.int .i64 m,.int .i64 0]) (by simp[results,Tryz.results61,go_sem]) rfl ⟨rfl,(a7.trans (But.alloc _ _ _)).trans (But.drewN _ _ _)⟩
/--The program's Eval does what the function says. -/
theorem pT (s inp:ByteArray) (fuel:Int) (w:World) (hmax:s.size≤maxLen) (htab:dw w):
  Calls Tryz.prog 34 #[.string s,.string inp,.int .i64 fuel] w fun en w'=>en= .returned (.tuple #[.string ⟨(eI s inp fuel).1.toArray⟩,.int .i64 (eI s inp fuel).2.1,.int .i64 (eI s inp fuel).2.2])∧But (fun _=>False) w w':=by
 obtain⟨RR,a0⟩: ∃RR,eI s inp fuel=RR:=⟨_,rfl⟩;rw[a0]
 by_cases hg:40<inp.size∨fuel<0∨4000<fuel
 ·have a1:RR=([],0,1):=by rw[←a0];unfold eI;rw[if_pos hg]
  subst a1;clear a0
  by_cases g1:40<(inp.size:Int)
  ·go_in
   go_wp2_with fail;exact bodyPost_ret (v:= .tuple #[.string ⟨#[]⟩,.int .i64 0,.int .i64 1]) (by simp[results,Tryz.results34,go_sem]) rfl ⟨rfl,But.refl _ _⟩
  ·by_cases g2:fuel<0
   ·clear hg
    go_in
    go_wp2_with fail;exact bodyPost_ret (v:= .tuple #[.string ⟨#[]⟩,.int .i64 0,.int .i64 1]) (by simp[results,Tryz.results34,go_sem]) rfl ⟨rfl,But.refl _ _⟩
   ·have g3:4000<fuel:=by omega
    clear hg
    go_in
    go_wp2_with fail;exact bodyPost_ret (v:= .tuple #[.string ⟨#[]⟩,.int .i64 0,.int .i64 1]) (by simp[results,Tryz.results34,go_sem]) rfl ⟨rfl,But.refl _ _⟩
 ·obtain⟨fu,rfl⟩: ∃fu:Nat,fuel=fu:=⟨fuel.toNat,by omega⟩;have g1: ¬40<(inp.size:Int):=by omega
  have g2: ¬(fu:Int)<0:=by omega
  have g3: ¬4000<(fu:Int):=by omega
  have key:Calls Tryz.prog 60 #[.string s] w fun en w'=>But (fun _=>False) w w'∧((∃(e:Nat) (p:Int),en= .returned (.agg #[.int .i64 e,.int .i64 p,.pointer none,.slice none 0 0])∧0<e∧RR=([],0,e))∨ ∃im g,en= .returned (.agg #[.int .i64 0,.int .i64 0,.pointer (some ⟨g,0,none⟩),.slice none 0 0])∧dA w' g im∧dz im∧RR=jd im inp fu):=by
   refine(ik s w hmax).mono ?_;rintro en w' ⟨hB,hE⟩;refine⟨hB,?_⟩;unfold kr at hE;unfold eI at a0;rw[if_neg hg]at a0
   cases hl:dZ s with
   |error e=>
    rw[hl]at hE a0;obtain⟨e,p⟩:=e;exact Or.inl ⟨e,p,hE,(iQ hl).1,a0.symm⟩
   |ok im=>
    rw[hl]at hE a0;simp only at hE a0
    have a7:s.size≤2000:=by
     unfold dZ at hl
     split at hl
     ·cases hl
     ·omega
    cases ht:im.bodies.findIdx? (fun b=> !dR im b)with
    |some k=>
     rw[ht]at hE;have h4:dK s=(4,k):=by unfold dK;rw[hl];simp only[ht]
     rw[h4]at a0;exact Or.inl ⟨4,k,hE,by omega,by rw[←a0];rfl⟩
    |none=>
     rw[ht]at hE;obtain⟨g,h1,h2,h3⟩:=hE;have h4:(dK s).1=0:=by unfold dK;rw[hl];simp only[ht]
     rw[if_pos h4]at a0;exact Or.inr ⟨im,g,h1,h3,sy a7 hl h4,by rw[←a0];simp⟩
  have HK:=hid key;clear key a0
  go_in
  go_wp2_with fail;refine HK.out.mono ?_;rintro en w1 ⟨a2,a6⟩;clear HK;rcases a6 with⟨e,p,rfl,he,rfl⟩ | ⟨im,g,rfl,a4,hR,a1⟩
  ·have a8:((e:Int)!=0)=true:=by rw[bne_iff_ne];omega
   go_wp2_with fail
   go_quiet (fail)
   go_wp2_with fail;exact bodyPost_ret (v:= .tuple #[.string ⟨#[]⟩,.int .i64 0,.int .i64 e]) (by simp[results,Tryz.results34,go_sem]) rfl ⟨rfl,(a2.trans (But.alloc _ _ _)).trans (But.drewN _ _ _)⟩
  ·have HE:=hid (fun ob=>xJ (w1.alloc ob) g inp fu (by omega) (by omega) im (a4.but (But.alloc (fun _=>False) w1 ob)) ((htab.but a2).but (But.alloc _ w1 ob)) hR);have a3:=xI inp fu (by omega) im hR;rw[←a1]at HE a3;have HV:=hid a3;clear a4 a1 a3;obtain⟨o,v,e⟩:=RR;unfold evQ at HE;dsimp only at HE HV;go_wp2_with fail;refine(HE.out _).mono ?_;rintro en w2 ⟨rfl,a5⟩;clear HE;go_wp2_with fail;refine(te e HV.out w2).mono ?_;rintro en w3 ⟨rfl,rfl⟩;go_wp2_with fail;exact bodyPost_ret (v:= .tuple #[.string ⟨o.toArray⟩,.int .i64 v,.int .i64 e]) (by simp[results,Tryz.results34,go_sem]) rfl ⟨rfl,(a2.trans (But.alloc _ _ _)).trans a5⟩
end
end Go.Proofs.YtpfkkmacakjmbaaGreatDoor
