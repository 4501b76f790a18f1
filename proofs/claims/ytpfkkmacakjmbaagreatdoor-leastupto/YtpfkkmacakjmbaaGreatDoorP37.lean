import Derived.Test.YtpfkkmacakjmbaaGreatDoorP36
set_option maxRecDepth 100000
set_option maxHeartbeats 6400000
set_option linter.unusedSimpArgs false
set_option linter.unusedVariables false
namespace Go.Proofs.YtpfkkmacakjmbaaGreatDoor
section
open Go Go.RowKit Sp
attribute [local go_sem ↓] Go.wp_at_zero Go.wp_at_succ
def jg (im:Img) (inp:ByteArray) (f:Nat) (b:Bod) (d:Nat) (ps:List Nat) (k:Nat) (l:List V) (s:Ev):R:=match ps[k]? with
 |some j=>bN im inp f b d j l s
 |none=> .ok .z l s
def doV (im:Img) (inp:ByteArray) (f d:Nat) (x:Ins) (u v:V) (l:List V) (s:Ev):R:=
 if aw x.op=0 then lq im inp x l s else if aw x.op=1 then qB im x u l s else qC im (fun b' l'=>bN im inp f b' (d+1) 0 l' s) d x u v l s
theorem iB {cs:List Cls} {gs:List Sig} {lo:List UInt8} {t:List Ins} {F k:Nat} {c:UInt8} (h:bS cs gs lo t F k=some c):k<t.length:=by
 cases F with
 |zero=>cases h
 |succ F=>
  simp only[bS]at h
  cases hx:t[k]? with
  |none=>rw[hx]at h;cases h
  |some x=>exact(List.getElem?_eq_some_iff.1 hx).1
theorem vX {cs:List Cls} {gs:List Sig} {lo:List UInt8} {t:List Ins} {F:Nat}: ∀{n k:Nat} {ts:List UInt8},bF t (bS cs gs lo t F) n k=some ts→
  ts.length=n∧(cd t n k).length=n∧ ∀(q j:Nat),(cd t n k)[q]?=some j→ ∃c,ts[q]?=some c∧bS cs gs lo t F j=some c:=by
 intro n
 induction n with
 |zero=>intro k ts h;simp[bF]at h;subst h;exact⟨rfl,rfl,fun q j h=>by simp[cd]at h⟩
 |succ n ih=>
  intro k ts h;rw[bF]at h
  cases hc:bS cs gs lo t F k with
  |none=>rw[hc]at h;cases h
  |some c=>
   rw[hc]at h;simp only[Option.map_eq_some_iff]at h;obtain⟨ts',h1,rfl⟩:=h;obtain⟨a1,a2,a3⟩:=ih h1;have hk:=iB hc;rw[cd,if_pos hk];refine⟨by simp[a1],by simp[a2],fun q j hq=> ?_⟩
   cases q with
   |zero=>simp at hq;subst hq;exact⟨c,rfl,hc⟩
   |succ q=>simp at hq;simpa using a3 q j hq
theorem zK {t:List Ins} {i:Nat} {x:Ins} (h:t[i]?=some x):dg t i=cd t (aw x.op) (i+1):=by simp[dg,h]
section
variable {im:Img} {inp:ByteArray} {f:Nat} {b:Bod} {d i:Nat} {l:List V} {s:Ev}
theorem yp {x:Ins} {sl:Nat} (hx:b.code[i]?=some x) (hsl:s.left=sl+1) (h:x.op.toNat=111):bN im inp (f+1) b d i l s=fF (bN im inp f b d (i+1)) (bN im inp f b d (bg b.code (i+1))) f l {s with left:=sl}:=by
 have h1:aw x.op≠0:=by simp[aw,h]
 simp only[bN,hx,hsl,Nat.add_sub_cancel];rw[if_neg (by omega),if_neg h1,if_pos h]
theorem yq {x:Ins} {sl:Nat} (hx:b.code[i]?=some x) (hsl:s.left=sl+1) (h:x.op.toNat=105):bN im inp (f+1) b d i l s=fU (bN im inp f b d (i+1) l {s with left:=sl}) (fun u l s=>bN im inp f b d (if u.N=0 then bg b.code (bg b.code (i+1))else bg b.code (i+1)) l s):=by
 have h1:aw x.op≠0:=by simp[aw,h]
 simp only[bN,hx,hsl,Nat.add_sub_cancel];rw[if_neg (by omega),if_neg h1,if_neg (by omega)]
 cases bN im inp f b d (i+1) l {s with left:=sl}with
 |bad e o=>rfl
 |ok u l s=>simp only[fU,h,if_true]
theorem zL {x:Ins} {sl:Nat} (hx:b.code[i]?=some x) (hsl:s.left=sl+1) (h1:x.op.toNat≠111) (h2:x.op.toNat≠105) (hp:(cd b.code (aw x.op) (i+1)).length=aw x.op):
  bN im inp (f+1) b d i l s=fU (jg im inp f b d (cd b.code (aw x.op) (i+1)) 0 l {s with left:=sl}) (fun u l s=>fU (jg im inp f b d (cd b.code (aw x.op) (i+1)) 1 l s) (fun v l s=>doV im inp f d x u v l s)):=by
 have a0:aw x.op=0∨aw x.op=1∨aw x.op=2:=by
  unfold aw;rw[if_neg h2]
  split
  ·exact Or.inr (Or.inr rfl)
  ·split
   ·exact Or.inr (Or.inl rfl)
   ·exact Or.inl rfl
 simp only[bN,hx,hsl,Nat.add_sub_cancel];rw[if_neg (by omega)];rcases a0 with a0|a0|a0
 ·rw[if_pos a0,a0];simp[jg,cd,fU,doV,a0]
 ·rw[if_neg (by omega),if_neg h1]
  have e0:(cd b.code (aw x.op) (i+1))=[i+1]:=by
   rw[a0]at hp⊢;rw[cd]at hp⊢
   split at hp
   ·rename_i hk;rw[if_pos hk];rfl
   ·cases hp
  rw[e0];simp only[jg,List.getElem?_cons_zero,List.getElem?_cons_succ,List.getElem?_nil]
  cases bN im inp f b d (i+1) l {s with left:=sl}with
  |bad e o=>rfl
  |ok u l s=>simp[fU,h2,a0,doV]
 ·rw[if_neg (by omega),if_neg h1]
  have e0:(cd b.code (aw x.op) (i+1))=[i+1,bg b.code (i+1)]:=by
   rw[a0]at hp⊢;rw[cd]at hp⊢
   split at hp
   ·rename_i hk
    rw[if_pos hk];rw[cd]at hp⊢
    split at hp
    ·rename_i hk2;rw[if_pos hk2];rfl
    ·simp at hp
   ·cases hp
  rw[e0];simp only[jg,List.getElem?_cons_zero,List.getElem?_cons_succ]
  cases bN im inp f b d (i+1) l {s with left:=sl}with
  |bad e o=>rfl
  |ok u l s=>
   simp only[fU,h2,a0,if_false];rw[if_neg (by omega)]
   cases bN im inp f b d (bg b.code (i+1)) l s with
   |bad e o=>rfl
   |ok v l s=>simp[doV,a0]
def Bf (im:Img) (B:Nat) (lo:List UInt8) (ts:List UInt8) (k:Nat) (s0:Ev):R→Prop
 | .bad e o=>5≤e∧e≤10
 | .ok u l s=>LT im.classes s.heap lo l∧StT im B s∧Ext s0.heap s.heap∧s.left≤s0.left∧ ∀t,ts[k]?=some t→VT im.classes s.heap t u
theorem lK {F B:Nat} {ps:List Nat} {ts:List UInt8} (hR:dF im) (hbm:b∈im.bodies) (hlen:ps.length=ts.length) (hpt: ∀(q j:Nat),ps[q]?=some j→ ∃c,ts[q]?=some c∧bS im.classes im.sigs b.locals b.code F j=some c) (k:Nat) (hll:LT im.classes s.heap b.locals l) (hs:StT im B s) (hsf:s.left≤f):Bf im B b.locals ts k s (jg im inp f b d ps k l s):=by
 unfold jg
 cases hk:ps[k]? with
 |none=>
  refine⟨hll,hs,Ext.refl _,Nat.le_refl _,fun t ht=> ?_⟩;have:=(List.getElem?_eq_some_iff.1 ht).1;rw[List.getElem?_eq_none_iff]at hk;omega
 |some j=>
  obtain⟨c,hc,a0⟩:=hpt k j hk;have HT:=ec hR inp f B b d j l s c F hbm a0 hll hs hsf;simp only
  cases hn:bN im inp f b d j l s with
  |bad e o=>rw[hn]at HT;exact⟨HT.1,HT.2.1⟩
  |ok u l1 s1=>
   rw[hn]at HT;obtain⟨y1,y2,y3,y4,y5⟩:=HT;exact⟨y2,y3,y4,by omega,fun t ht=>by rw[hc]at ht;cases ht;exact y1⟩
end
section
variable {P:Nat→Prop} {w0 w:World} {be bw tx bl:Nat} {inp:ByteArray} {s:Ev} {lv vo vb:Value} {l:List V} {gs:List Nat} {fv:List Value} {im:Img} {b:Bod} {bf d:Nat} {Xb:ba} {vl vi:Value}
theorem sc {f B F:Nat} {ps:List Nat} {ts:List UInt8} (IH:kL im inp w0 be bw tx f) (h:StQ P w0 w be bw tx inp s bl lv l vo vb gs fv) (hF:FrS P w0 w im b bf d Xb vl vi bl) (hbm:b∈im.bodies) (hs:StT im B s) (hsf:s.left≤f) (hd:d≤12) (hll:LT im.classes s.heap b.locals l) (hps:ps.length≤3) (hpt: ∀(q j:Nat),ps[q]?=some j→ ∃c,ts[q]?=some c∧bS im.classes im.sigs b.locals b.code F j=some c) (k:Nat) (hk3:k≤3) (pl op n pn pc:Nat) (c:UInt8) (pa:Option Addr) (hrow:w0.ownsRow 0 3 1 (.slice pa pn pc) ps.length (dy ps)):
  Calls Tryz.prog 155 #[.pointer (some ⟨be,0,none⟩),.pointer (some ⟨bf,0,none⟩),.agg #[.int .i64 pl,.int .u8 op,.int .u8 c.toNat,.int .i64 n,.slice pa pn pc],.int .i64 k] w (ReV P w0 w be bw tx inp bl lv (jg im inp f b d ps k l s)):=by
 unfold jg
 cases hk:ps[k]? with
 |none=>
  obtain⟨a',cap',a0⟩:=aq hrow;injection a0 with e1 e2 e3;rw[List.getElem?_eq_none_iff]at hk;exact vW h pl op n pn pc k c pa (by omega) hk3
 |some j=>
  obtain⟨c',hc,a1⟩:=hpt k j hk;exact iA IH h hF hbm hs hsf hd hll ps hps k j hk a1 pl op n pn pc c pa hrow
def DoC (im:Img) (inp:ByteArray) (w0:World) (be bw tx f:Nat):Prop:=
 ∀(P:Nat→Prop) (w:World) (s:Ev) (bl:Nat) (lv:Value) (l:List V) (vo vb:Value) (gs:List Nat) (fv:List Value) (b:Bod) (bf d:Nat) (Xb:ba) (vl vi:Value) (B:Nat) (ts:List UInt8) (tt:UInt8),StQ P w0 w be bw tx inp s bl lv l vo vb gs fv→FrS P w0 w im b bf d Xb vl vi bl→b∈im.bodies→StT im B s→s.left≤f→d≤12→
  ∀x∈b.code,LT im.classes s.heap b.locals l→x.op.toNat≠111→x.op.toNat≠105→ts.length=aw x.op→ ∀u v:V,(∀t,ts[0]?=some t→VT im.classes s.heap t u)→(∀t,ts[1]?=some t→VT im.classes s.heap t v)→bk im.classes im.sigs b.locals x ts=some tt→ ∀(pl pn pc:Nat) (pa:Option Addr),
  Calls Tryz.prog 156 #[.pointer (some ⟨be,0,none⟩),.pointer (some ⟨bf,0,none⟩),itN x pa pl pn pc,bn u,bn v] w (ReV P w0 w be bw tx inp bl lv (doV im inp f d x u v l s))
end
theorem ReV.less {P Q:Nat→Prop} {w0 w w1:World} {be bw tx bl:Nat} {inp:ByteArray} {lv:Value} {r:R} {en:Ending} (h:ReV Q w0 w be bw tx inp bl lv r en w1) (hs: ∀k,P k→Q k):ReV P w0 w be bw tx inp bl lv r en w1:=by
 obtain⟨hB,vo,vb,gs,fv,h⟩:=h;refine⟨hB.mono (fun k _ hf=>⟨hf.1,fun hp=>hf.2 (hs k hp)⟩),vo,vb,gs,fv,?_⟩
 cases r with
 |ok u l s=>exact⟨h.1,h.2.less hs⟩
 |bad e o=>obtain⟨a,s,l,b,c⟩:=h;exact⟨a,s,l,b,c.less hs⟩
theorem Bs {t:List Ins} {k:Nat} (h1:k<t.length) (h2:bg t k<t.length) (h3:bg t (bg t k)<t.length):cd t 3 k=[k,bg t k,bg t (bg t k)]:=by
 simp[cd,h1,h2,h3]
theorem Bt {t:List Ins} {k:Nat} (h1:k<t.length) (h2:bg t k<t.length):cd t 2 k=[k,bg t k]:=by
 simp[cd,h1,h2]
theorem ui {x:Ins} {k:Nat} (h:x.op.toNat≠k) (h1:k≠107) (h2:58≤k):(bp x).op.toNat≠k:=by
 cases hd:bu x.op with
 |true=>rw[(rZ hd).1];omega
 |false=>
  rw[(kM (x:=x) (by simp[bu]at hd;omega)).1];exact h
section
variable {P:Nat→Prop} {w0 w:World} {be bw tx bl:Nat} {inp:ByteArray} {s:Ev} {lv vo vb:Value} {l:List V} {gs:List Nat} {fv:List Value} {im:Img} {b:Bod} {bf d i:Nat} {Xb:ba} {vl vi:Value}
theorem nj (h:StQ P w0 w be bw tx inp s bl lv l vo vb gs fv) (h0:s.left=0):
  Calls Tryz.prog 93 #[.pointer (some ⟨be,0,none⟩),.pointer (some ⟨bf,0,none⟩),.int .i64 i] w (ReV P w0 w be bw tx inp bl lv (.bad 5 s.out)):=by
 have e2:=h.ev.c2;have a1:=h.ev.lt;rw[h0]at e2;have a0:w.cell? ⟨be,2,none⟩=some (.int .i64 0):=e2;have HH:=hid h;clear e2 h h0
 go_in
 go_wp2_with fail;exact eA Tryz.results93 rfl rfl rfl (heap_alloc_new _ _) ⟨But.alloc _ _ _,vo,vb,gs,fv,rfl,s,l,rfl,HH.out.new (But.alloc _ _ _)⟩
end
theorem vY {f:Nat} (w0:World) (be bw tx:Nat) (inp:ByteArray) (im:Img) (hR:dF im) (hDo:DoC im inp w0 be bw tx f) (IH:kL im inp w0 be bw tx f):kL im inp w0 be bw tx (f+1):=by
 intro b d i l s t F B P w bl lv vo vb gs fv bf X vl vi e5 hd a7 j4 hs s9 h hF
 by_cases h0:s.left=0
 ·rw[fC h0];exact nj h h0
 have hW:=hR.wf;have p5:=iB a7
 cases F with
 |zero=>cases a7
 |succ F=>
 simp only[bS]at a7;obtain⟨x,hx⟩: ∃x,b.code[i]?=some x:=⟨_,List.getElem?_eq_getElem p5⟩;rw[hx]at a7;simp only at a7;have o2:=hW.bod b e5;have o3:x∈b.code:=List.mem_of_getElem? hx;have t3:=o2.code x o3
 cases hp:bF b.code (bS im.classes im.sigs b.locals b.code F) (aw x.op) (i+1)with
 |none=>rw[hp]at a7;cases a7
 |some ts=>
 rw[hp]at a7;simp only at a7;obtain⟨n1,j5,m3⟩:=vX hp;obtain⟨sl,b5⟩: ∃sl,s.left=sl+1:=⟨s.left-1,by omega⟩;have k0:StT im (B-22) {s with left:=sl}:=⟨hs.ht,by have:=hs.cap;simp;omega,by have:=hs.outn;simp;omega,by have:=hs.bb;omega,by have:=hs.rd;simp;omega⟩;have e0:sl≤f:=by omega
 --the item
 have s3:X.items.length=b.code.length:=hF.bd.bd.its.len;obtain⟨xi,n2⟩: ∃xi,X.items[i]?=some xi:=⟨_,List.getElem?_eq_getElem (by omega)⟩;obtain⟨z1,z2,z3,z4,b0⟩:=hF.bd.bd.its.at' i x xi hx n2;rw[zK hx]at b0;obtain⟨ps,b3⟩: ∃ps,cd b.code (aw x.op) (i+1)=ps:=⟨_,rfl⟩;have f4:=j5;rw[b3]at j5 m3 b0;obtain⟨RR,b2⟩: ∃RR,bN im inp (f+1) b d i l s=RR:=⟨_,rfl⟩;rw[b2];have p2:aw x.op≤3:=by unfold aw;split;omega;split;omega;split<;>omega
 have r3:=o2.len
 --the fuel
 have l2:But (FrQ P w0) w (w.setCell ⟨be,2,none⟩ (.int .i64 sl)):=(But.setB w be 2 _).mono (fun k _ e=>by have e:k=be:=e;subst e;exact h.k1);have hf:=h.fuel sl;have n6:=hF.but l2;have e2:=h.ev.c2;have y2:=h.ev.fz 2;rw[b5]at e2;have o6:w.cell? ⟨be,2,none⟩=some (.int .i64 ((sl:Int)+1)):=by rw[e2];simp
 have r4:=h.ev.lt;have q3: ¬((sl:Int)+1≤0):=by omega
 have r5:be<w.heap.size+1:=by omega
 have q2:sl≤4000:=by have:=hs.cap;omega
 obtain⟨a0,a1,a2,a3,a4,a5,a6,r2⟩:=hF.cells;have p8: ¬be=bf:=fun e=>h.k1.2 (e▸hF.pf)
 have q0: ¬bf=be:=fun e=>p8 e.symm
 have p3:bf<w.heap.size+1:=by omega
 have n3:=hid (fun(Y:World) (hY:But (fun _=>False) w0 Y)=>m9 X.cls X.meth X.ans vl vi X.items i xi Y (ah hF.bd.it hY (fun _ _ h=>h)) n2 (by omega));have q9:=h.old.size;have HX:=hid (And.intro hx (And.intro b5 (And.intro a7 (And.intro b3 b2))));have HZ:=hid (And.intro z1 (And.intro z2 (And.intro z3 z4)));have c7:=hid m3;have HP:=hid hp;have o5:=hid hx;have Hf:=hid hf;have b4:=hid n6;have f2:=hid l2;clear e2 hx b5 a7 b3 b2 m3 hf n6 l2 hp h hF n2 z1 z2 z3 z4 h0 o3
 go_in
 go_wp2_with fail;have e9:NB (w.setCell ⟨be,2,none⟩ (.int .i64 sl)) ((w.setCell ⟨be,2,none⟩ (.int .i64 sl)).alloc (.cells #[.int .i32 0,.int .i64 0] 168)):=(NB.refl _).alloc (by decide);have g3:dz ((w.setCell ⟨be,2,none⟩ (.int .i64 sl)).alloc (.cells #[.int .i32 0,.int .i64 0] 168)) w.heap.size:=⟨0,0,CB (by simp[br]) _⟩;have o1:(w.setCell ⟨be,2,none⟩ (.int .i64 sl)).heap.size=w.heap.size:=br _ _ _;revert Hf b4 f2 e9 g3 o1;generalize (w.setCell ⟨be,2,none⟩ (.int .i64 sl))=wf;intro Hf b4 f2 e9 g3 o1;revert e9 g3;generalize (wf.alloc (.cells #[.int .i32 0,.int .i64 0] 168))=wa;intro e9 g3;refine(n3.out wa (Hf.out.old.trans e9.but)).mono ?_
 rintro en w2 ⟨rfl,h6⟩;obtain⟨z1,z2,z3,z4⟩:=HZ.out
 have h4:NB wf w2:=⟨e9.but.trans h6.but,fun k a b c fz e=>by
  rcases Nat.lt_or_ge k wa.heap.size with hk|hk
  ·rw[h6.but.block k hk (fun h=>h)]at e;exact e9.nb k a hk c fz e
  ·exact h6.nb k hk b c fz e⟩
 have j3:dz w2 w.heap.size:=g3.but h6.but (fun h=>h);unfold cI;rw[z1,z2,z3,z4];clear n3 HZ z1 z2 z3 z4 e9 h6 g3 wa a0 a1 a2 a3 a4 a5 a6 o6 y2;generalize i5:(bp x).op.toNat=op;generalize p4:(bp x).cls=cc;generalize q1:(bp x).num=nn;generalize s5:(bp x).place=pp;obtain⟨hx,b5,a7,b3,b2⟩:=HX.out;have e3: ∀c,NB wf (w2.alloc (.cells c 219)):=fun c=>h4.alloc (by decide)
 by_cases h105:x.op.toNat=105
 ·have m2:((op:Int)==105)=true:=tst (by rw[←i5,(kM (x:=x) (by omega)).1,h105]);have m0:aw x.op=3:=by simp[aw,h105]
  rw[yq hx b5 h105]at b2;have hp:=HP.out;rw[m0]at hp b3;obtain⟨t0,t1,t2,g0,g1,g2,rfl⟩:=pN hp;simp[bk,cJ,bD,Sp.arith,h105]at a7;rw[Bs (iB g0) (iB g1) (iB g2)]at b3;subst b3;have HC:=hid (fun c=>tG hR IH (Hf.out.grown (e3 c)) (b4.out.grown (e3 c)) e5 k0 e0 hd j4 _ _ _ g0 a7.1.1 g1 g2 pp op nn xi.pn xi.pc cc xi.pa b0);rw[b2]at HC;clear HX hx b5 a7 b2 HP hp g0 g1 g2 n1 j5 f4 c7 Hf b4 b0;go_wp2_with fail;refine(HC.out _).mono ?_;intro en w4 e8;obtain⟨K,N,e,rfl,a8⟩:=ReV.pass (e3 _) (by omega) e8;obtain⟨e7,e6⟩:=a8 w.heap.size (by omega) (j3.but (But.alloc (fun _=>False) _ _) (fun h=>h));obtain⟨K9,N9,r0,r1,f0,f1,j7⟩:=e7.parts
  have HF:=hid (e6.since f2.out);clear e6 a8 e8 HC;go_wp2_with fail;exact eA Tryz.results93 rfl rfl rfl (e7.put _ _) HF.out
 have m2:((op:Int)==105)=false:=tsf (k:=105) (by rw[←i5];exact ui h105 (by omega) (by omega))
 by_cases h111:x.op.toNat=111
 ·have m1:((op:Int)==111)=true:=tst (by rw[←i5,(kM (x:=x) (by omega)).1,h111]);have m0:aw x.op=2:=by simp[aw,h111]
  rw[yp hx b5 h111]at b2;have hp:=HP.out;rw[m0]at hp b3;obtain⟨t0,t1,g0,g1,rfl⟩:=kC hp;simp[bk,cJ,bD,Sp.arith,h111]at a7;rw[Bt (iB g0) (iB g1)]at b3;subst b3;have HC:=hid (fun c=>tH hR IH (Hf.out.grown (e3 c)) (b4.out.grown (e3 c)) e5 k0 e0 hd j4 _ _ g0 a7.1 g1 pp op nn xi.pn xi.pc cc xi.pa b0);rw[b2]at HC;clear HX hx b5 a7 b2 HP hp g0 g1 n1 j5 f4 c7 Hf b4 b0;go_wp2_with fail;refine(HC.out _).mono ?_;intro en w4 e8;obtain⟨K,N,e,rfl,a8⟩:=ReV.pass (e3 _) (by omega) e8;obtain⟨e7,e6⟩:=a8 w.heap.size (by omega) (j3.but (But.alloc (fun _=>False) _ _) (fun h=>h));obtain⟨K9,N9,r0,r1,f0,f1,j7⟩:=e7.parts
  have HF:=hid (e6.since f2.out);clear e6 a8 e8 HC;go_wp2_with fail;exact eA Tryz.results93 rfl rfl rfl (e7.put _ _) HF.out
 have m1:((op:Int)==111)=false:=tsf (k:=111) (by rw[←i5];exact ui h111 (by omega) (by omega));rw[zL hx b5 h111 h105 f4,b3]at b2;have i6:ps.length≤3:=by omega
 have n7:ps.length=ts.length:=by omega
 have l0:=hid b2;have j2:=hid a7;have q4:=h4.but.size;have h2:=heap_alloc_new w2 (.cells #[.int .i64 pp,.int .u8 op,.int .u8 cc.toNat,.int .i64 nn,.slice xi.pa xi.pn xi.pc] 219);have h7:(w2.alloc (.cells #[.int .i64 pp,.int .u8 op,.int .u8 cc.toNat,.int .i64 nn,.slice xi.pa xi.pn xi.pc] 219)).heap.size=w2.heap.size+1:=by simp
 have f3:=e3 #[.int .i64 pp,.int .u8 op,.int .u8 cc.toNat,.int .i64 nn,.slice xi.pa xi.pn xi.pc];have f8:=j3.but (But.alloc (fun _=>False) w2 (.cells #[.int .i64 pp,.int .u8 op,.int .u8 cc.toNat,.int .i64 nn,.slice xi.pa xi.pn xi.pc] 219)) (fun h=>h);have o4:=hid (fun(X:World) (hX:X=w2.alloc (.cells #[.int .i64 pp,.int .u8 op,.int .u8 cc.toNat,.int .i64 nn,.slice xi.pa xi.pn xi.pc] 219))=>hX);clear HX hx b5 a7 b3 b2 HP e3 o4 j3;go_wp2_with fail;revert h2 h7 f3 f8;generalize (w2.alloc (.cells #[.int .i64 pp,.int .u8 op,.int .u8 cc.toNat,.int .i64 nn,.slice xi.pa xi.pn xi.pc] 219))=W3;intro h2 h7 f3 f8
 have h3:=Hf.out.grown f3;have h1:=b4.out.grown f3;obtain⟨P3,e4⟩: ∃P3:Nat→Prop,PQ P wf W3=P3:=⟨_,rfl⟩;have pI:P3 w2.heap.size:=by rw[←e4];exact Or.inr ⟨by omega,by omega⟩
 have pR:P3 w.heap.size:=by rw[←e4];exact Or.inr ⟨by omega,by omega⟩
 have pF:=h1.pf;rw[e4]at h3 h1 pF;have k3:=hid (sc (s:={s with left:=sl}) IH h3 h1 e5 k0 e0 hd j4 i6 c7.out 0 (by omega) pp op nn xi.pn xi.pc cc xi.pa b0);have l1:=hid (lK (inp:=inp) (d:=d) (s:={s with left:=sl}) hR e5 n7 c7.out 0 j4 k0 e0);rw[show((0:Nat):Int)=0 from rfl]at k3;refine k3.out.mono ?_;rintro en w4 ⟨g6,t6,t4,q7,q5,hq⟩;have p0:=h1.but g6;have d0:=(g6.block _ (ae h2) (fun hf=>hf.2 pI)).trans h2;have p6:=ae d0;have m4:=f8.but g6 (fun hf=>hf.2 pR);have b1:=l1.out;have f5:=l0.out;clear k3 h1 h3
 cases hn:jg im inp f b d ps 0 l {s with left:=sl}with
 |bad e o=>
  rw[hn]at hq b1 f5;obtain⟨rfl,s4,l4,ho,i7⟩:=hq;subst f5;obtain⟨e1,e2⟩:=fD b1.1 b1.2;have HF:=hid (fun a b=>StQ.fin f3 (by omega) (e4▸i7) (e4▸g6) (r:=w.heap.size) (by omega) f8 a b);obtain⟨K9,N9,r0,r1,z0,z1,j7⟩:=m4.parts;have m5:w.heap.size<w4.heap.size+1:=by omega
  clear l1 l0 b1 hn d0 i7 h2 j2 c7 Hf b4;go_wp2_with fail;exact eA Tryz.results93 rfl rfl rfl (yo m4) ⟨f2.out.trans ((HF.out _ _).2.1.trans (But.alloc _ _ _)),_,_,_,_,rfl,s4,l4,ho,(HF.out _ _).2.2.new (But.alloc _ _ _)⟩
 |ok u l4 s4=>
  rw[hn]at hq b1 f5;obtain⟨rfl,i7⟩:=hq;obtain⟨y1,y2,y3,y4,y5⟩:=b1;simp only at y3 y4;simp only[fU]at f5;have n4:=hid f5;have i0:=ce0 d0;have i1:=ce1 d0;have i2:=ce2 d0;have i3:=ce3 d0;have i4:=ce4 d0;have h5:=i7.grown1 (c:=#[.int .i32 (xN u),.int .i64 (xO u)]) (t:=168) (by decide);have h8:(w4.alloc (.cells #[.int .i32 (xN u),.int .i64 (xO u)] 168)).heap.size=w4.heap.size+1:=by simp
  have f7:But (fun _=>False) w4 (w4.alloc (.cells #[.int .i32 (xN u),.int .i64 (xO u)] 168)):=But.alloc _ _ _;have h9:=heap_alloc_new w4 (.cells #[.int .i32 (xN u),.int .i64 (xO u)] 168);clear f5 l1 l0 hn;simp only[bn];go_wp2_with fail;revert h5 h8 f7 h9;generalize (w4.alloc (.cells #[.int .i32 (xN u),.int .i64 (xO u)] 168))=W5;intro h5 h8 f7 h9;clear i0 i1 i2 i3 i4;obtain⟨P5,l5⟩: ∃P5:Nat→Prop,PQ P3 w4 W5=P5:=⟨_,rfl⟩;have g4: ∀k,P3 k→P5 k:=fun k hk=>by rw[←l5];exact Or.inl hk
  have pU:P5 w4.heap.size:=by rw[←l5];exact Or.inr ⟨by omega,by omega⟩
  rw[l5]at h5;have l3:FrS P5 w0 W5 im b bf d X vl vi bl:=(p0.but (f7.mono (fun _ _ h=>h.elim))).mono (g4 _ pF);have j1:s4.left≤f:=by omega
  have k9:=hid (sc IH h5 l3 e5 y2 j1 hd y1 i6 c7.out 1 (by omega) pp op nn xi.pn xi.pc cc xi.pa b0);have n5:=hid (lK (inp:=inp) (d:=d) hR e5 n7 c7.out 1 y1 y2 j1);rw[show((1:Nat):Int)=1 from rfl]at k9;refine k9.out.mono ?_;rintro en w6 ⟨g7,v0,t5,q8,q6,hq⟩;have p1:=l3.but g7;have d5:=(f7.block _ p6 (fun h=>h)).trans d0;have d6:=(g7.block _ (ae d5) (fun hf=>hf.2 (g4 _ pI))).trans d5;have b6:=(g7.block _ (ae h9) (fun hf=>hf.2 pU)).trans h9;have r8:=ae d6;have s0:=ae b6;have o0:=(m4.but f7 (fun h=>h)).but g7 (fun hf=>hf.2 (g4 _ pR));have g5:But (FrQ P3 w0) W3 w6:=(g6.trans (f7.mono (fun _ _ h=>h.elim))).trans (g7.mono (fun k _ hf=>⟨hf.1,fun hp=>hf.2 (g4 k hp)⟩))
  have b1:=n5.out;have f6:=n4.out;clear k9 n4 n5 h5 l3 d5 d0 h9 i7
  cases hn:jg im inp f b d ps 1 l4 s4 with
  |bad e o=>
   rw[hn]at hq b1 f6;obtain⟨rfl,s6,l6,ho,j0⟩:=hq;subst f6;obtain⟨e1,e2⟩:=fD b1.1 b1.2;have HF:=hid (fun a b=>StQ.fin f3 (by omega) (e4▸j0.less g4) (e4▸g5) (r:=w.heap.size) (by omega) f8 a b);obtain⟨K9,N9,r0,r1,z0,z1,j7⟩:=o0.parts;have m5:w.heap.size<w6.heap.size+1:=by omega
   clear b1 hn j0 j2 c7 Hf b4 d6 b6 y5;go_wp2_with fail;exact eA Tryz.results93 rfl rfl rfl (yo o0) ⟨f2.out.trans ((HF.out _ _).2.1.trans (But.alloc _ _ _)),_,_,_,_,rfl,s6,l6,ho,(HF.out _ _).2.2.new (But.alloc _ _ _)⟩
  |ok v l6 s6=>
   rw[hn]at hq b1 f6;obtain⟨rfl,j0⟩:=hq;obtain⟨x1,x2,x3,x4,x5⟩:=b1;simp only[fU]at f6;have n0:s6.left≤f:=by omega
   have HD:=hid (fun ob=>hDo _ _ _ _ _ _ _ _ _ _ _ _ _ _ _ _ _ _ _ (j0.new (But.alloc (fun _=>False) w6 ob)) (p1.but (But.alloc _ w6 ob)) e5 x2 n0 hd x (List.mem_of_getElem? o5.out) x1 h111 h105 n1 u v (fun t ht=>(y5 t ht).ext x3) x5 j2.out pp xi.pn xi.pc xi.pa);unfold itN at HD;rw[i5,p4,q1,f6]at HD;have i0:=ce0 d6;have i1:=ce1 d6;have i2:=ce2 d6;have i3:=ce3 d6;have i4:=ce4 d6;have u0:=ce0 b6;have u1:=ce1 b6;have s1:w2.heap.size<w6.heap.size+1:=by omega
   have s2:w4.heap.size<w6.heap.size+1:=by omega
   clear f6 hn j0 j2 c7 Hf b4 d6 b6 y5 x5;simp only[bn]at HD⊢;go_wp2_with fail;refine(HD.out _).mono ?_;intro en w8 e8;obtain⟨K,N,e,rfl,a8⟩:=ReV.pass f3 (by omega) (e4▸(e8.less g4).since (g5.trans (But.alloc _ _ _)));obtain⟨e7,e6⟩:=a8 w.heap.size (by omega) f8;obtain⟨K9,N9,r0,r1,f0,f1,j7⟩:=e7.parts;have HF:=hid (e6.since f2.out);clear e6 a8 e8 HD i0 i1 i2 i3 i4 u0 u1;go_wp2_with fail;exact eA Tryz.results93 rfl rfl rfl (e7.put _ _) HF.out
theorem yr (w0:World) (be bw tx:Nat) (inp:ByteArray) (im:Img) (hR:dF im) (hDo: ∀f,kL im inp w0 be bw tx f→DoC im inp w0 be bw tx f): ∀f,kL im inp w0 be bw tx f:=by
 intro f
 induction f with
 |zero=>
  intro b d i l s t F B P w bl lv vo vb gs fv bf X vl vi a0 hd a3 a1 hs a2 h hF;rw[fC (by omega)];exact nj h (by omega)
 |succ f ih=>exact vY w0 be bw tx inp im hR (hDo f ih) ih
theorem yt (tx:Nat) (inp:ByteArray) (w:World):
  Calls Tryz.prog 86 #[.pointer (some ⟨tx,0,none⟩),.string inp] w fun en w'=>en= .returned (.pointer (some ⟨w.heap.size,0,none⟩))∧w'=w.alloc (.cells #[.pointer (some ⟨tx,0,none⟩),.string inp,.int .i64 0,.slice none 0 0,.slice none 0 0,.int .i64 0] 211):=by
 go_in
 go_wp2_with fail;go_ret;exact⟨rfl,rfl⟩
theorem uj {w:World} {bw tx base:Nat} {inp:ByteArray} {r:Int} {vo vb:Value} {o:List UInt8} (h:XwB w bw tx inp r vo vb) (ho:w.ownsRow base 5 1 vo o.length (Lib.byteCells o)):
  Calls Tryz.prog 89 #[.pointer (some ⟨bw,0,none⟩)] w fun en w'=>en= .returned (.string ⟨o.toArray⟩)∧w'=w:=by
 have c3:=h.c3;have hl:=h.lt;have a0:=fa (l:=o) ho;obtain⟨ao,cap,rfl⟩:=aq ho;clear h ho
 go_in
 go_wp2_with fail;go_ret;exact⟨rfl,rfl⟩
theorem sd (e:Nat) (he:e=0∨(5≤e∧e≤10)) (w:World):
  Calls Tryz.prog 59 #[.int .i64 (bI e)] w fun en w'=>en= .returned (.int .i64 e)∧w'=w:=by
 have:e=0∨e=5∨e=6∨e=7∨e=8∨e=9∨e=10:=by omega
 rcases this with rfl|rfl|rfl|rfl|rfl|rfl|rfl
 ·rw[show bI _=0 from rfl]
  go_in
  go_wp2_with fail;go_ret;exact⟨rfl,rfl⟩
 ·rw[show bI _=1 from rfl]
  go_in
  go_wp2_with fail;go_ret;exact⟨rfl,rfl⟩
 ·rw[show bI _=2 from rfl]
  go_in
  go_wp2_with fail;go_ret;exact⟨rfl,rfl⟩
 ·rw[show bI _=3 from rfl]
  go_in
  go_wp2_with fail;go_ret;exact⟨rfl,rfl⟩
 ·rw[show bI _=4 from rfl]
  go_in
  go_wp2_with fail;go_ret;exact⟨rfl,rfl⟩
 ·rw[show bI _=5 from rfl]
  go_in
  go_wp2_with fail;go_ret;exact⟨rfl,rfl⟩
 ·rw[show bI _=6 from rfl]
  go_in
  go_wp2_with fail;go_ret;exact⟨rfl,rfl⟩
theorem vZ {w0 w w2:World} {be bw tx bl:Nat} {inp:ByteArray} {fu:Nat} {lv:Value} {l:List V} (hB0:But (fun _=>False) w0 w) (he:XeB w be tx bw fu) (hw:XwB w bw tx inp 0 (.slice none 0 0) (.slice none 0 0)) (hbe:w0.heap.size≤be) (hbw:w0.heap.size≤bw) (hB:But (fun _=>False) w w2) (hb:w2.heap[bl]?=some (.cells #[lv] 280)) (hr:w2.ownsRow w.heap.size 168 2 lv l.length (aE l)) (hbl:w.heap.size≤bl):
  StQ (fun _=>False) w0 w2 be bw tx inp ⟨[],0,fu,[]⟩ bl lv l (.slice none 0 0) (.slice none 0 0) [] []:=by
 have h0:=hB0.size;refine⟨hB0.trans hB,he.but hB (fun h=>h),?_,du _ _ _ _,du _ _ _ _,rfl,rfl,fun k o g v h=>by simp at h,fun j k g h=>by simp at h,hb,World.ownsRow.mono hr h0,fun k hk=>⟨?_,fun h=>h⟩,fun k h=>h.elim,fun v h=>by simp at h,fun j k v v' g h=>by simp at h⟩
 ·have:=hw.but hB (fun h=>h);simpa using this
 ·rcases hk with rfl|rfl|rfl|hk|hk|hk|hk| ⟨v,hv,hk⟩
  ·exact hbe
  ·exact hbw
  ·omega
  ·cases hk
  ·cases hk
  ·have:=aj hr k hk;omega
  ·simp at hk
  ·simp at hv
theorem AQ (inp:ByteArray) (fu:Nat) (hfu:fu≤4000) (im:Img) (hR:dF im):(lr im inp fu).2.2=0∨(5≤(lr im inp fu).2.2∧(lr im inp fu).2.2≤10):=by
 obtain⟨bs,mb,a0,a5,a4⟩:=hR.we.main;obtain⟨q,hq⟩: ∃q,im.bodies.length=q+1:=⟨bs.length,by rw[a0];simp⟩
 have a3:im.bodies[q]?=some mb:=by
  have h1:q=bs.length:=by rw[a0]at hq;simp at hq;omega
  rw[h1,a0];simp
 have a1:mb∈im.bodies:=List.mem_of_getElem? a3;rw[rE hq a3];have a2:=hR.ty mb a1;unfold dN at a2
 cases h:bS im.classes im.sigs mb.locals mb.code mb.code.length 0 with
 |none=>rw[h]at a2;cases a2
 |some t=>
  have HT:=ec hR inp fu 88000 mb 1 0 _ _ t _ a1 h (uf hR a1) (oG im hfu) (Nat.le_refl _)
  cases hn:bN im inp fu mb 1 0 (bP mb []) ⟨[],0,fu,[]⟩with
  |bad e o=>rw[hn]at HT;exact Or.inr ⟨HT.1,HT.2.1⟩
  |ok v l s=>exact Or.inl rfl
def evQ (r:List UInt8×Int×Nat):Ending:= .returned (.tuple #[.string ⟨r.1.toArray⟩,.int .i64 r.2.1,.int .i64 (bI r.2.2)])
theorem yu (w:World) (tx:Nat) (inp:ByteArray) (fu:Nat) (hfu:fu≤4000) (im:Img) (hT:eZ w tx im) (hR:dF im) (hDo: ∀be bw f,kL im inp w be bw tx f→DoC im inp w be bw tx f):
  Calls Tryz.prog 61 #[.pointer (some ⟨tx,0,none⟩),.string inp,.int .i64 fu] w fun en w'=>en=evQ (lr im inp fu)∧But (fun _=>False) w w':=by
 obtain⟨bs,mb,b0,e9,g3⟩:=hR.we.main;obtain⟨q,hq⟩: ∃q,im.bodies.length=q+1:=⟨bs.length,by rw[b0];simp⟩
 have b2:im.bodies[q]?=some mb:=by
  have h1:q=bs.length:=by rw[b0]at hq;simp at hq;omega
  rw[h1,b0];simp
 have b3:mb∈im.bodies:=List.mem_of_getElem? b2;have h4:=hR.wf.nb;obtain⟨RR,b4⟩: ∃RR,lr im inp fu=RR:=⟨_,rfl⟩;rw[b4];have b6:Hid (RR=match bN im inp fu mb 1 0 (bP mb []) ⟨[],0,fu,[]⟩with| .bad e o=>(o,0,e) | .ok v _ s=>(s.out,v.N,0)):=by show _=_;rw[←b4];exact rE hq b2
 have a3:=hR.ty mb b3
 obtain⟨t,f0,g6⟩: ∃t,bS im.classes im.sigs mb.locals mb.code mb.code.length 0=some t∧bv im.classes t 105=true:=by
  unfold dN at a3
  cases h:bS im.classes im.sigs mb.locals mb.code mb.code.length 0 with
  |none=>rw[h]at a3;cases a3
  |some t=>rw[h]at a3;simp only at a3;rw[if_pos (by rw[e9];omega)]at a3;exact⟨t,rfl,a3⟩
 obtain⟨xbs,⟨v2,t2,g0,lb,hO,hm,hf⟩,a0,g4⟩:=hT.bod;have b1:lb.length=q+1:=by rw[←hq,←a0,←hm];simp
 obtain⟨ao,capo,rfl⟩:=aq hO;rw[b1]at t2;have h5:=dj (q:Int) (by omega) (by omega);obtain⟨W,a8⟩: ∃W,(w.alloc (.cells #[.pointer (some ⟨tx,0,none⟩),.string inp,.int .i64 0,.slice none 0 0,.slice none 0 0,.int .i64 0] 211)).alloc (.cells #[.pointer (some ⟨tx,0,none⟩),.pointer (some ⟨w.heap.size,0,none⟩),.int .i64 fu] 164)=W:=⟨_,rfl⟩;have a6:But (fun _=>False) w W:=by rw[←a8];exact(But.alloc _ _ _).trans (But.alloc _ _ _)
 have g1:XwB W w.heap.size tx inp 0 (.slice none 0 0) (.slice none 0 0):=by rw[←a8];exact((But.alloc (fun _=>False) _ _).block _ (by simp) (fun h=>h)).trans (heap_alloc_new w _)
 have e7:XeB W (w.heap.size+1) tx w.heap.size fu:=by rw[←a8];exact CB (by simp) _
 have b5:=hid (nS e7 a6 im hT q 1 mb b2 (hR.wf.bod mb b3).loc.1 (by omega));rw[show((1:Nat):Int)=1 from rfl]at b5;have t2W:=a6.kc t2 g0;have g5:=Nat.lt_of_lt_of_le g0 a6.size;have f1:=hid a8;have g2:=hid (And.intro b0 (And.intro b2 (And.intro e9 b4)));clear a8 hm b1 a0 g4 hf hO hq b0 b2 e9 b4 a3 g3
 go_in
 go_wp2_with fail;refine(yt tx inp w).mono ?_;rintro en w1 ⟨rfl,rfl⟩;go_wp2_with fail;rw[f1.out];clear f1;refine b5.out.mono ?_;rintro en w2 ⟨d6,bl2,g7,X2,vl2,vi2,rfl,f2,e3,f4,f7,a4,a0,e6⟩;have e8:mb.locals.map d8=bP mb []:=by simp[bP]
 rw[e8,show mb.locals.length=(bP mb []).length from by rw[←e8];simp]at a4;have f8:=(vZ (w0:=w) a6 e7 g1 (by omega) (by omega) f2 f7 a4 a0).add e3;have f5:FrS (fun j=>False∨j=d6) w w2 im mb d6 1 X2 vl2 vi2 bl2:=⟨e3,Or.inr rfl,f4⟩;have e4:=uf hR b3;have e5:=oG im hfu;have c7:=hid (ec hR inp fu 88000 mb 1 0 _ _ t _ b3 f0 e4 e5 (Nat.le_refl _));have HC:=hid (yr w (w.heap.size+1) w.heap.size tx inp im hR (hDo _ _) fu mb 1 0 _ _ t _ 88000 _ w2 bl2 g7 _ _ _ _ d6 X2 vl2 vi2 b3 (by omega) f0 e4 e5 (Nat.le_refl _) f8 f5);rw[show((0:Nat):Int)=0 from rfl]at HC;clear b5 f8 f5 e4 e5 f0 e3 f4 f7 a4 a0 e6 e8 t2 t2W g1 e7 g2
 have e0:=a6.trans f2;go_wp2_with fail;refine HC.out.mono ?_;rintro en w3 ⟨f3,h7,h6,h3,h0,hq⟩;have a7:But (fun _=>False) w w3:=e0.next f3 (fun k hk hf=>by have:=hf.1;omega);have a5:=b6.out;have a2:=c7.out;clear HC f3
 cases hn:bN im inp fu mb 1 0 (bP mb []) ⟨[],0,fu,[]⟩with
 |bad e o=>
  rw[hn]at hq a5 a2;simp only at a5;subst a5;obtain⟨rfl,s3,l3,ho,a1⟩:=hq;obtain⟨e1,e2⟩:=fD a2.1 a2.2.1;have c1:=a1.ev.c1;have f6:=a1.ev.lt;have HO:=hid (fun ob=>uj (a1.new (But.alloc (fun _=>False) w3 ob)).wd (a1.new (But.alloc (fun _=>False) w3 ob)).out);rw[ho]at HO;have h1:=a2.1;have h2:=a2.2.1;clear a1 b6 c7 a2 hn;go_wp2_with fail;refine(HO.out _).mono ?_;rintro en w4 ⟨rfl,rfl⟩;go_wp2_with fail;exact bodyPost_ret (v:= .tuple #[.string ⟨o.toArray⟩,.int .i64 0,.int .i64 (bI e)]) (by simp[results,Tryz.results61,go_sem]) rfl ⟨rfl,a7.trans (But.alloc _ _ _)⟩
 |ok v l3 s3=>
  rw[hn]at hq a5 a2;simp only at a5;subst a5;obtain⟨rfl,a1⟩:=hq;obtain⟨y1,y2,y3,y4,y5⟩:=a2;obtain⟨m,rfl,m1,m2⟩:=(y1.sub hR.wf.cls hR.wf.nc y3.ht (t':=105) g6 (by decide)).int (by decide);have c1:=a1.ev.c1;have f6:=a1.ev.lt;have HO:=hid (fun ob n=>uj (a1.new ((But.alloc (fun _=>False) w3 ob).trans (But.drewN _ _ n))).wd (a1.new ((But.alloc (fun _=>False) w3 ob).trans (But.drewN _ _ n))).out);clear a1 b6 c7 y1 y2 y3 y4 y5 hn;simp only[bn,xN,xO,V.N];go_wp2_with fail;have q1: ∀ob,(w3.alloc ob).cell? ⟨w.heap.size+1,1,none⟩=some (.pointer (some ⟨w.heap.size,0,none⟩)):=fun ob=>((But.alloc (fun _=>False) w3 ob).cell (p:=⟨w.heap.size+1,1,none⟩) f6 (fun h=>h)).trans c1
  go_quiet (exact Calls.quiet_of_same (HO.out _ _))
  go_wp2_with fail;exact bodyPost_ret (v:= .tuple #[.string ⟨s3.out.toArray⟩,.int .i64 m,.int .i64 0]) (by simp[results,Tryz.results61,go_sem]) rfl ⟨rfl,(a7.trans (But.alloc _ _ _)).trans (But.drewN _ _ _)⟩
end
end Go.Proofs.YtpfkkmacakjmbaaGreatDoor
