import Derived.Test.YtpfkkmacakjmbaaGreatDoorP28
set_option maxRecDepth 100000
set_option maxHeartbeats 6400000
set_option linter.all false
namespace Go.Proofs.YtpfkkmacakjmbaaGreatDoor
open Proofs.Tryz
section
open Go Go.RowKit Sp
attribute [local go_sem ↓] dG dH
def lp (im:Img) (inp:ByteArray) (f:Nat) (b:Bod) (d:Nat) (ps:List Nat) (k:Nat) (l:List V) (s:Ev):R:=match ps[k]? with
 |some j=>cL im inp f b d j l s
 |none=> .ok .z l s
def doV (im:Img) (inp:ByteArray) (f d:Nat) (x:Ins) (u v:V) (l:List V) (s:Ev):R:=
 if aA x.op=0 then og im inp x l s else if aA x.op=1 then tj im x u l s else tk im (λb' l'=>cL im inp f b' (d+1) 0 l' s) d x u v l s
theorem kw {cs:List Cls} {gs:List Sig} {lo:L_} {t:List Ins} {F k:Nat} {c:UInt8} (h:cS cs gs lo t F k=some c):k<t.length:=by
 cases F with
 |zero=>cases h
 |succ F=>
  simp only[cS]at h
  cases hx:t[k]? with
  |none=>rw[hx]at h;cases h
  |some x=>exact(bC hx).1
theorem zp {cs:List Cls} {gs:List Sig} {lo:L_} {t:List Ins} {F:Nat}: ∀{n k:Nat} {ts:L_},cz t (cS cs gs lo t F) n k=some ts->
  ts.length=n/\(di t n k).length=n/\ ∀(q j:Nat),(di t n k)[q]?=some j-> ∃c,ts[q]?=some c/\cS cs gs lo t F j=some c:=by
 intro n
 induction n with
 |zero=>intro k ts h;simp[cz]at h;subst h;exact⟨rfl,rfl,λq j h=>by simp[di]at h⟩
 |succ n ih=>
  intro k ts h;rw[cz]at h
  cases hc:cS cs gs lo t F k with
  |none=>rw[hc]at h;cases h
  |some c=>
   rw[hc]at h;simp only[Option.map_eq_some_iff]at h;obtain⟨ts',h1,rfl⟩:=h;obtain⟨a1,a2,a3⟩:=ih h1;have hk:=kw hc;rw[di,if_pos hk];refine⟨by simp[a1],by simp[a2],λq j hq=> ?_⟩
   cases q with
   |zero=>simp at hq;subst hq;exact⟨c,rfl,hc⟩
   |succ q=>simp at hq;simpa using a3 q j hq
theorem Cy {t:List Ins} {i:Nat} {x:Ins} (h:t[i]?=some x):ek t i=di t (aA x.op) (i+1):=by simp[ek,h]
section
variable {im:Img} {inp:ByteArray} {f:Nat} {b:Bod} {d i:Nat} {l:List V} {s:Ev}
theorem Bj {x:Ins} {sl:Nat} (hx:b.code[i]?=some x) (hsl:s.left=sl+1) (h:x.op.toNat=111):cL im inp (f+1) b d i l s=iN (cL im inp f b d (i+1)) (cL im inp f b d (bO b.code (i+1))) f l {s with left:=sl}:=by
 have h1:aA x.op≠0:=by simp[aA,h]
 simp only[cL,hx,hsl,Nat.add_sub_cancel];rw[if_neg (by omega),if_neg h1,if_pos h]
theorem Bk {x:Ins} {sl:Nat} (hx:b.code[i]?=some x) (hsl:s.left=sl+1) (h:x.op.toNat=105):cL im inp (f+1) b d i l s=i9 (cL im inp f b d (i+1) l {s with left:=sl}) (λu l s=>cL im inp f b d (if u.N=0 then bO b.code (bO b.code (i+1))else bO b.code (i+1)) l s):=by
 have h1:aA x.op≠0:=by simp[aA,h]
 simp only[cL,hx,hsl,Nat.add_sub_cancel];rw[if_neg (by omega),if_neg h1,if_neg (by omega)]
 cases cL im inp f b d (i+1) l {s with left:=sl}with
 |bad e o=>rfl
 |ok u l s=>simp only[i9,h,if_true]
theorem Cz {x:Ins} {sl:Nat} (hx:b.code[i]?=some x) (hsl:s.left=sl+1) (h1:x.op.toNat≠111) (h2:x.op.toNat≠105) (hp:(di b.code (aA x.op) (i+1)).length=aA x.op):
  cL im inp (f+1) b d i l s=i9 (lp im inp f b d (di b.code (aA x.op) (i+1)) 0 l {s with left:=sl}) (λu l s=>i9 (lp im inp f b d (di b.code (aA x.op) (i+1)) 1 l s) (λv l s=>doV im inp f d x u v l s)):=by
 have a0:aA x.op=0\/aA x.op=1\/aA x.op=2:=by
  unfold aA;rw[if_neg h2]
  split
  .exact Or.inr (Or.inr rfl)
  .split
   .exact Or.inr (Or.inl rfl)
   .exact Or.inl rfl
 simp only[cL,hx,hsl,Nat.add_sub_cancel];rw[if_neg (by omega)];obtain a0|a0|a0:=a0
 .rw[if_pos a0,a0];simp[lp,di,i9,doV,a0]
 .rw[if_neg (by omega),if_neg h1]
  have e0:(di b.code (aA x.op) (i+1))=[i+1]:=by
   rw[a0]at hp⊢;rw[di]at hp⊢
   split at hp
   .rename_i hk;rw[if_pos hk];rfl
   .cases hp
  rw[e0];simp only[lp,List.getElem?_cons_zero,List.getElem?_cons_succ,List.getElem?_nil]
  cases cL im inp f b d (i+1) l {s with left:=sl}with
  |bad e o=>rfl
  |ok u l s=>simp[i9,h2,a0,doV]
 .rw[if_neg (by omega),if_neg h1]
  have e0:(di b.code (aA x.op) (i+1))=[i+1,bO b.code (i+1)]:=by
   rw[a0]at hp⊢;rw[di]at hp⊢
   split at hp
   .rename_i hk
    rw[if_pos hk];rw[di]at hp⊢
    split at hp
    .rename_i hk2;rw[if_pos hk2];rfl
    .simp at hp
   .cases hp
  rw[e0];simp only[lp,List.getElem?_cons_zero,List.getElem?_cons_succ]
  cases cL im inp f b d (i+1) l {s with left:=sl}with
  |bad e o=>rfl
  |ok u l s=>
   simp only[i9,h2,a0,if_false];rw[if_neg (by omega)]
   cases cL im inp f b d (bO b.code (i+1)) l s with
   |bad e o=>rfl
   |ok v l s=>simp[doV,a0]
def Eq (im:Img) (B:Nat) (lo:L_) (ts:L_) (k:Nat) (s0:Ev):R->Prop
 | .bad e o=>5<=e/\e<=10
 | .ok u l s=>LT im.zz s.heap lo l/\StT im B s/\Ext s0.heap s.heap/\s.left<=s0.left/\ ∀t,ts[k]?=some t->VT im.zz s.heap t u
theorem oD {F B:Nat} {ps:List Nat} {ts:L_} (hR:eT im) (hbm:b∈im.zq) (hlen:ps.length=ts.length) (hpt: ∀(q j:Nat),ps[q]?=some j-> ∃c,ts[q]?=some c/\cS im.zz im.zj b.locals b.code F j=some c) (k:Nat) (hll:LT im.zz s.heap b.locals l) (hs:StT im B s) (hsf:s.left<=f):Eq im B b.locals ts k s (lp im inp f b d ps k l s):=by
 unfold lp
 cases hk:ps[k]? with
 |none=>
  refine⟨hll,hs,Ext.refl _,b8 _,λt ht=> ?_⟩;have:=(bC ht).1;rw[List.getElem?_eq_none_iff]at hk;omega
 |some j=>
  obtain⟨c,hc,a0⟩:=hpt k j hk;have HT:=fJ hR inp f B b d j l s c F hbm a0 hll hs hsf;simp only
  cases hn:cL im inp f b d j l s with
  |bad e o=>rw[hn]at HT;exact⟨HT.1,HT.2.1⟩
  |ok u l1 s1=>
   rw[hn]at HT;obtain⟨y1,y2,y3,y4,y5⟩:=HT;exact⟨y2,y3,y4,by omega,λt ht=>by rw[hc]at ht;cases ht;exact y1⟩
end
section
variable {P:Nat->Prop} {w0 w:World} {be bw tx bl:Nat} {inp:ByteArray} {s:Ev} {lv vo vb:Value} {l:List V} {gs:List Nat} {fv:List Value} {im:Img} {b:Bod} {bf d:Nat} {Xb:bM} {vl vi:Value}
theorem uX {f B F:Nat} {ps:List Nat} {ts:L_} (IH:nw im inp w0 be bw tx f) (h:StQ P w0 w be bw tx inp s bl lv l vo vb gs fv) (hF:FrS P w0 w im b bf d Xb vl vi bl) (hbm:b∈im.zq) (hs:StT im B s) (hsf:s.left<=f) (hd:d<=12) (hll:LT im.zz s.heap b.locals l) (hps:ps.length<=3) (hpt: ∀(q j:Nat),ps[q]?=some j-> ∃c,ts[q]?=some c/\cS im.zz im.zj b.locals b.code F j=some c) (k:Nat) (hk3:k<=3) (pl op n pn pc:Nat) (c:UInt8) (pa:Option Addr) (hrow:w0.ownsRow 0 3 1 (.slice pa pn pc) ps.length (eJ ps)):
  Calls prog 155 #[.pointer (some ⟨be,0,none⟩),.pointer (some ⟨bf,0,none⟩),.agg #[.int .i64 pl,.int .u8 op,.int .u8 c.toNat,.int .i64 n,.slice pa pn pc],.int .i64 k] w (ReV P w0 w be bw tx inp bl lv (lp im inp f b d ps k l s)):=by
 unfold lp
 cases hk:ps[k]? with
 |none=>
  obtain⟨a',cap',a0⟩:=aw hrow;injection a0 with e1 e2 e3;rw[List.getElem?_eq_none_iff]at hk;exact zo h pl op n pn pc k c pa (by omega) hk3
 |some j=>
  obtain⟨c',hc,a1⟩:=hpt k j hk;exact kv IH h hF hbm hs hsf hd hll ps hps k j hk a1 pl op n pn pc c pa hrow
def DoC (im:Img) (inp:ByteArray) (w0:World) (be bw tx f:Nat):Prop:=
 ∀(P:Nat->Prop) (w:World) (s:Ev) (bl:Nat) (lv:Value) (l:List V) (vo vb:Value) (gs:List Nat) (fv:List Value) (b:Bod) (bf d:Nat) (Xb:bM) (vl vi:Value) (B:Nat) (ts:L_) (tt:UInt8),StQ P w0 w be bw tx inp s bl lv l vo vb gs fv->FrS P w0 w im b bf d Xb vl vi bl->b∈im.zq->StT im B s->s.left<=f->d<=12->
  ∀x∈b.code,LT im.zz s.heap b.locals l->x.op.toNat≠111->x.op.toNat≠105->ts.length=aA x.op-> ∀u v:V,(∀t,ts[0]?=some t->VT im.zz s.heap t u)->(∀t,ts[1]?=some t->VT im.zz s.heap t v)->bT im.zz im.zj b.locals x ts=some tt-> ∀(pl pn pc:Nat) (pa:Option Addr),
  Calls prog 156 #[.pointer (some ⟨be,0,none⟩),.pointer (some ⟨bf,0,none⟩),itN x pa pl pn pc,bW u,bW v] w (ReV P w0 w be bw tx inp bl lv (doV im inp f d x u v l s))
end
theorem ReV.less {P Q:Nat->Prop} {w0 w w1:World} {be bw tx bl:Nat} {inp:ByteArray} {lv:Value} {r:R} {en:Ending} (h:ReV Q w0 w be bw tx inp bl lv r en w1) (hs: ∀k,P k->Q k):ReV P w0 w be bw tx inp bl lv r en w1:=by
 obtain⟨hB,vo,vb,gs,fv,h⟩:=h;refine⟨hB.mono (λk _ hf=>⟨hf.1,λhp=>hf.2 (hs k hp)⟩),vo,vb,gs,fv,?_⟩
 cases r with
 |ok u l s=>exact⟨h.1,h.2.less hs⟩
 |bad e o=>obtain⟨a,s,l,b,c⟩:=h;exact⟨a,s,l,b,c.less hs⟩
theorem Fa {t:List Ins} {k:Nat} (h1:k<t.length) (h2:bO t k<t.length) (h3:bO t (bO t k)<t.length):di t 3 k=[k,bO t k,bO t (bO t k)]:=by
 simp[di,h1,h2,h3]
theorem Fb {t:List Ins} {k:Nat} (h1:k<t.length) (h2:bO t k<t.length):di t 2 k=[k,bO t k]:=by
 simp[di,h1,h2]
theorem xC {x:Ins} {k:Nat} (h:x.op.toNat≠k) (h1:k≠107) (h2:58<=k):(bY x).op.toNat≠k:=by
 cases hd:cd x.op with
 |true=>rw[(uT hd).1];omega
 |false=>
  rw[(ny (x:=x) (by simp[cd]at hd;omega)).1];exact h
section
variable {P:Nat->Prop} {w0 w:World} {be bw tx bl:Nat} {inp:ByteArray} {s:Ev} {lv vo vb:Value} {l:List V} {gs:List Nat} {fv:List Value} {im:Img} {b:Bod} {bf d i:Nat} {Xb:bM} {vl vi:Value}
theorem qe (h:StQ P w0 w be bw tx inp s bl lv l vo vb gs fv) (h0:s.left=0):
  Calls prog 93 #[.pointer (some ⟨be,0,none⟩),.pointer (some ⟨bf,0,none⟩),.int .i64 i] w (ReV P w0 w be bw tx inp bl lv (.bad 5 s.out)):=by
 have e2:=h.ev.c2;have a1:=h.ev.lt;rw[h0]at e2;have a0:w.cell? ⟨be,2,none⟩=some (.int .i64 0):=e2;have HH:=hid h;clear e2 h h0
 go_in
 go_wp2_with fail;exact gC results93 rfl rfl rfl (aO _ _) ⟨ag _ _ _,vo,vb,gs,fv,rfl,s,l,rfl,HH.out.new (ag _ _ _)⟩
end
theorem zt {f:Nat} (w0:World) (be bw tx:Nat) (inp:ByteArray) (im:Img) (hR:eT im) (hDo:DoC im inp w0 be bw tx f) (IH:nw im inp w0 be bw tx f):nw im inp w0 be bw tx (f+1):=by
 intro b d i l s t F B P w bl lv vo vb gs fv bf X vl vi e3 hd a7 j2 hs s2 h hF
 by_cases h0:s.left=0
 .rw[iJ h0];exact qe h h0
 have hW:=hR.wf;have p3:=kw a7
 cases F with
 |zero=>cases a7
 |succ F=>
 simp only[cS]at a7;obtain⟨x,hx⟩: ∃x,b.code[i]?=some x:=⟨_,aH p3⟩;rw[hx]at a7;simp only at a7;have o0:=hW.bod b e3;have o1:x∈b.code:=bp hx;have s3:=o0.code x o1
 cases hp:cz b.code (cS im.zz im.zj b.locals b.code F) (aA x.op) (i+1)with
 |none=>rw[hp]at a7;cases a7
 |some ts=>
 rw[hp]at a7;simp only at a7;obtain⟨n1,j3,m3⟩:=zp hp;obtain⟨sl,b5⟩: ∃sl,s.left=sl+1:=⟨s.left-1,by omega⟩;have j5:StT im (B-22) {s with left:=sl}:=⟨hs.ht,by have:=hs.cap;simp;omega,by have:=hs.outn;simp;omega,by have:=hs.bb;omega,by have:=hs.rd;simp;omega⟩;have c7:sl<=f:=by omega
 --the item
 have s0:X.items.length=b.code.length:=hF.bd.bd.its.len;obtain⟨xi,n2⟩: ∃xi,X.items[i]?=some xi:=⟨_,aH (by omega)⟩;obtain⟨z1,z2,z3,z4,b0⟩:=hF.bd.bd.its.at' i x xi hx n2;rw[Cy hx]at b0;obtain⟨ps,b3⟩: ∃ps,di b.code (aA x.op) (i+1)=ps:=⟨_,rfl⟩;have f2:=j3;rw[b3]at j3 m3 b0;obtain⟨RR,b2⟩: ∃RR,cL im inp (f+1) b d i l s=RR:=⟨_,rfl⟩;rw[b2];have p0:aA x.op<=3:=by unfold aA;split;omega;split;omega;split<;>omega
 have q9:=o0.len
 --the fuel
 have l0:But (FrQ P w0) w (w.setCell ⟨be,2,none⟩ (.int .i64 sl)):=(au w be 2 _).mono (λk _ e=>by have e:k=be:=e;subst e;exact h.k1);have hf:=h.fuel sl;have n6:=hF.but l0;have e2:=h.ev.c2;have y2:=h.ev.fz 2;rw[b5]at e2;have o4:w.cell? ⟨be,2,none⟩=some (.int .i64 ((sl:Int)+1)):=by rw[e2];simp
 have r2:=h.ev.lt;have q1: ¬((sl:Int)+1<=0):=by omega
 have r3:be<w.heap.size+1:=by omega
 have q0:sl<=4000:=by have:=hs.cap;omega
 obtain⟨a0,a1,a2,a3,a4,a5,a6,q8⟩:=hF.cells;have p5: ¬be=bf:=λe=>h.k1.2 (e▸hF.pf)
 have p6: ¬bf=be:=λe=>p5 e.symm
 have p1:bf<w.heap.size+1:=by omega
 have n3:=hid (λ(Y:World) (hY:B_ w0 Y)=>qc X.cls X.meth X.ans vl vi X.items i xi Y (aj hF.bd.it hY (λ_ _ h=>h)) n2 (by omega));have q7:=h.old.size;have HX:=hid (And.intro hx (And.intro b5 (And.intro a7 (And.intro b3 b2))));have HZ:=hid (And.intro z1 (And.intro z2 (And.intro z3 z4)));have b9:=hid m3;have HP:=hid hp;have o3:=hid hx;have Hf:=hid hf;have b4:=hid n6;have e8:=hid l0;clear e2 hx b5 a7 b3 b2 m3 hf n6 l0 hp h hF n2 z1 z2 z3 z4 h0 o1
 go_in
 go_wp2_with fail;have e7:NB (w.setCell ⟨be,2,none⟩ (.int .i64 sl)) ((w.setCell ⟨be,2,none⟩ (.int .i64 sl)).alloc (.cells #[.int .i32 0,.int .i64 0] 168)):=(NB.refl _).alloc (by decide);have f7:eK ((w.setCell ⟨be,2,none⟩ (.int .i64 sl)).alloc (.cells #[.int .i32 0,.int .i64 0] 168)) w.heap.size:=⟨0,0,aB (by simp[bI]) _⟩;have n9:(w.setCell ⟨be,2,none⟩ (.int .i64 sl)).heap.size=w.heap.size:=bI _ _ _;revert Hf b4 e8 e7 f7 n9;generalize (w.setCell ⟨be,2,none⟩ (.int .i64 sl))=wf;intro Hf b4 e8 e7 f7 n9;revert e7 f7;generalize (wf.alloc (.cells #[.int .i32 0,.int .i64 0] 168))=wa;intro e7 f7;refine(n3.out wa (Hf.out.old.trans e7.but)).mono ?_
 rintro en w2 ⟨rfl,h2⟩;obtain⟨z1,z2,z3,z4⟩:=HZ.out
 have h1:NB wf w2:=⟨e7.but.trans h2.but,λk a b c fz e=>by
  obtain hk|hk:=Nat.lt_or_ge k wa.heap.size
  .rw[h2.but.block k hk (λh=>h)]at e;exact e7.nb k a hk c fz e
  .exact h2.nb k hk b c fz e⟩
 have j1:eK w2 w.heap.size:=f7.but h2.but (λh=>h);unfold dF;rw[z1,z2,z3,z4];clear n3 HZ z1 z2 z3 z4 e7 h2 f7 wa a0 a1 a2 a3 a4 a5 a6 o4 y2;generalize h8:(bY x).op.toNat=op;generalize p2:(bY x).cls=cc;generalize p8:(bY x).num=nn;generalize s1:(bY x).place=pp;obtain⟨hx,b5,a7,b3,b2⟩:=HX.out;have c9: ∀c,NB wf (w2.alloc (.cells c 219)):=λc=>h1.alloc (by decide)
 by_cases h105:x.op.toNat=105
 .have m2:((op:Int)==105)=true:=tst (by rw[<-h8,(ny (x:=x) (by omega)).1,h105]);have m0:aA x.op=3:=by simp[aA,h105]
  rw[Bk hx b5 h105]at b2;have hp:=HP.out;rw[m0]at hp b3;obtain⟨t0,t1,t2,g0,g1,g2,rfl⟩:=sp hp;simp[bT,dJ,cj,Sp.arith,h105]at a7;rw[Fa (kw g0) (kw g1) (kw g2)]at b3;subst b3;have HC:=hid (λc=>wH hR IH (Hf.out.grown (c9 c)) (b4.out.grown (c9 c)) e3 j5 c7 hd j2 _ _ _ g0 a7.1.1 g1 g2 pp op nn xi.pn xi.pc cc xi.pa b0);rw[b2]at HC;clear HX hx b5 a7 b2 HP hp g0 g1 g2 n1 j3 f2 b9 Hf b4 b0;go_wp2_with fail;refine(HC.out _).mono ?_;intro en w4 e6;obtain⟨K,N,e,rfl,a8⟩:=ReV.pass (c9 _) (by omega) e6;obtain⟨e5,e4⟩:=a8 w.heap.size (by omega) (j1.but (ag (λ_=>False) _ _) (λh=>h));obtain⟨K9,N9,r0,r1,f0,f1,j4⟩:=e5.parts
  have HF:=hid (e4.since e8.out);clear e4 a8 e6 HC;go_wp2_with fail;exact gC results93 rfl rfl rfl (e5.put _ _) HF.out
 have m2:((op:Int)==105)=false:=tsf (k:=105) (by rw[<-h8];exact xC h105 (by omega) (by omega))
 by_cases h111:x.op.toNat=111
 .have m1:((op:Int)==111)=true:=tst (by rw[<-h8,(ny (x:=x) (by omega)).1,h111]);have m0:aA x.op=2:=by simp[aA,h111]
  rw[Bj hx b5 h111]at b2;have hp:=HP.out;rw[m0]at hp b3;obtain⟨t0,t1,g0,g1,rfl⟩:=mZ hp;simp[bT,dJ,cj,Sp.arith,h111]at a7;rw[Fb (kw g0) (kw g1)]at b3;subst b3;have HC:=hid (λc=>wI hR IH (Hf.out.grown (c9 c)) (b4.out.grown (c9 c)) e3 j5 c7 hd j2 _ _ g0 a7.1 g1 pp op nn xi.pn xi.pc cc xi.pa b0);rw[b2]at HC;clear HX hx b5 a7 b2 HP hp g0 g1 n1 j3 f2 b9 Hf b4 b0;go_wp2_with fail;refine(HC.out _).mono ?_;intro en w4 e6;obtain⟨K,N,e,rfl,a8⟩:=ReV.pass (c9 _) (by omega) e6;obtain⟨e5,e4⟩:=a8 w.heap.size (by omega) (j1.but (ag (λ_=>False) _ _) (λh=>h));obtain⟨K9,N9,r0,r1,f0,f1,j4⟩:=e5.parts;have HF:=hid (e4.since e8.out)
  clear e4 a8 e6 HC;go_wp2_with fail;exact gC results93 rfl rfl rfl (e5.put _ _) HF.out
 have m1:((op:Int)==111)=false:=tsf (k:=111) (by rw[<-h8];exact xC h111 (by omega) (by omega));rw[Cz hx b5 h111 h105 f2,b3]at b2;have h9:ps.length<=3:=by omega
 have n7:ps.length=ts.length:=by omega
 have k3:=hid b2;have j0:=hid a7;have q2:=h1.but.size;have g7:=aO w2 (.cells #[.int .i64 pp,.int .u8 op,.int .u8 cc.toNat,.int .i64 nn,.slice xi.pa xi.pn xi.pc] 219);have h4:(w2.alloc (.cells #[.int .i64 pp,.int .u8 op,.int .u8 cc.toNat,.int .i64 nn,.slice xi.pa xi.pn xi.pc] 219)).heap.size=w2.heap.size+1:=by simp
 have e9:=c9 #[.int .i64 pp,.int .u8 op,.int .u8 cc.toNat,.int .i64 nn,.slice xi.pa xi.pn xi.pc];have f6:=j1.but (ag (λ_=>False) w2 (.cells #[.int .i64 pp,.int .u8 op,.int .u8 cc.toNat,.int .i64 nn,.slice xi.pa xi.pn xi.pc] 219)) (λh=>h);have o2:=hid (λ(X:World) (hX:X=w2.alloc (.cells #[.int .i64 pp,.int .u8 op,.int .u8 cc.toNat,.int .i64 nn,.slice xi.pa xi.pn xi.pc] 219))=>hX);clear HX hx b5 a7 b3 b2 HP c9 o2 j1;go_wp2_with fail;revert g7 h4 e9 f6;generalize (w2.alloc (.cells #[.int .i64 pp,.int .u8 op,.int .u8 cc.toNat,.int .i64 nn,.slice xi.pa xi.pn xi.pc] 219))=W3;intro g7 h4 e9 f6
 have h3:=Hf.out.grown e9;have g6:=b4.out.grown e9;obtain⟨P3,e0⟩: ∃P3:Nat->Prop,PQ P wf W3=P3:=⟨_,rfl⟩;have pI:P3 w2.heap.size:=by rw[<-e0];exact Or.inr ⟨by omega,by omega⟩
 have pR:P3 w.heap.size:=by rw[<-e0];exact Or.inr ⟨by omega,by omega⟩
 have pF:=g6.pf;rw[e0]at h3 g6 pF;have j7:=hid (uX (s:={s with left:=sl}) IH h3 g6 e3 j5 c7 hd j2 h9 b9.out 0 (by omega) pp op nn xi.pn xi.pc cc xi.pa b0);have k9:=hid (oD (inp:=inp) (d:=d) (s:={s with left:=sl}) hR e3 n7 b9.out 0 j2 j5 c7);rw[show((0:Nat):Int)=0 from rfl]at j7;refine j7.out.mono ?_;rintro en w4 ⟨g4,t3,s5,q5,q3,hq⟩;have o5:=g6.but g4;have d0:=(g4.block _ (ae g7) (λhf=>hf.2 pI)).trans g7;have p4:=ae d0;have m4:=f6.but g4 (λhf=>hf.2 pR);have b1:=k9.out;have f3:=k3.out;clear j7 g6 h3
 cases hn:lp im inp f b d ps 0 l {s with left:=sl}with
 |bad e o=>
  rw[hn]at hq b1 f3;obtain⟨rfl,s4,l4,ho,i5⟩:=hq;subst f3;obtain⟨e1,e2⟩:=iK b1.1 b1.2;have HF:=hid (λa b=>StQ.fin e9 (by omega) (e0▸i5) (e0▸g4) (r:=w.heap.size) (by omega) f6 a b);obtain⟨K9,N9,r0,r1,z0,z1,j4⟩:=m4.parts;have m5:w.heap.size<w4.heap.size+1:=by omega
  clear k9 k3 b1 hn d0 i5 g7 j0 b9 Hf b4;go_wp2_with fail;exact gC results93 rfl rfl rfl (Bi m4) ⟨e8.out.trans ((HF.out _ _).2.1.trans (ag _ _ _)),_,_,_,_,rfl,s4,l4,ho,(HF.out _ _).2.2.new (ag _ _ _)⟩
 |ok u l4 s4=>
  rw[hn]at hq b1 f3;obtain⟨rfl,i5⟩:=hq;obtain⟨y1,y2,y3,y4,y5⟩:=b1;simp only at y3 y4;simp only[i9]at f3;have n4:=hid f3;have i0:=ce0 d0;have i1:=ce1 d0;have i2:=ce2 d0;have i3:=ce3 d0;have i4:=ce4 d0;have h5:=i5.grown1 (c:=#[.int .i32 (xN u),.int .i64 (xO u)]) (t:=168) (by decide);have h6:(w4.alloc (.cells #[.int .i32 (xN u),.int .i64 (xO u)] 168)).heap.size=w4.heap.size+1:=by simp
  have f5:B_ w4 (w4.alloc (.cells #[.int .i32 (xN u),.int .i64 (xO u)] 168)):=ag _ _ _;have h7:=aO w4 (.cells #[.int .i32 (xN u),.int .i64 (xO u)] 168);clear f3 k9 k3 hn;simp only[bW];go_wp2_with fail;revert h5 h6 f5 h7;generalize (w4.alloc (.cells #[.int .i32 (xN u),.int .i64 (xO u)] 168))=W5;intro h5 h6 f5 h7;clear i0 i1 i2 i3 i4;obtain⟨P5,l5⟩: ∃P5:Nat->Prop,PQ P3 w4 W5=P5:=⟨_,rfl⟩;have f8: ∀k,P3 k->P5 k:=λk hk=>by rw[<-l5];exact Or.inl hk
  have pU:P5 w4.heap.size:=by rw[<-l5];exact Or.inr ⟨by omega,by omega⟩
  rw[l5]at h5;have l3:FrS P5 w0 W5 im b bf d X vl vi bl:=(o5.but (f5.mono (λ_ _ h=>h.elim))).mono (f8 _ pF);have i7:s4.left<=f:=by omega
  have k0:=hid (uX IH h5 l3 e3 y2 i7 hd y1 h9 b9.out 1 (by omega) pp op nn xi.pn xi.pc cc xi.pa b0);have n5:=hid (oD (inp:=inp) (d:=d) hR e3 n7 b9.out 1 y1 y2 i7);rw[show((1:Nat):Int)=1 from rfl]at k0;refine k0.out.mono ?_;rintro en w6 ⟨g5,t4,s9,q6,q4,hq⟩;have o6:=l3.but g5;have d5:=(f5.block _ p4 (λh=>h)).trans d0;have d6:=(g5.block _ (ae d5) (λhf=>hf.2 (f8 _ pI))).trans d5;have b6:=(g5.block _ (ae h7) (λhf=>hf.2 pU)).trans h7;have r4:=ae d6;have r5:=ae b6;have n8:=(m4.but f5 (λh=>h)).but g5 (λhf=>hf.2 (f8 _ pR));have g3:But (FrQ P3 w0) W3 w6:=(g4.trans (f5.mono (λ_ _ h=>h.elim))).trans (g5.mono (λk _ hf=>⟨hf.1,λhp=>hf.2 (f8 k hp)⟩))
  have b1:=n5.out;have f4:=n4.out;clear k0 n4 n5 h5 l3 d5 d0 h7 i5
  cases hn:lp im inp f b d ps 1 l4 s4 with
  |bad e o=>
   rw[hn]at hq b1 f4;obtain⟨rfl,s6,l6,ho,i6⟩:=hq;subst f4;obtain⟨e1,e2⟩:=iK b1.1 b1.2;have HF:=hid (λa b=>StQ.fin e9 (by omega) (e0▸i6.less f8) (e0▸g3) (r:=w.heap.size) (by omega) f6 a b);obtain⟨K9,N9,r0,r1,z0,z1,j4⟩:=n8.parts;have m5:w.heap.size<w6.heap.size+1:=by omega
   clear b1 hn i6 j0 b9 Hf b4 d6 b6 y5;go_wp2_with fail;exact gC results93 rfl rfl rfl (Bi n8) ⟨e8.out.trans ((HF.out _ _).2.1.trans (ag _ _ _)),_,_,_,_,rfl,s6,l6,ho,(HF.out _ _).2.2.new (ag _ _ _)⟩
  |ok v l6 s6=>
   rw[hn]at hq b1 f4;obtain⟨rfl,i6⟩:=hq;obtain⟨x1,x2,x3,x4,x5⟩:=b1;simp only[i9]at f4;have n0:s6.left<=f:=by omega
   have HD:=hid (λob=>hDo _ _ _ _ _ _ _ _ _ _ _ _ _ _ _ _ _ _ _ (i6.new (ag (λ_=>False) w6 ob)) (o6.but (ag _ w6 ob)) e3 x2 n0 hd x (bp o3.out) x1 h111 h105 n1 u v (λt ht=>(y5 t ht).ext x3) x5 j0.out pp xi.pn xi.pc xi.pa);unfold itN at HD;rw[h8,p2,p8,f4]at HD;have i0:=ce0 d6;have i1:=ce1 d6;have i2:=ce2 d6;have i3:=ce3 d6;have i4:=ce4 d6;have u0:=ce0 b6;have u1:=ce1 b6;have r6:w2.heap.size<w6.heap.size+1:=by omega
   have r8:w4.heap.size<w6.heap.size+1:=by omega
   clear f4 hn i6 j0 b9 Hf b4 d6 b6 y5 x5;simp only[bW]at HD⊢;go_wp2_with fail;refine(HD.out _).mono ?_;intro en w8 e6;obtain⟨K,N,e,rfl,a8⟩:=ReV.pass e9 (by omega) (e0▸(e6.less f8).since (g3.trans (ag _ _ _)));obtain⟨e5,e4⟩:=a8 w.heap.size (by omega) f6;obtain⟨K9,N9,r0,r1,f0,f1,j4⟩:=e5.parts;have HF:=hid (e4.since e8.out);clear e4 a8 e6 HD i0 i1 i2 i3 i4 u0 u1;go_wp2_with fail;exact gC results93 rfl rfl rfl (e5.put _ _) HF.out
theorem Bl (w0:World) (be bw tx:Nat) (inp:ByteArray) (im:Img) (hR:eT im) (hDo: ∀f,nw im inp w0 be bw tx f->DoC im inp w0 be bw tx f): ∀f,nw im inp w0 be bw tx f:=by
 intro f
 induction f with
 |zero=>
  intro b d i l s t F B P w bl lv vo vb gs fv bf X vl vi a0 hd a3 a1 hs a2 h hF;rw[iJ (by omega)];exact qe h (by omega)
 |succ f ih=>exact zt w0 be bw tx inp im hR (hDo f ih) ih
theorem Bm (tx:Nat) (inp:ByteArray) (w:World):
  Calls prog 86 #[.pointer (some ⟨tx,0,none⟩),.string inp] w λen w'=>en= .returned (.pointer (some ⟨w.heap.size,0,none⟩))/\w'=w.alloc (.cells #[.pointer (some ⟨tx,0,none⟩),.string inp,.int .i64 0,S_,S_,.int .i64 0] 211):=by
 go_in
 go_wp2_with fail;go_ret;exact⟨rfl,rfl⟩
theorem xD {w:World} {bw tx base:Nat} {inp:ByteArray} {r:Int} {vo vb:Value} {o:L_} (h:XwB w bw tx inp r vo vb) (ho:w.ownsRow base 5 1 vo o.length (Lib.byteCells o)):
  Calls prog 89 #[.pointer (some ⟨bw,0,none⟩)] w λen w'=>en= .returned (.string ⟨o.toArray⟩)/\w'=w:=by
 have c3:=h.c3;have hl:=h.lt;have a0:=ij (l:=o) ho;obtain⟨ao,cap,rfl⟩:=aw ho;clear h ho
 go_in
 go_wp2_with fail;go_ret;exact⟨rfl,rfl⟩
theorem uY (e:Nat) (he:e=0\/(5<=e/\e<=10)) (w:World):
  Calls prog 59 #[.int .i64 (cD e)] w λen w'=>en= .returned (.int .i64 e)/\w'=w:=by
 have:e=0\/e=5\/e=6\/e=7\/e=8\/e=9\/e=10:=by omega
 obtain rfl|rfl|rfl|rfl|rfl|rfl|rfl:=this
 .rw[show cD _=0 from rfl]
  go_in
  go_wp2_with fail;go_ret;exact⟨rfl,rfl⟩
 .rw[show cD _=1 from rfl]
  go_in
  go_wp2_with fail;go_ret;exact⟨rfl,rfl⟩
 .rw[show cD _=2 from rfl]
  go_in
  go_wp2_with fail;go_ret;exact⟨rfl,rfl⟩
 .rw[show cD _=3 from rfl]
  go_in
  go_wp2_with fail;go_ret;exact⟨rfl,rfl⟩
 .rw[show cD _=4 from rfl]
  go_in
  go_wp2_with fail;go_ret;exact⟨rfl,rfl⟩
 .rw[show cD _=5 from rfl]
  go_in
  go_wp2_with fail;go_ret;exact⟨rfl,rfl⟩
 .rw[show cD _=6 from rfl]
  go_in
  go_wp2_with fail;go_ret;exact⟨rfl,rfl⟩
theorem zu {w0 w w2:World} {be bw tx bl:Nat} {inp:ByteArray} {fu:Nat} {lv:Value} {l:List V} (hB0:B_ w0 w) (he:XeB w be tx bw fu) (hw:XwB w bw tx inp 0 S_ S_) (hbe:w0.heap.size<=be) (hbw:w0.heap.size<=bw) (hB:B_ w w2) (hb:w2.heap[bl]?=some (.cells #[lv] 280)) (hr:w2.ownsRow w.heap.size 168 2 lv l.length (aJ l)) (hbl:w.heap.size<=bl):
  StQ (λ_=>False) w0 w2 be bw tx inp ⟨[],0,fu,[]⟩ bl lv l S_ S_ [] []:=by
 have h0:=hB0.size;refine⟨hB0.trans hB,he.but hB (λh=>h),?_,df _ _ _ _,df _ _ _ _,rfl,rfl,λk o g v h=>by simp at h,λj k g h=>by simp at h,hb,dn hr h0,λk hk=>⟨?_,λh=>h⟩,λk h=>h.elim,λv h=>by simp at h,λj k v v' g h=>by simp at h⟩
 .have:=hw.but hB (λh=>h);simpa using this
 .obtain rfl|rfl|rfl|hk|hk|hk|hk| ⟨v,hv,hk⟩:=hk
  .exact hbe
  .exact hbw
  .omega
  .cases hk
  .cases hk
  .have:=ay hr k hk;omega
  .simp at hk
  .simp at hv
theorem D2 (inp:ByteArray) (fu:Nat) (hfu:fu<=4000) (im:Img) (hR:eT im):(oh im inp fu).2.2=0\/(5<=(oh im inp fu).2.2/\(oh im inp fu).2.2<=10):=by
 obtain⟨bs,mb,a0,a5,a4⟩:=hR.we.main;obtain⟨q,hq⟩: ∃q,im.zq.length=q+1:=⟨bs.length,by rw[a0];simp⟩
 have a3:im.zq[q]?=some mb:=by
  have h1:q=bs.length:=by rw[a0]at hq;simp at hq;omega
  rw[h1,a0];simp
 have a1:mb∈im.zq:=bp a3;rw[uu hq a3];have a2:=hR.ty mb a1;unfold fe at a2
 cases h:cS im.zz im.zj mb.locals mb.code mb.code.length 0 with
 |none=>rw[h]at a2;cases a2
 |some t=>
  have HT:=fJ hR inp fu 88000 mb 1 0 _ _ t _ a1 h (xy hR a1) (rj im hfu) (b8 _)
  cases hn:cL im inp fu mb 1 0 (bn mb []) ⟨[],0,fu,[]⟩with
  |bad e o=>rw[hn]at HT;exact Or.inr ⟨HT.1,HT.2.1⟩
  |ok v l s=>exact Or.inl rfl
def evQ (r:L_×Int×Nat):Ending:= .returned (.tuple #[.string ⟨r.1.toArray⟩,.int .i64 r.2.1,.int .i64 (cD r.2.2)])
theorem Bn (w:World) (tx:Nat) (inp:ByteArray) (fu:Nat) (hfu:fu<=4000) (im:Img) (hT:ii w tx im) (hR:eT im) (hDo: ∀be bw f,nw im inp w be bw tx f->DoC im inp w be bw tx f):
  Calls prog 61 #[.pointer (some ⟨tx,0,none⟩),.string inp,.int .i64 fu] w λen w'=>en=evQ (oh im inp fu)/\B_ w w':=by
 obtain⟨bs,mb,b0,e7,g1⟩:=hR.we.main;obtain⟨q,hq⟩: ∃q,im.zq.length=q+1:=⟨bs.length,by rw[b0];simp⟩
 have b2:im.zq[q]?=some mb:=by
  have h1:q=bs.length:=by rw[b0]at hq;simp at hq;omega
  rw[h1,b0];simp
 have b3:mb∈im.zq:=bp b2;have h0:=hR.wf.nb;obtain⟨RR,b4⟩: ∃RR,oh im inp fu=RR:=⟨_,rfl⟩;rw[b4];have b6:Hid (RR=match cL im inp fu mb 1 0 (bn mb []) ⟨[],0,fu,[]⟩with| .bad e o=>(o,0,e) | .ok v _ s=>(s.out,v.N,0)):=by show _=_;rw[<-b4];exact uu hq b2
 have a3:=hR.ty mb b3
 obtain⟨t,e8,g4⟩: ∃t,cS im.zz im.zj mb.locals mb.code mb.code.length 0=some t/\cy im.zz t 105=true:=by
  unfold fe at a3
  cases h:cS im.zz im.zj mb.locals mb.code mb.code.length 0 with
  |none=>rw[h]at a3;cases a3
  |some t=>rw[h]at a3;simp only at a3;rw[if_pos (by rw[e7];omega)]at a3;exact⟨t,rfl,a3⟩
 obtain⟨xbs,⟨v2,t2,f7,lb,hO,hm,hf⟩,a0,g2⟩:=hT.bod;have b1:lb.length=q+1:=by rw[<-hq,<-a0,<-hm];simp
 obtain⟨ao,capo,rfl⟩:=aw hO;rw[b1]at t2;have h3:=er (q:Int) (by omega) (by omega);obtain⟨W,a8⟩: ∃W,(w.alloc (.cells #[.pointer (some ⟨tx,0,none⟩),.string inp,.int .i64 0,S_,S_,.int .i64 0] 211)).alloc (.cells #[.pointer (some ⟨tx,0,none⟩),.pointer (some ⟨w.heap.size,0,none⟩),.int .i64 fu] 164)=W:=⟨_,rfl⟩;have a6:B_ w W:=by rw[<-a8];exact(ag _ _ _).trans (ag _ _ _)
 have f8:XwB W w.heap.size tx inp 0 S_ S_:=by rw[<-a8];exact((ag (λ_=>False) _ _).block _ (by simp) (λh=>h)).trans (aO w _)
 have e5:XeB W (w.heap.size+1) tx w.heap.size fu:=by rw[<-a8];exact aB (by simp) _
 have b5:=hid (qJ e5 a6 im hT q 1 mb b2 (hR.wf.bod mb b3).loc.1 (by omega));rw[show((1:Nat):Int)=1 from rfl]at b5;have t2W:=a6.kc t2 f7;have g3:=bq f7 a6.size;have e9:=hid a8;have g0:=hid (And.intro b0 (And.intro b2 (And.intro e7 b4)));clear a8 hm b1 a0 g2 hf hO hq b0 b2 e7 b4 a3 g1
 go_in
 go_wp2_with fail;refine(Bm tx inp w).mono ?_;rintro en w1 ⟨rfl,rfl⟩;go_wp2_with fail;rw[e9.out];clear e9;refine b5.out.mono ?_;rintro en w2 ⟨c7,bl2,g5,X2,vl2,vi2,rfl,f0,d6,f2,f5,a4,a0,e4⟩;have e6:mb.locals.map dc=bn mb []:=by simp[bn]
 rw[e6,show mb.locals.length=(bn mb []).length from by rw[<-e6];simp]at a4;have f6:=(zu (w0:=w) a6 e5 f8 (by omega) (by omega) f0 f5 a4 a0).add d6;have f3:FrS (λj=>False\/j=c7) w w2 im mb c7 1 X2 vl2 vi2 bl2:=⟨d6,Or.inr rfl,f2⟩;have e0:=xy hR b3;have e3:=rj im hfu;have b9:=hid (fJ hR inp fu 88000 mb 1 0 _ _ t _ b3 e8 e0 e3 (b8 _));have HC:=hid (Bl w (w.heap.size+1) w.heap.size tx inp im hR (hDo _ _) fu mb 1 0 _ _ t _ 88000 _ w2 bl2 g5 _ _ _ _ c7 X2 vl2 vi2 b3 (by omega) e8 e0 e3 (b8 _) f6 f3);rw[show((0:Nat):Int)=0 from rfl]at HC;clear b5 f6 f3 e0 e3 e8 d6 f2 f5 a4 a0 e4 e6 t2 t2W f8 e5 g0;have c9:=a6.trans f0
 go_wp2_with fail;refine HC.out.mono ?_;rintro en w3 ⟨f1,h5,h4,g7,g6,hq⟩;have a7:B_ w w3:=c9.next f1 (λk hk hf=>by have:=hf.1;omega);have a5:=b6.out;have a2:=b9.out;clear HC f1
 cases hn:cL im inp fu mb 1 0 (bn mb []) ⟨[],0,fu,[]⟩with
 |bad e o=>
  rw[hn]at hq a5 a2;simp only at a5;subst a5;obtain⟨rfl,s3,l3,ho,a1⟩:=hq;obtain⟨e1,e2⟩:=iK a2.1 a2.2.1;have c1:=a1.ev.c1;have f4:=a1.ev.lt;have HO:=hid (λob=>xD (a1.new (ag (λ_=>False) w3 ob)).wd (a1.new (ag (λ_=>False) w3 ob)).out);rw[ho]at HO;have h1:=a2.1;have h2:=a2.2.1;clear a1 b6 b9 a2 hn;go_wp2_with fail;refine(HO.out _).mono ?_;rintro en w4 ⟨rfl,rfl⟩;go_wp2_with fail;exact cW (v:= .tuple #[.string ⟨o.toArray⟩,.int .i64 0,.int .i64 (cD e)]) (by simp[results,results61,go_sem]) rfl ⟨rfl,a7.trans (ag _ _ _)⟩
 |ok v l3 s3=>
  rw[hn]at hq a5 a2;simp only at a5;subst a5;obtain⟨rfl,a1⟩:=hq;obtain⟨y1,y2,y3,y4,y5⟩:=a2;obtain⟨m,rfl,m1,m2⟩:=(y1.sub hR.wf.cls hR.wf.nc y3.ht (t':=105) g4 (by decide)).int (by decide);have c1:=a1.ev.c1;have f4:=a1.ev.lt;have HO:=hid (λob n=>xD (a1.new ((ag (λ_=>False) w3 ob).trans (aK _ _ n))).wd (a1.new ((ag (λ_=>False) w3 ob).trans (aK _ _ n))).out);clear a1 b6 b9 y1 y2 y3 y4 y5 hn;simp only[bW,xN,xO,V.N];go_wp2_with fail;have q1: ∀ob,(w3.alloc ob).cell? ⟨w.heap.size+1,1,none⟩=some (.pointer (some ⟨w.heap.size,0,none⟩)):=λob=>((ag (λ_=>False) w3 ob).cell (p:=⟨w.heap.size+1,1,none⟩) f4 (λh=>h)).trans c1
  go_quiet (exact Calls.quiet_of_same (HO.out _ _))
  go_wp2_with fail;exact cW (v:= .tuple #[.string ⟨s3.out.toArray⟩,.int .i64 m,.int .i64 0]) (by simp[results,results61,go_sem]) rfl ⟨rfl,(a7.trans (ag _ _ _)).trans (aK _ _ _)⟩
end
end Go.Proofs.YtpfkkmacakjmbaaGreatDoor
