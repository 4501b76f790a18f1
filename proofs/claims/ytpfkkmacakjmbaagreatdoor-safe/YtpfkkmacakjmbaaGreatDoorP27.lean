import Derived.Test.YtpfkkmacakjmbaaGreatDoorP26
import Derived.Test.YtpfkkmacakjmbaaGreatDoorP22
set_option maxRecDepth 100000
set_option maxHeartbeats 6400000
set_option linter.all false
namespace Go.Proofs.YtpfkkmacakjmbaaGreatDoor
open Proofs.Tryz
section
open Go Go.RowKit Sp
attribute [local go_sem ↓] dG dH
def FrB (w:World) (bf d:Nat) (X:bM) (vl vi:Value) (bl:Nat):Prop:=
 w.heap[bf]?=some (.cells #[.int .i64 d,.int .u8 X.cls.toNat,.int .i64 X.meth,.int .u8 X.ans.toNat,vl,vi,.pointer (some ⟨bl,0,none⟩)] 234)
theorem FrB.but {F:Nat->Prop} {w w':World} {bf d bl:Nat} {X:bM} {vl vi:Value} (h:FrB w bf d X vl vi bl) (hb:But F w w') (hf: ¬F bf):FrB w' bf d X vl vi bl:=(hb.block bf (ae h) hf).trans h
structure DE (w:World) (gs:List Sig) (b:Bod) (X:bM) (vl vi:Value):Prop where
 bt:BtB w 0 vl X.locals
 it:ItB w 0 vi X.items
 bd:BdN w 0 gs X b
section
variable {P:Nat->Prop} {w0 w w':World} {be bw tx bl:Nat} {inp:ByteArray} {s:Ev} {lv vo vb:Value} {l:List V} {gs:List Nat} {fv:List Value}
theorem qJ {fu:Int} (he:XeB w be tx bw fu) (h0:B_ w0 w) (im:Img) (hT:ii w0 tx im) (q d:Nat) (b:Bod) (hq:im.zq[q]?=some b) (hlo:b.locals.length<=5) (hnb:im.zq.length<=100):
  Calls prog 92 #[.pointer (some ⟨be,0,none⟩),.int .i64 q,.int .i64 d] w λen w'=> ∃(bf bl':Nat) (lv':Value) (X:bM) (vl vi:Value),en= .returned (.pointer (some ⟨bf,0,none⟩))/\B_ w w'/\FrB w' bf d X vl vi bl'/\DE w0 im.zj b X vl vi/\w'.heap[bl']?=some (.cells #[lv'] 280)/\w'.ownsRow w.heap.size 168 2 lv' b.locals.length (aJ (b.locals.map dc))/\w.heap.size<=bl'/\w.heap.size<=bf:=by
 obtain⟨bs,⟨v2,t2,b0,lb,hO,hm,hf⟩,a5,b5⟩:=hT.bod;have e1:=(bC hq).1;have a8:lb.length=im.zq.length:=by rw[<-a5,<-hm];simp
 obtain⟨⟨X,vl,vi⟩,hX⟩: ∃x,lb[q]?=some x:=⟨_,aH (by omega)⟩;have b4:bs[q]?=some X:=by rw[<-hm];simp[hX]
 have hB:=b5 q X b b4 hq;obtain⟨f1,f2⟩:=hf _ (bp hX);simp only at f1 f2;have b1:Hid (DE w0 im.zj b X vl vi):=⟨f1,f2,hB⟩;obtain⟨al,capl,rfl⟩:=aw f1;obtain⟨ai,capi,rfl⟩:=aw f2;obtain⟨ao,capo,rfl⟩:=aw hO;obtain⟨g,rfl,a2,e3,a0⟩:=aF hO (by omega);have q0:=a0 _ _ (ba (k:=0) hX (by omega));have q1:=a0 _ _ (ba (k:=1) hX (by omega));have q2:=a0 _ _ (ba (k:=2) hX (by omega));have q3:=a0 _ _ (ba (k:=3) hX (by omega));have q4:=a0 _ _ (ba (k:=4) hX (by omega));simp only[Nat.add_zero,List.getElem?_cons_zero,List.getElem?_cons_succ]at q0 q1 q2 q3 q4;have b9:X.locals.length=b.locals.length:=by rw[hB.loc]
 rw[b9]at b1;have b2:=hid (λY=>lY X.cls (X.meth:Int) X.ans X.locals al capl ai X.items.length capi Y (by omega));have c9:=hid hB.loc;have e0:=he.c0;have e2:=he.lt;have e4:(0:Int)<=(q:Int):=by omega
 have e5:(q:Int)<(lb.length:Int):=by omega
 replace q0:=(h0.cell a2 (λh=>h)).trans q0;replace q1:=(h0.cell a2 (λh=>h)).trans q1;replace q2:=(h0.cell a2 (λh=>h)).trans q2;replace q3:=(h0.cell a2 (λh=>h)).trans q3;replace q4:=(h0.cell a2 (λh=>h)).trans q4;replace t2:=(h0.cell b0 (λh=>h)).trans t2;replace a2:=bq a2 h0.size;replace b0:=bq b0 h0.size;clear a5 b5 a8 hX b4 hB f1 f2 a0 hf hO hm hq e1 hT he;generalize lb.length=nb at*
 go_in
 go_wp2_with fail;have a6:=aO w (.cells #[.int .u8 X.cls.toNat,.int .i64 X.meth,.int .u8 X.ans.toNat,.slice al b.locals.length capl,.slice ai X.items.length capi] 115);have a3:B_ w (w.alloc (.cells #[.int .u8 X.cls.toNat,.int .i64 X.meth,.int .u8 X.ans.toNat,.slice al b.locals.length capl,.slice ai X.items.length capi] 115)):=ag _ _ _;revert a6 a3;generalize (w.alloc (.cells #[.int .u8 X.cls.toNat,.int .i64 X.meth,.int .u8 X.ans.toNat,.slice al b.locals.length capl,.slice ai X.items.length capi] 115))=W;intro a6 a3;obtain⟨k0,k1,k2,k3,k4⟩:=bN a6;have gltW:=ae a6;clear q0 q1 q2 q3 q4 t2 e0 a6
 have b3:B_ W W.drew:=aD _ _;rw[b9]at b2;refine aI (B_ W) 6 ?_
 iterate 3 (refine aQ (v:=?_) rfl b3 ?_ ?_;rotate_left;(focus (intro wS h;have q0:=(h.kc k0 gltW);have q1:=(h.kc k1 gltW);have q2:=(h.kc k2 gltW);have q3:=(h.kc k3 gltW);have q4:=(h.kc k4 gltW);clear h;go_simp;try rfl));dsimp only[Act.put];try simp only[cH])
 refine az rfl ?_;intro KS hKS;go_simp;refine(b2.out _).mono ?_;rintro en w1 ⟨bl',lv',rfl,d6,b6,c7,a7⟩;have a1:=b3.trans d6;refine hKS.out _ _ (λ_=>a1) ?_;clear hKS KS;refine az rfl ?_;intro KS hKS;go_simp;refine hKS.out _ _ (λ_=>a1) ?_;clear hKS KS;refine az rfl ?_;intro KS hKS;go_simp;refine hKS.out _ _ (λ_=>a1.trans (ag _ _ _)) ?_;clear hKS KS;refine iC rfl ?_;go_wp2_with fail;go_ret;have a4:=a3.trans a1;refine⟨_,bl',lv',X,_,_,rfl,a4.trans (ag _ _ _),aO _ _,b1.out,((ag (λ_=>False) _ _).block bl' (ae b6) (λh=>h)).trans b6,?_,Nat.le_trans a3.size a7,a4.size⟩;rw[c9.out]at c7;exact dn (aj c7 (ag (λ_=>False) _ _) (λ_ _ h=>h)) a3.size
end
section
variable {P:Nat->Prop} {w0 w w':World} {bw tx:Nat} {inp:ByteArray} {s:Ev} {vo vb:Value} {gs:List Nat} {fv:List Value} {cn:Int} {sn:Nat->Int} {l:List V}
theorem dE.frameW (h:WdQ P w0 w bw tx inp s vo vb gs fv cn sn) (ht:dE w0 w w'):But (FrQ P w0) w w':=by
 refine⟨ht.bel.os,ht.bel.tape,ht.bel.output,ht.bel.size,λk hk hf=> ?_⟩
 by_cases h0:k<w0.heap.size
 .exact ht.bel.block k h0
 .have hp:P k:=Classical.byContradiction λhp=>hf ⟨by omega,hp⟩
  rw[ht.kept k _ (Array.getElem?_eq_getElem hk) (λc fz e=>(h.pl k hp).2 c fz (by rw[Array.getElem?_eq_getElem hk,e])),Array.getElem?_eq_getElem hk]
theorem WdQ.say {vo':Value} {o:L_} (h:WdQ P w0 w bw tx inp s vo vb gs fv cn sn) (ht:dE w0 w w') (hrow:w'.ownsRow w0.heap.size 5 1 vo' o.length (Lib.byteCells o)):
  WdQ P w0 (w'.setCell ⟨bw,3,none⟩ vo') bw tx inp {s with out:=o} vo' vb gs fv cn sn:=by
 have hS:But (· =bw) w' (w'.setCell ⟨bw,3,none⟩ vo'):=au _ _ _ _;have a0: ∀{k t:Nat} {c:Array Value} {fr:Nat×Nat},t≠5->w.heap[k]?=some (.cells c t fr)->w'.heap[k]?=some (.cells c t fr):=λh1 hk=>ht.kept _ _ hk (λc fz e=>by injection e with _ e2;exact h1 e2)
 have a2:XwC w' bw tx inp (min s.read inp.size:Nat) vo vb cn:=a0 (by decide) h.wd;have blk: ∀{k t:Nat} {c:Array Value} {fr:Nat×Nat},t≠5->t≠211->w.heap[k]?=some (.cells c t fr)->(w'.setCell ⟨bw,3,none⟩ vo').heap[k]?=some (.cells c t fr):=λh1 h2 hk=>(hS.block _ (ae (a0 h1 hk)) (cE hk h.wd (Ne.symm h2))).trans (a0 h1 hk)
 have row: ∀{v:Value} {t b n z:Nat} {xs:List Value},t≠5->t≠211->w.ownsRow b t z v n xs->(w'.setCell ⟨bw,3,none⟩ vo').ownsRow b t z v n xs:=λh1 h2 hr=>by
  refine⟨hr.1,?_⟩;obtain hr2| ⟨g,cap,cur,hv,hg,hh,r⟩:=hr.2
  .exact Or.inl hr2
  .exact Or.inr ⟨g,cap,cur,hv,hg,blk h1 h2 hh,r⟩
 have a1:B_ w0 w':=⟨ht.bel.os.trans h.old.os,ht.bel.tape.trans h.old.tape,ht.bel.output.trans h.old.output,Nat.le_trans h.old.size ht.bel.size,λk hk _=>(ht.bel.block k hk).trans (h.old.block k hk (λh=>h))⟩
 have a3: ∀g,vo'.ownBlock=some g-> ¬P g:=λg hg hp=>by
  obtain⟨cur,hc⟩:=fT hrow hg;obtain⟨a,b⟩:=h.pl g hp;have e1:=ht.kept g _ (Array.getElem?_eq_getElem a) (λc fz e=>b c fz (by rw[Array.getElem?_eq_getElem a,e]));rw[e1]at hc;exact b cur (0,0) (by rw[Array.getElem?_eq_getElem a];exact hc)
 refine⟨a1.next hS (λk hk e=>by have e:k=bw:=e;have:=h.k2.1;omega),a2.set3 vo',aj hrow hS (λg hg e=>aL hrow a2 (by decide) (e▸hg)),row (by decide) (by decide) h.ob,h.lg,h.lf,λk o g v a b c=>⟨blk (by decide) (by decide) (h.obs k o g v a b c).1,row (by decide) (by decide) (h.obs k o g v a b c).2⟩,h.nd,λk hk=> ?_,λk hk=> ?_,h.sf,h.se⟩
 .obtain rfl|hk|hk|hk| ⟨v,hv,hk⟩:=hk
  .exact h.k2
  .exact⟨ay hrow k hk,a3 k hk⟩
  .exact h.k5 hk
  .exact h.k7 hk
  .exact h.k8 hv hk
 .obtain⟨a,b⟩:=h.pl k hk;have e1:=ht.kept k _ (Array.getElem?_eq_getElem a) (λc fz e=>b c fz (by rw[Array.getElem?_eq_getElem a,e]));have e2:=hS.block k (ae e1) (λe=>h.k2.2 (e▸hk));refine⟨by rw[bI];exact ae e1,λc fz e=> ?_⟩;rw[e2,e1]at e;exact b c fz (by rw[Array.getElem?_eq_getElem a];exact e)
theorem uQ (h:WdQ P w0 w bw tx inp s vo vb gs fv cn sn) (ht:fj w0) (n:Int) (h1: -2147483648<=n) (h2:n<2147483648) (hol:s.out.length<=90000):
  Calls prog 233 #[.pointer (some ⟨bw,0,none⟩),.int .i32 n] w λen w'=>But (FrQ P w0) w w'/\en= .returned (.tuple #[])/\ ∃vo',WdQ P w0 w' bw tx inp (s.say n) vo' vb gs fv cn sn:=by
 have hT:Lib.TabBelow prog w0.heap.size w0 "internal/strconv.uint64pow10" .u64 Lib.pow10Tab:=Lib.tabBelow_of_tabIs ht;have b9:=hT.on (zl h.old);have HA:=hid (qG w0.heap.size s.out.length n h1 h2 vo _ w h.out h.old.size (by omega) b9);have c3:=h.wd.c3;have f4:=h.wd.lt;have HH:=hid h;obtain⟨ao,capo,rfl⟩:=aw h.out;clear h hT b9;have e7:=Lib.itoa_length_le n (by omega) (by omega);obtain⟨D,hD⟩: ∃D,Lib.itoa n=D:=⟨_,rfl⟩;rw[hD]at HA e7;have HD:=hid hD;clear hD
 go_in
 go_wp2_with fail;refine HA.out.mono ?_;rintro en w1 ⟨v',rfl,a2,b3,a0⟩;rw[<-Lib.byteCells_append,<-aZ]at a2;have b5:dE w0 w w1:=⟨b3,λk o hk hn=>a0 k o hk (by simp) hn⟩;have b4:=HH.out.say b5 a2;have b6:=dE.frameW HH.out b5;obtain⟨av,capv,rfl⟩:=aw a2;have a3:XwC w1 bw tx inp (min s.read inp.size:Nat) (.slice ao s.out.length capo) vb cn:=a0 _ _ HH.out.wd (by simp) (λc fz e=>by injection e with _ e2;exact absurd e2 (by decide));have e3:=a3.c3;have z3:=a3.fz 3;have m1:=a3.lt;obtain⟨m,hm⟩: ∃m,(s.out++D).length=m:=⟨_,rfl⟩;have f5:m<=95000:=by rw[<-hm];simp;omega
 have b0:=b4.out;simp only at b0;rw[hm]at b4 b0⊢;have HM:=hid hm;have e0:=b4.old.size;have c7:=HH.out.k2;have a8:=hid b4;clear HA b3 a0 a2 b5 a3 hm b4;have a1:(w1.setCell ⟨bw,3,none⟩ (.slice av m capv)).heap.size=w1.heap.size:=bI _ _ _;obtain⟨i0,e6,f0,f1,f2⟩:=info_parts Bh;go_wp2_with (at_builtin;refine wpList_append_lies _ rfl _ _ _ rfl w0.heap.size 5 i0 _ 1 1 (by kernel_rfl) e6 f0 f1 f2 rfl (by omega) _ m (Lib.byteCells (s.out++D)) rfl (aj b0 (ag (λ_=>False) _ _) (λ_ _ h=>h)) ⟨w1.heap.size,0,none⟩ 1 1 [.int .u8 32] rfl rfl (fX (cs:=#[.int .u8 32]) (t:=5) (fr:=(0,0)) (aB a1 _)) (by simp[Value.oneCell']) (by omega) (by unfold maxLen;omega) (by omega) (by simp;omega) (w1.heap.size+1) (by simp[a1]) ?_)
 intro gg b1 w2 a5 a4 e5 e8;have b2:But (λk=>(Value.slice av m capv).ownBlock=some k) (w1.setCell ⟨bw,3,none⟩ (.slice av m capv)) w2:=(ag _ _ _).trans (bc a4);have a7:dE w0 (w1.setCell ⟨bw,3,none⟩ (.slice av m capv)) w2:=dE.grown e0 b0 b2
 have a6:w2.ownsRow w0.heap.size 5 1 (.slice (some ⟨gg,0,none⟩) (m+1) b1) (s.out++D++ [32]).length (Lib.byteCells (s.out++D++ [32])):=by
  have e1:(s.out++D++ [32]).length=m+1:=by rw[aZ,HM.out];rfl
  rw[e1,Lib.byteCells_append];exact a5
 have e9:=a8.out.say a7 a6;have c9:=aL b0 a8.out.wd (by decide);have y3:=(b2.cell (p:=⟨bw,3,none⟩) (by rw[a1];exact m1) c9).trans a8.out.wd.c3;have y4:=(b2.frozen (p:=⟨bw,3,none⟩) (by rw[a1];exact m1) c9).trans (a8.out.wd.fz 3);have f3:bw<w2.heap.size:=bq (by rw[a1];exact m1) b2.size
 have e4:But (FrQ P w0) w (w2.setCell ⟨bw,3,none⟩ (.slice (some ⟨gg,0,none⟩) (m+1) b1)):=
  ((b6.trans (But.setCell w1 (a:=⟨bw,3,none⟩) (F:=FrQ P w0) c7 _)).trans (dE.frameW a8.out a7)).trans (But.setCell w2 (a:=⟨bw,3,none⟩) (F:=FrQ P w0) c7 _)
 have d6:Hid (s.say n={s with out:=s.out++D++ [32]}):=by show _=_;simp[Ev.say,HD.out]
 clear a7 a6 b2 a5 a4 e5 a8 b0 e3 z3 c3 HM HD b6;go_wp2_with fail;go_end0;exact⟨e4,rfl,_,by rw[d6.out];exact e9⟩
end
def ReW (P:Nat->Prop) (w0 w:World) (bw tx:Nat) (inp:ByteArray) (cn:Int) (r:R) (en:Ending) (w':World):Prop:=
 But (FrQ P w0) w w'/\ ∃vo vb gs fv sn,match r with
 | .ok u _ s=>en= .returned (.tuple #[bW u,.int .i64 0])/\WdQ P w0 w' bw tx inp s vo vb gs fv cn sn
 | .bad e o=>en= .returned (.tuple #[.agg #[.int .i32 0,.int .i64 0],.int .i64 (cD e)])/\ ∃s,s.out=o/\WdQ P w0 w' bw tx inp s vo vb gs fv cn sn
section
variable {P:Nat->Prop} {w0 w w':World} {bw tx:Nat} {inp:ByteArray} {s:Ev} {vo vb:Value} {gs:List Nat} {fv:List Value} {cn:Int} {sn:Nat->Int} {l:List V}
theorem WdQ.grown {X:World} (h:WdQ P w0 w bw tx inp s vo vb gs fv cn sn) (hN:NB w X):WdQ (PQ P w X) w0 X bw tx inp s vo vb gs fv cn sn:=h.grow hN.but hN.nb
theorem WdQ.fin {X X':World} {r:Nat} (hN:NB w X) (h0:w0.heap.size<=w.heap.size) (hs:WdQ (PQ P w X) w0 X' bw tx inp s vo vb gs fv cn sn) (hB:But (FrQ (PQ P w X) w0) X X') (hr:w.heap.size<=r) (hx:eK X r) (a b:Int):
  eK X' r/\But (FrQ P w0) w ((X'.setCell ⟨r,0,none⟩ (.int .i32 a)).setCell ⟨r,1,none⟩ (.int .i64 b))/\WdQ P w0 ((X'.setCell ⟨r,0,none⟩ (.int .i32 a)).setCell ⟨r,1,none⟩ (.int .i64 b)) bw tx inp s vo vb gs fv cn sn:=by
 have a0:r<X.heap.size:=by obtain⟨K,N,hx⟩:=hx;exact ae hx
 have a1:eK X' r:=hx.but hB (λhf=>hf.2 (Or.inr ⟨hr,a0⟩));refine⟨a1,?_,?_⟩
 .refine((hN.but.mono (λ_ _ h=>h.elim)).trans (hB.mono (λk hk hf=>⟨hf.1,λhp=>hf.2 (Or.inl hp)⟩))).next (jt _ _ _ _) (λk hk e=>by have e:k=r:=e;omega)
 .refine(hs.tmp (F:=(· =r)) (jt _ _ _ _) (λk e=>by have e:k=r:=e;subst e;exact⟨Or.inr ⟨hr,a0⟩,by omega⟩) (λk e c fz he=> ?_)).less (λk hp=>Or.inl hp);have e:k=r:=e;subst e;rw[a1.put]at he
  cases he
theorem WdQ.fin0 {X X':World} {r:Nat} (h:WdQ P w0 w bw tx inp s vo vb gs fv cn sn) (hN:NB w X) (hB:B_ X X') (hr:w.heap.size<=r) (hx:eK X r) (a b:Int):
  eK X' r/\But (FrQ P w0) w ((X'.setCell ⟨r,0,none⟩ (.int .i32 a)).setCell ⟨r,1,none⟩ (.int .i64 b))/\WdQ P w0 ((X'.setCell ⟨r,0,none⟩ (.int .i32 a)).setCell ⟨r,1,none⟩ (.int .i64 b)) bw tx inp s vo vb gs fv cn sn:=
 WdQ.fin hN h.old.size ((h.grown hN).new hB) (hB.mono (λ_ _ h=>h.elim)) hr hx a b
theorem C1 (h:WdQ P w0 w bw tx inp s vo vb gs fv cn sn) (u v:V) (pl n pn pc:Nat) (c:UInt8) (pa:Option Addr) (hn:n<100):
  Calls prog 197 #[.pointer (some ⟨bw,0,none⟩),.agg #[.int .i64 pl,.int .u8 107,.int .u8 c.toNat,.int .i64 n,.slice pa pn pc],bW u,bW v] w (ReW P w0 w bw tx inp cn (.ok (.i n) l s)):=by
 unfold bW
 go_in
 go_wp2_with fail;exact gC results197 rfl rfl rfl (aB (by simp) _) ⟨uP.but.mono (λ_ _ h=>h.elim),vo,vb,gs,fv,sn,rfl,h.new uP.but⟩
theorem C2 (h:WdQ P w0 w bw tx inp s vo vb gs fv cn sn) (ht:fj w0) (m:Int) (h1: -2147483648<=m) (h2:m<2147483648) (hol:s.out.length<=90000) (v:V) (pl n pn pc:Nat) (c:UInt8) (pa:Option Addr):
  Calls prog 197 #[.pointer (some ⟨bw,0,none⟩),.agg #[.int .i64 pl,.int .u8 119,.int .u8 c.toNat,.int .i64 n,.slice pa pn pc],bW (.i m),bW v] w (ReW P w0 w bw tx inp cn (.ok (.i 0) l (s.say m))):=by
 have HC:=hid (λX (hX:NB w X)=>uQ (h.grown hX) ht m h1 h2 hol);have h0:=h.old.size;clear h;unfold bW
 go_in
 go_wp2_with fail;refine(HC.out _ uP).mono ?_;rintro en w1 ⟨a0,rfl,a4,a2⟩;have HF:=hid (λa b=>WdQ.fin uP h0 a2 a0 (r:=w.heap.size+1+1+1) (by omega) ⟨0,0,aB (by simp) _⟩ a b);have a1:=(HF.out 0 0).1;obtain⟨K9,N9,r0,r1,f0,f1,a3⟩:=a1.parts;simp only[bW];clear HC a0 a2;go_wp2_with fail;exact gC results197 rfl rfl rfl (a1.put _ _) ⟨(HF.out _ _).2.1,_,_,_,_,_,rfl,(HF.out _ _).2.2⟩
theorem En (h:WdQ P w0 w bw tx inp s vo vb gs fv cn sn) (op:Nat) (hop:op=43\/op=45\/op=42\/op=60\/op=61\/op=47) (a b:Int) (a1: -2147483648<=a) (a2:a<2147483648) (b1: -2147483648<=b) (b2:b<2147483648) (pl n pn pc:Nat) (c:UInt8) (pa:Option Addr):
  Calls prog 197 #[.pointer (some ⟨bw,0,none⟩),.agg #[.int .i64 pl,.int .u8 op,.int .u8 c.toNat,.int .i64 n,.slice pa pn pc],bW (.i a),bW (.i b)] w (ReW P w0 w bw tx inp cn (eP op a b l s)):=by
 have HC:=hid (λX=>zi op hop a b a1 a2 b1 b2 X);have HG:=hid h
 obtain⟨K,e,hK,hR⟩: ∃(K e:Int),lX op a b= .tuple #[.agg #[.int .i32 K,.int .i64 0],.int .i64 e]/\((∃m,m=K/\e=0/\eP op a b l s= .ok (.i m) l s)\/(K=0/\e=cD 7/\eP op a b l s= .bad 7 s.out)):=by
  unfold lX eP
  by_cases h47:op=47
  .by_cases hb:b=0
   .subst h47 hb;exact⟨0,3,rfl,Or.inr ⟨rfl,rfl,rfl⟩⟩
   .simp only[h47,hb,and_false,if_true,if_false];exact⟨_,0,rfl,Or.inl ⟨_,rfl,rfl,rfl⟩⟩
  .simp only[h47,false_and,if_false];exact⟨_,0,rfl,Or.inl ⟨_,rfl,rfl,rfl⟩⟩
 rw[hK]at HC;obtain⟨R,a4⟩: ∃R,eP op a b l s=R:=⟨_,rfl⟩;rw[a4]at hR⊢;have HR:=hid hR;clear h hK hR a4;obtain rfl|rfl|rfl|rfl|rfl|rfl:=hop
 all_goals
  unfold bW
  go_in
  go_wp2_with fail;refine(HC.out _).mono ?_;rintro en w1 ⟨rfl,a3⟩;have HF:=hid (λa b=>HG.out.fin0 uP a3 (r:=w.heap.size+1+1+1) (by omega) ⟨0,0,aB (by simp) _⟩ a b);have a0:=(HF.out 0 0).1;obtain⟨K9,N9,r0,r1,f0,f1,a5⟩:=a0.parts;simp only[bW];clear HC a3;go_wp2_with fail;obtain⟨m,rfl,rfl,rfl⟩ | ⟨rfl,rfl,rfl⟩:=HR.out
  .exact gC results197 rfl rfl rfl (a0.put _ _) ⟨(HF.out _ _).2.1,_,_,_,_,_,rfl,(HF.out _ _).2.2⟩
  .exact gC results197 rfl rfl rfl (a0.put _ _) ⟨(HF.out _ _).2.1,_,_,_,_,_,rfl,s,rfl,(HF.out _ _).2.2⟩
end
theorem zm (tx:Nat) (inp:ByteArray) (w:World):
  Calls prog 86 #[.pointer (some ⟨tx,0,none⟩),.string inp] w λen w'=>en= .returned (.pointer (some ⟨w.heap.size,0,none⟩))/\w'=w.alloc (.cells #[.pointer (some ⟨tx,0,none⟩),.string inp,.int .i64 0,S_,S_,.int .i64 0] 211):=by
 go_in
 go_wp2_with fail;go_ret;exact⟨rfl,rfl⟩
theorem uR {w:World} {bw tx base:Nat} {inp:ByteArray} {r:Int} {vo vb:Value} {cn:Int} {o:L_} (h:XwC w bw tx inp r vo vb cn) (ho:w.ownsRow base 5 1 vo o.length (Lib.byteCells o)):
  Calls prog 89 #[.pointer (some ⟨bw,0,none⟩)] w λen w'=>en= .returned (.string ⟨o.toArray⟩)/\w'=w:=by
 have c3:=h.c3;have hl:=h.lt;have a0:=ij (l:=o) ho;obtain⟨ao,cap,rfl⟩:=aw ho;clear h ho
 go_in
 go_wp2_with fail;go_ret;exact⟨rfl,rfl⟩
theorem sM (e:Nat) (he:e=0\/(5<=e/\e<=10)) (w:World):
  Calls prog 59 #[.int .i64 (cD e)] w λen w'=>en= .returned (.int .i64 e)/\w'=w:=by
 have:e=0\/e=5\/e=6\/e=7\/e=8\/e=9\/e=10:=by omega
 obtain rfl|rfl|rfl|rfl|rfl|rfl|rfl:=this
 .rw[show cD _=0 from rfl]
  go_in
  go_wp2_with fail;go_ret;exact⟨rfl,rfl⟩
 .rw[show cD _=1 from rfl]
  go_in
  go_wp2_with fail;go_ret;exact⟨rfl,rfl⟩
 .rw[show cD _=2 from rfl]
  go_in
  go_wp2_with fail;go_ret;exact⟨rfl,rfl⟩
 .rw[show cD _=3 from rfl]
  go_in
  go_wp2_with fail;go_ret;exact⟨rfl,rfl⟩
 .rw[show cD _=4 from rfl]
  go_in
  go_wp2_with fail;go_ret;exact⟨rfl,rfl⟩
 .rw[show cD _=5 from rfl]
  go_in
  go_wp2_with fail;go_ret;exact⟨rfl,rfl⟩
 .rw[show cD _=6 from rfl]
  go_in
  go_wp2_with fail;go_ret;exact⟨rfl,rfl⟩
end
end Go.Proofs.YtpfkkmacakjmbaaGreatDoor
