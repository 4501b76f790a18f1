import Derived.Test.YtpfkkmacakjmbaaGreatDoorP33
import Derived.Test.YtpfkkmacakjmbaaGreatDoorP29
set_option maxRecDepth 100000
set_option maxHeartbeats 6400000
set_option linter.unusedSimpArgs false
set_option linter.unusedVariables false
namespace Go.Proofs.YtpfkkmacakjmbaaGreatDoor
section
open Go Go.RowKit Sp
attribute [local go_sem ↓] Go.wp_at_zero Go.wp_at_succ
section
variable {P:Nat→Prop} {w0 w w':World} {bw tx:Nat} {inp:ByteArray} {s:Ev} {vo vb:Value} {gs:List Nat} {fv:List Value} {cn:Int} {sn:Nat→Int} {l:List V}
theorem cH.frameW (h:WdQ P w0 w bw tx inp s vo vb gs fv cn sn) (ht:cH w0 w w'):But (FrQ P w0) w w':=by
 refine⟨ht.bel.os,ht.bel.tape,ht.bel.output,ht.bel.size,fun k hk hf=> ?_⟩
 by_cases h0:k<w0.heap.size
 ·exact ht.bel.block k h0
 ·have hp:P k:=Classical.byContradiction fun hp=>hf ⟨by omega,hp⟩
  rw[ht.kept k _ (Array.getElem?_eq_getElem hk) (fun c fz e=>(h.pl k hp).2 c fz (by rw[Array.getElem?_eq_getElem hk,e])),Array.getElem?_eq_getElem hk]
theorem WdQ.say {vo':Value} {o:List UInt8} (h:WdQ P w0 w bw tx inp s vo vb gs fv cn sn) (ht:cH w0 w w') (hrow:w'.ownsRow w0.heap.size 5 1 vo' o.length (Lib.byteCells o)):
  WdQ P w0 (w'.setCell ⟨bw,3,none⟩ vo') bw tx inp {s with out:=o} vo' vb gs fv cn sn:=by
 have hS:But (· =bw) w' (w'.setCell ⟨bw,3,none⟩ vo'):=But.setB _ _ _ _;have a0: ∀{k t:Nat} {c:Array Value} {fr:Nat×Nat},t≠5→w.heap[k]?=some (.cells c t fr)→w'.heap[k]?=some (.cells c t fr):=fun h1 hk=>ht.kept _ _ hk (fun c fz e=>by injection e with _ e2;exact h1 e2)
 have a2:XwC w' bw tx inp (min s.read inp.size:Nat) vo vb cn:=a0 (by decide) h.wd;have blk: ∀{k t:Nat} {c:Array Value} {fr:Nat×Nat},t≠5→t≠211→w.heap[k]?=some (.cells c t fr)→(w'.setCell ⟨bw,3,none⟩ vo').heap[k]?=some (.cells c t fr):=fun h1 h2 hk=>(hS.block _ (ae (a0 h1 hk)) (bO hk h.wd (Ne.symm h2))).trans (a0 h1 hk)
 have row: ∀{v:Value} {t b n z:Nat} {xs:List Value},t≠5→t≠211→w.ownsRow b t z v n xs→(w'.setCell ⟨bw,3,none⟩ vo').ownsRow b t z v n xs:=fun h1 h2 hr=>by
  refine⟨hr.1,?_⟩;rcases hr.2 with a4| ⟨g,cap,cur,hv,hg,hh,r⟩
  ·exact Or.inl a4
  ·exact Or.inr ⟨g,cap,cur,hv,hg,blk h1 h2 hh,r⟩
 have a1:But (fun _=>False) w0 w':=⟨ht.bel.os.trans h.old.os,ht.bel.tape.trans h.old.tape,ht.bel.output.trans h.old.output,Nat.le_trans h.old.size ht.bel.size,fun k hk _=>(ht.bel.block k hk).trans (h.old.block k hk (fun h=>h))⟩
 have a3: ∀g,vo'.ownBlock=some g→ ¬P g:=fun g hg hp=>by
  obtain⟨cur,hc⟩:=ek hrow hg;obtain⟨a,b⟩:=h.pl g hp;have e1:=ht.kept g _ (Array.getElem?_eq_getElem a) (fun c fz e=>b c fz (by rw[Array.getElem?_eq_getElem a,e]));rw[e1]at hc;exact b cur (0,0) (by rw[Array.getElem?_eq_getElem a];exact hc)
 refine⟨a1.next hS (fun k hk e=>by have e:k=bw:=e;have:=h.k2.1;omega),a2.set3 vo',ah hrow hS (fun g hg e=>aN hrow a2 (by decide) (e▸hg)),row (by decide) (by decide) h.ob,h.lg,h.lf,fun k o g v a b c=>⟨blk (by decide) (by decide) (h.obs k o g v a b c).1,row (by decide) (by decide) (h.obs k o g v a b c).2⟩,h.nd,fun k hk=> ?_,fun k hk=> ?_,h.sf,h.se⟩
 ·rcases hk with rfl|hk|hk|hk| ⟨v,hv,hk⟩
  ·exact h.k2
  ·exact⟨aj hrow k hk,a3 k hk⟩
  ·exact h.k5 hk
  ·exact h.k7 hk
  ·exact h.k8 hv hk
 ·obtain⟨a,b⟩:=h.pl k hk;have e1:=ht.kept k _ (Array.getElem?_eq_getElem a) (fun c fz e=>b c fz (by rw[Array.getElem?_eq_getElem a,e]));have e2:=hS.block k (ae e1) (fun e=>h.k2.2 (e▸hk));refine⟨by rw[br];exact ae e1,fun c fz e=> ?_⟩;rw[e2,e1]at e;exact b c fz (by rw[Array.getElem?_eq_getElem a];exact e)
theorem rX (h:WdQ P w0 w bw tx inp s vo vb gs fv cn sn) (ht:eP w0) (n:Int) (h1: -2147483648≤n) (h2:n<2147483648) (hol:s.out.length≤90000):
  Calls Tryz.prog 233 #[.pointer (some ⟨bw,0,none⟩),.int .i32 n] w fun en w'=>But (FrQ P w0) w w'∧en= .returned (.tuple #[])∧ ∃vo',WdQ P w0 w' bw tx inp (s.say n) vo' vb gs fv cn sn:=by
 have hT:Lib.TabBelow Tryz.prog w0.heap.size w0 "internal/strconv.uint64pow10" .u64 Lib.pow10Tab:=Lib.tabBelow_of_tabIs ht;have c7:=hT.on (vS h.old);have HA:=hid (nP w0.heap.size s.out.length n h1 h2 vo _ w h.out h.old.size (by omega) c7);have c3:=h.wd.c3;have f6:=h.wd.lt;have HH:=hid h;obtain⟨ao,capo,rfl⟩:=aq h.out;clear h hT c7;have e9:=Lib.itoa_length_le n (by omega) (by omega);obtain⟨D,hD⟩: ∃D,Lib.itoa n=D:=⟨_,rfl⟩;rw[hD]at HA e9;have HD:=hid hD;clear hD
 go_in
 go_wp2_with fail;refine HA.out.mono ?_;rintro en w1 ⟨v',rfl,a2,b3,a0⟩;rw[←Lib.byteCells_append,←List.length_append]at a2;have b5:cH w0 w w1:=⟨b3,fun k o hk hn=>a0 k o hk (by simp) hn⟩;have b4:=HH.out.say b5 a2;have b6:=cH.frameW HH.out b5;obtain⟨av,capv,rfl⟩:=aq a2;have a3:XwC w1 bw tx inp (min s.read inp.size:Nat) (.slice ao s.out.length capo) vb cn:=a0 _ _ HH.out.wd (by simp) (fun c fz e=>by injection e with _ e2;exact absurd e2 (by decide));have e3:=a3.c3;have z3:=a3.fz 3;have m1:=a3.lt;obtain⟨m,hm⟩: ∃m,(s.out++D).length=m:=⟨_,rfl⟩;have f7:m≤95000:=by rw[←hm];simp;omega
 have b0:=b4.out;simp only at b0;rw[hm]at b4 b0⊢;have HM:=hid hm;have e5:=b4.old.size;have d6:=HH.out.k2;have a8:=hid b4;clear HA b3 a0 a2 b5 a3 hm b4;have a1:(w1.setCell ⟨bw,3,none⟩ (.slice av m capv)).heap.size=w1.heap.size:=br _ _ _;obtain⟨i0,e8,f2,f3,f4⟩:=info_parts yn;go_wp2_with (at_builtin;refine wpList_append_lies _ rfl _ _ _ rfl w0.heap.size 5 i0 _ 1 1 (by kernel_rfl) e8 f2 f3 f4 rfl (by omega) _ m (Lib.byteCells (s.out++D)) rfl (ah b0 (But.alloc (fun _=>False) _ _) (fun _ _ h=>h)) ⟨w1.heap.size,0,none⟩ 1 1 [.int .u8 32] rfl rfl (World.news_of_block (cs:=#[.int .u8 32]) (t:=5) (fr:=(0,0)) (CB a1 _)) (by simp[Value.oneCell']) (by omega) (by unfold maxLen;omega) (by omega) (by simp;omega) (w1.heap.size+1) (by simp[a1]) ?_)
 intro gg b1 w2 a5 a4 e7 f0;have b2:But (fun k=>(Value.slice av m capv).ownBlock=some k) (w1.setCell ⟨bw,3,none⟩ (.slice av m capv)) w2:=(But.alloc _ _ _).trans (aX a4);have a7:cH w0 (w1.setCell ⟨bw,3,none⟩ (.slice av m capv)) w2:=cH.grown e5 b0 b2
 have a6:w2.ownsRow w0.heap.size 5 1 (.slice (some ⟨gg,0,none⟩) (m+1) b1) (s.out++D++ [32]).length (Lib.byteCells (s.out++D++ [32])):=by
  have e1:(s.out++D++ [32]).length=m+1:=by rw[List.length_append,HM.out];rfl
  rw[e1,Lib.byteCells_append];exact a5
 have f1:=a8.out.say a7 a6;have e0:=aN b0 a8.out.wd (by decide);have y3:=(b2.cell (p:=⟨bw,3,none⟩) (by rw[a1];exact m1) e0).trans a8.out.wd.c3;have y4:=(b2.frozen (p:=⟨bw,3,none⟩) (by rw[a1];exact m1) e0).trans (a8.out.wd.fz 3);have f5:bw<w2.heap.size:=Nat.lt_of_lt_of_le (by rw[a1];exact m1) b2.size
 have e6:But (FrQ P w0) w (w2.setCell ⟨bw,3,none⟩ (.slice (some ⟨gg,0,none⟩) (m+1) b1)):=
  ((b6.trans (But.setCell w1 (a:=⟨bw,3,none⟩) (F:=FrQ P w0) d6 _)).trans (cH.frameW a8.out a7)).trans (But.setCell w2 (a:=⟨bw,3,none⟩) (F:=FrQ P w0) d6 _)
 have e4:Hid (s.say n={s with out:=s.out++D++ [32]}):=by show _=_;simp[Ev.say,HD.out]
 clear a7 a6 b2 a5 a4 e7 a8 b0 e3 z3 c3 HM HD b6;go_wp2_with fail;go_end0;exact⟨e6,rfl,_,by rw[e4.out];exact f1⟩
end
def ReW (P:Nat→Prop) (w0 w:World) (bw tx:Nat) (inp:ByteArray) (cn:Int) (r:R) (en:Ending) (w':World):Prop:=
 But (FrQ P w0) w w'∧ ∃vo vb gs fv sn,match r with
 | .ok u _ s=>en= .returned (.tuple #[bn u,.int .i64 0])∧WdQ P w0 w' bw tx inp s vo vb gs fv cn sn
 | .bad e o=>en= .returned (.tuple #[.agg #[.int .i32 0,.int .i64 0],.int .i64 (bI e)])∧ ∃s,s.out=o∧WdQ P w0 w' bw tx inp s vo vb gs fv cn sn
section
variable {P:Nat→Prop} {w0 w w':World} {bw tx:Nat} {inp:ByteArray} {s:Ev} {vo vb:Value} {gs:List Nat} {fv:List Value} {cn:Int} {sn:Nat→Int} {l:List V}
theorem WdQ.grown {X:World} (h:WdQ P w0 w bw tx inp s vo vb gs fv cn sn) (hN:NB w X):WdQ (PQ P w X) w0 X bw tx inp s vo vb gs fv cn sn:=h.grow hN.but hN.nb
theorem WdQ.fin {X X':World} {r:Nat} (hN:NB w X) (h0:w0.heap.size≤w.heap.size) (hs:WdQ (PQ P w X) w0 X' bw tx inp s vo vb gs fv cn sn) (hB:But (FrQ (PQ P w X) w0) X X') (hr:w.heap.size≤r) (hx:dz X r) (a b:Int):
  dz X' r∧But (FrQ P w0) w ((X'.setCell ⟨r,0,none⟩ (.int .i32 a)).setCell ⟨r,1,none⟩ (.int .i64 b))∧WdQ P w0 ((X'.setCell ⟨r,0,none⟩ (.int .i32 a)).setCell ⟨r,1,none⟩ (.int .i64 b)) bw tx inp s vo vb gs fv cn sn:=by
 have a0:r<X.heap.size:=by obtain⟨K,N,hx⟩:=hx;exact ae hx
 have a1:dz X' r:=hx.but hB (fun hf=>hf.2 (Or.inr ⟨hr,a0⟩));refine⟨a1,?_,?_⟩
 ·refine((hN.but.mono (fun _ _ h=>h.elim)).trans (hB.mono (fun k hk hf=>⟨hf.1,fun hp=>hf.2 (Or.inl hp)⟩))).next (gE _ _ _ _) (fun k hk e=>by have e:k=r:=e;omega)
 ·refine(hs.tmp (F:=(· =r)) (gE _ _ _ _) (fun k e=>by have e:k=r:=e;subst e;exact⟨Or.inr ⟨hr,a0⟩,by omega⟩) (fun k e c fz he=> ?_)).less (fun k hp=>Or.inl hp);have e:k=r:=e;subst e;rw[a1.put]at he
  cases he
theorem WdQ.fin0 {X X':World} {r:Nat} (h:WdQ P w0 w bw tx inp s vo vb gs fv cn sn) (hN:NB w X) (hB:But (fun _=>False) X X') (hr:w.heap.size≤r) (hx:dz X r) (a b:Int):
  dz X' r∧But (FrQ P w0) w ((X'.setCell ⟨r,0,none⟩ (.int .i32 a)).setCell ⟨r,1,none⟩ (.int .i64 b))∧WdQ P w0 ((X'.setCell ⟨r,0,none⟩ (.int .i32 a)).setCell ⟨r,1,none⟩ (.int .i64 b)) bw tx inp s vo vb gs fv cn sn:=
 WdQ.fin hN h.old.size ((h.grown hN).new hB) (hB.mono (fun _ _ h=>h.elim)) hr hx a b
theorem z7 (h:WdQ P w0 w bw tx inp s vo vb gs fv cn sn) (u v:V) (pl n pn pc:Nat) (c:UInt8) (pa:Option Addr) (hn:n<100):
  Calls Tryz.prog 197 #[.pointer (some ⟨bw,0,none⟩),.agg #[.int .i64 pl,.int .u8 107,.int .u8 c.toNat,.int .i64 n,.slice pa pn pc],bn u,bn v] w (ReW P w0 w bw tx inp cn (.ok (.i n) l s)):=by
 unfold bn
 go_in
 go_wp2_with fail;exact eA Tryz.results197 rfl rfl rfl (CB (by simp) _) ⟨rW.but.mono (fun _ _ h=>h.elim),vo,vb,gs,fv,sn,rfl,h.new rW.but⟩
theorem z9 (h:WdQ P w0 w bw tx inp s vo vb gs fv cn sn) (ht:eP w0) (m:Int) (h1: -2147483648≤m) (h2:m<2147483648) (hol:s.out.length≤90000) (v:V) (pl n pn pc:Nat) (c:UInt8) (pa:Option Addr):
  Calls Tryz.prog 197 #[.pointer (some ⟨bw,0,none⟩),.agg #[.int .i64 pl,.int .u8 119,.int .u8 c.toNat,.int .i64 n,.slice pa pn pc],bn (.i m),bn v] w (ReW P w0 w bw tx inp cn (.ok (.i 0) l (s.say m))):=by
 have HC:=hid (fun X (hX:NB w X)=>rX (h.grown hX) ht m h1 h2 hol);have h0:=h.old.size;clear h;unfold bn
 go_in
 go_wp2_with fail;refine(HC.out _ rW).mono ?_;rintro en w1 ⟨a0,rfl,a4,a2⟩;have HF:=hid (fun a b=>WdQ.fin rW h0 a2 a0 (r:=w.heap.size+1+1+1) (by omega) ⟨0,0,CB (by simp) _⟩ a b);have a1:=(HF.out 0 0).1;obtain⟨K9,N9,r0,r1,f0,f1,a3⟩:=a1.parts;simp only[bn];clear HC a0 a2;go_wp2_with fail;exact eA Tryz.results197 rfl rfl rfl (a1.put _ _) ⟨(HF.out _ _).2.1,_,_,_,_,_,rfl,(HF.out _ _).2.2⟩
theorem Bc (h:WdQ P w0 w bw tx inp s vo vb gs fv cn sn) (op:Nat) (hop:op=43∨op=45∨op=42∨op=60∨op=61∨op=47) (a b:Int) (a1: -2147483648≤a) (a2:a<2147483648) (b1: -2147483648≤b) (b2:b<2147483648) (pl n pn pc:Nat) (c:UInt8) (pa:Option Addr):
  Calls Tryz.prog 197 #[.pointer (some ⟨bw,0,none⟩),.agg #[.int .i64 pl,.int .u8 op,.int .u8 c.toNat,.int .i64 n,.slice pa pn pc],bn (.i a),bn (.i b)] w (ReW P w0 w bw tx inp cn (fe op a b l s)):=by
 have HC:=hid (fun X=>vQ op hop a b a1 a2 b1 b2 X);have HG:=hid h
 obtain⟨K,e,hK,hR⟩: ∃(K e:Int),jJ op a b= .tuple #[.agg #[.int .i32 K,.int .i64 0],.int .i64 e]∧((∃m,m=K∧e=0∧fe op a b l s= .ok (.i m) l s)∨(K=0∧e=bI 7∧fe op a b l s= .bad 7 s.out)):=by
  unfold jJ fe
  by_cases h47:op=47
  ·by_cases hb:b=0
   ·subst h47 hb;exact⟨0,3,rfl,Or.inr ⟨rfl,rfl,rfl⟩⟩
   ·simp only[h47,hb,and_false,if_true,if_false];exact⟨_,0,rfl,Or.inl ⟨_,rfl,rfl,rfl⟩⟩
  ·simp only[h47,false_and,if_false];exact⟨_,0,rfl,Or.inl ⟨_,rfl,rfl,rfl⟩⟩
 rw[hK]at HC;obtain⟨R,a4⟩: ∃R,fe op a b l s=R:=⟨_,rfl⟩;rw[a4]at hR⊢;have HR:=hid hR;clear h hK hR a4;rcases hop with rfl|rfl|rfl|rfl|rfl|rfl
 all_goals
  unfold bn
  go_in
  go_wp2_with fail;refine(HC.out _).mono ?_;rintro en w1 ⟨rfl,a3⟩;have HF:=hid (fun a b=>HG.out.fin0 rW a3 (r:=w.heap.size+1+1+1) (by omega) ⟨0,0,CB (by simp) _⟩ a b);have a0:=(HF.out 0 0).1;obtain⟨K9,N9,r0,r1,f0,f1,a5⟩:=a0.parts;simp only[bn];clear HC a3;go_wp2_with fail;rcases HR.out with⟨m,rfl,rfl,rfl⟩ | ⟨rfl,rfl,rfl⟩
  ·exact eA Tryz.results197 rfl rfl rfl (a0.put _ _) ⟨(HF.out _ _).2.1,_,_,_,_,_,rfl,(HF.out _ _).2.2⟩
  ·exact eA Tryz.results197 rfl rfl rfl (a0.put _ _) ⟨(HF.out _ _).2.1,_,_,_,_,_,rfl,s,rfl,(HF.out _ _).2.2⟩
end
theorem vU (tx:Nat) (inp:ByteArray) (w:World):
  Calls Tryz.prog 86 #[.pointer (some ⟨tx,0,none⟩),.string inp] w fun en w'=>en= .returned (.pointer (some ⟨w.heap.size,0,none⟩))∧w'=w.alloc (.cells #[.pointer (some ⟨tx,0,none⟩),.string inp,.int .i64 0,.slice none 0 0,.slice none 0 0,.int .i64 0] 211):=by
 go_in
 go_wp2_with fail;go_ret;exact⟨rfl,rfl⟩
theorem rY {w:World} {bw tx base:Nat} {inp:ByteArray} {r:Int} {vo vb:Value} {cn:Int} {o:List UInt8} (h:XwC w bw tx inp r vo vb cn) (ho:w.ownsRow base 5 1 vo o.length (Lib.byteCells o)):
  Calls Tryz.prog 89 #[.pointer (some ⟨bw,0,none⟩)] w fun en w'=>en= .returned (.string ⟨o.toArray⟩)∧w'=w:=by
 have c3:=h.c3;have hl:=h.lt;have a0:=fa (l:=o) ho;obtain⟨ao,cap,rfl⟩:=aq ho;clear h ho
 go_in
 go_wp2_with fail;go_ret;exact⟨rfl,rfl⟩
theorem B1 (e:Nat) (he:e=0∨(5≤e∧e≤10)) (w:World):
  Calls Tryz.prog 59 #[.int .i64 (bI e)] w fun en w'=>en= .returned (.int .i64 e)∧w'=w:=by
 have:e=0∨e=5∨e=6∨e=7∨e=8∨e=9∨e=10:=by omega
 rcases this with rfl|rfl|rfl|rfl|rfl|rfl|rfl
 ·rw[show bI _=0 from rfl]
  go_in
  go_wp2_with fail;go_ret;exact⟨rfl,rfl⟩
 ·rw[show bI _=1 from rfl]
  go_in
  go_wp2_with fail;go_ret;exact⟨rfl,rfl⟩
 ·rw[show bI _=2 from rfl]
  go_in
  go_wp2_with fail;go_ret;exact⟨rfl,rfl⟩
 ·rw[show bI _=3 from rfl]
  go_in
  go_wp2_with fail;go_ret;exact⟨rfl,rfl⟩
 ·rw[show bI _=4 from rfl]
  go_in
  go_wp2_with fail;go_ret;exact⟨rfl,rfl⟩
 ·rw[show bI _=5 from rfl]
  go_in
  go_wp2_with fail;go_ret;exact⟨rfl,rfl⟩
 ·rw[show bI _=6 from rfl]
  go_in
  go_wp2_with fail;go_ret;exact⟨rfl,rfl⟩
end
end Go.Proofs.YtpfkkmacakjmbaaGreatDoor
