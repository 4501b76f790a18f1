import Derived.Test.YtpfkkmacakjmbaaGreatDoorP19
import Derived.Test.YtpfkkmacakjmbaaGreatDoorP13
set_option maxRecDepth 100000
set_option maxHeartbeats 6400000
set_option linter.unusedSimpArgs false
set_option linter.unusedVariables false
namespace Go.Proofs.YtpfkkmacakjmbaaGreatDoor
section
open Go Go.RowKit Sp
attribute [local go_sem ↓] Go.wp_at_zero Go.wp_at_succ
def bp (x:Ins):XIt:=if bu x.op=true then⟨x.pos,107,45,x.b,none,0,0⟩else bj x
def pS (s:ByteArray) (cs:List Cls) (ns nl i:Nat) (bad:Bool):Except Nat (Ins×Nat):=if bad=true then .error i else kR s cs ns nl i
def lj (s:ByteArray) (cs:List Cls) (ns nl i:Nat) (bad:Bool) (x:XIt) (j:Nat) (bad':Bool):Prop:=
 (bad'=false∧ ∃y,pS s cs ns nl i bad= .ok (y,j)∧x=bp y)∨(bad'=true∧pS s cs ns nl i bad= .error j)
section
variable {s:ByteArray} {cs:List Cls} {ns nl i:Nat}
theorem zp {bad:Bool} {x:XIt} (h:bad=true∨s.size≤i):lj s cs ns nl i bad x i true:=by
 right
 refine⟨rfl,?_⟩;unfold pS
 cases bad with
 |true=>rfl
 |false=>
  rcases h with h|h
  ·cases h
  ·simp only[Bool.false_eq_true,if_false];unfold kR;rw[mG h]
   rfl
theorem Av {x:XIt} (h:cV.contains (pk s i).toNat=false):lj s cs ns nl i false x i true:=by
 right
 refine⟨rfl,?_⟩;simp only[pS,Bool.false_eq_true,if_false,kR,h]
theorem vj {c:UInt8} (hc:pk s i=c) (hl:cV.contains c.toNat=true) (hd:bu c=false) (h:aY s cs ns nl c.toNat (i+1)= .ok (0,0,i+1)) (hn: ¬(c.toNat=110∨c.toNat=120∨c.toNat=103∨c.toNat=112∨c.toNat=99)):lj s cs ns nl i false ⟨i,c,45,0,none,0,0⟩ (i+1) false:=by
 left
 refine⟨rfl,⟨c,0,0,i⟩,?_,?_⟩
 ·simp only[pS,Bool.false_eq_true,if_false,kR,hc,hl,if_true,h,hd]
 ·unfold bp bj;simp only[hd,Bool.false_eq_true,if_false,if_neg hn]
theorem vm {c:UInt8} (hc:pk s i=c) (hl:cV.contains c.toNat=true) (hd:bu c=true) (h:aY s cs ns nl c.toNat (i+1)= .ok (0,0,i+1)):lj s cs ns nl i false ⟨i,107,45,c.toNat-48,none,0,0⟩ (i+1) false:=by
 left
 refine⟨rfl,⟨c,0,c.toNat-48,i⟩,?_,?_⟩
 ·simp only[pS,Bool.false_eq_true,if_false,kR,hc,hl,if_true,h,hd]
 ·unfold bp;simp only[hd,if_true]
theorem zq {c:UInt8} (hc:pk s i=c) (h:c.toNat=108∨c.toNat=115∨c.toNat=110∨c.toNat=120∨c.toNat=103∨c.toNat=112∨c.toNat=99) {x:XIt} {j:Nat} {bad':Bool} (hI:fO s cs ns nl i false x j bad'):lj s cs ns nl i false x j bad':=by
 have hl:bZ.contains c.toNat=true:=by rcases h with h|h|h|h|h|h|h<;>(rw[h];decide)
 have a0:cV.contains c.toNat=true:=by rcases h with h|h|h|h|h|h|h<;>(rw[h];decide)
 have hd:bu c=false:=by rcases h with h|h|h|h|h|h|h<;>simp[bu,h]
 unfold fO nN j6 at hI;unfold lj pS kR;simp only[Bool.false_eq_true,if_false,hc,hl,a0,if_true,hd]at hI⊢;rcases hI with⟨h1,y,h2,h3⟩ | ⟨h1,h2⟩
 ·left
  refine⟨h1,y,?_,?_⟩
  ·rw[←h2]
   cases aY s cs ns nl c.toNat (i+1)<;>rfl
  ·rw[h3]
   have hy:y.op=c:=by
    cases ho:aY s cs ns nl c.toNat (i+1)with
    |error q=>rw[ho]at h2;cases h2
    |ok q=>rw[ho]at h2;cases h2;rfl
   unfold bp;rw[hy,hd];simp
 ·right
  refine⟨h1,?_⟩;rw[←h2]
  cases aY s cs ns nl c.toNat (i+1)<;>rfl
theorem xQ {c:UInt8} {x:XIt} {j:Nat} {bad':Bool} (hnc:cs.length≤4) (hpc:pk s i=c) (hn: ¬(c.toNat=114∨c.toNat=122∨c.toNat=43∨c.toNat=45∨c.toNat=42∨c.toNat=47∨c.toNat=60∨c.toNat=61∨c.toNat=101∨c.toNat=119∨c.toNat=44∨c.toNat=105∨c.toNat=111∨c.toNat=48∨c.toNat=49∨c.toNat=50∨c.toNat=51∨c.toNat=52∨c.toNat=53∨c.toNat=54∨c.toNat=55∨c.toNat=56∨c.toNat=57))
  (h:ej s cs ns nl i c (i+1) false=(x,j,bad')):lj s cs ns nl i false x j bad':=by
 by_cases h1:c.toNat=108∨c.toNat=115∨c.toNat=110∨c.toNat=120∨c.toNat=103∨c.toNat=112∨c.toNat=99
 ·exact zq hpc h1 (rq hnc hpc (by omega) h)
 ·unfold ej at h;rw[if_neg (by omega),if_neg (by omega),if_neg (by omega),if_neg (by omega)]at h;obtain⟨rfl,rfl,rfl⟩:=(by simpa using h:_∧_∧_)
  try simp only[Bool.false_eq_true,if_false]
  refine Av ?_;rw[hpc];simp only[cV,List.contains_eq_mem,List.mem_cons,List.not_mem_nil,or_false,decide_eq_false_iff_not];omega
end
theorem jd (c:UInt8) (w:World):
  Calls Tryz.prog 200 #[.int .u8 c.toNat] w fun en w'=>en= .returned (.int .i64 (aw c))∧w'=w:=by
 by_cases h:c.toNat=103∨c.toNat=120∨c.toNat=115∨c.toNat=119∨c.toNat=43∨c.toNat=45∨c.toNat=42∨c.toNat=47∨c.toNat=60∨c.toNat=61∨c.toNat=101∨c.toNat=99∨c.toNat=112∨c.toNat=44∨c.toNat=111∨c.toNat=105
 ·rcases h with h|h|h|h|h|h|h|h|h|h|h|h|h|h|h|h
  all_goals
   have E: ∀j:Int,((c.toNat:Int)==j)=_:=fun j=>congrArg (fun n:Nat=>((n:Int)==j)) h
   rw[show aw c=_ from by unfold aw;rw[h]];clear h
   go_in
   go_wp2_with fail;go_ret;exact⟨rfl,rfl⟩
 ·simp only[not_or]at h;obtain⟨a1,a7,a5,a6,b0,b2,a8,b3,b4,b5,a0,b6,a4,b1,a3,a2⟩:=h;rw[show aw c=0 from by simp[aw,a1,a7,a5,a6,b0,b2,a8,b3,b4,b5,a0,b6,a4,b1,a3,a2]];have E: ∀j:Nat,c.toNat≠j→((c.toNat:Int)==(j:Int))=false:=fun j h=>by rw[beq_eq_false_iff_ne];omega
  have d6:=E 103 a1;have e5:=E 120 a7;have e3:=E 115 a5;have e4:=E 119 a6;have e7:=E 43 b0;have e9:=E 45 b2;have e6:=E 42 a8;have f0:=E 47 b3;have f1:=E 60 b4;have f2:=E 61 b5;have c7:=E 101 a0;have f3:=E 99 b6;have e2:=E 112 a4;have e8:=E 44 b1;have e1:=E 111 a3;have e0:=E 105 a2;clear E a1 a7 a5 a6 b0 b2 a8 b3 b4 b5 a0 b6 a4 b1 a3 a2
  go_in
  go_wp2_with fail;go_ret;exact⟨rfl,rfl⟩
section
variable (b base:Nat) (s:ByteArray) (i:Nat) (SC:List Cls) (a0 a1 al:Option Addr) (ng nl cap0 cap1 capl:Nat) (v2:RdV) (w:World)
theorem Aw (c:UInt8) (hc:c.toNat=114∨c.toNat=122∨c.toNat=43∨c.toNat=45∨c.toNat=42∨c.toNat=47∨c.toNat=60∨c.toNat=61∨c.toNat=101∨c.toNat=119∨c.toNat=44∨c.toNat=105∨c.toNat=111) (hlt:i<s.size) (hpc:pk s i=c) (hnc:SC.length≤4) (hng:ng≤3) (hnl:nl≤10) (hs:s.size≤2000)
  (hR:XrB w b s i false (.slice a0 SC.length cap0) (.slice a1 ng cap1) v2) (hv:v2.hl= .slice al nl capl):
  Calls Tryz.prog 199 #[.pointer (some ⟨b,0,none⟩)] w fun en w'=>But (· =b) w w'∧ ∃x j bad',en= .returned (itV x)∧XrB w' b s j bad' (.slice a0 SC.length cap0) (.slice a1 ng cap1) v2∧lj s SC ng nl i false x j bad':=by
 rcases hc with hc|hc|hc|hc|hc|hc|hc|hc|hc|hc|hc|hc|hc
 all_goals
  have HC:=hid hc;have E: ∀j:Int,((c.toNat:Int)==j)=_:=fun j=>congrArg (fun n:Nat=>((n:Int)==j)) hc
  clear hc;have e0:=hR.lt;have p3:=hR.c3;obtain⟨a8,b2,b3⟩:=cQ w b e0 #[.int .i64 0,.int .u8 0,.int .u8 0,.int .i64 0,.slice none 0 0] #[.int .i64 i,.int .u8 0,.int .u8 45,.int .i64 0,.slice none 0 0] 219;have b0:=hR.but ((But.alloc (fun _=>False) w (.cells #[.int .i64 0,.int .u8 0,.int .u8 0,.int .i64 0,.slice none 0 0] 219)).trans (But.alloc _ _ (.cells #[.int .i64 i,.int .u8 0,.int .u8 45,.int .i64 0,.slice none 0 0] 219))) (fun h=>h);have a6:=hid (fq.mk a8 b2 b3);have a5:=hid (a9 b s i false _ _ v2 _ hs b0);rw[gG hlt,hpc]at a5;clear a8 b0 b2 b3
  go_in
  go_wp2_with fail;refine a5.out.mono ?_;rintro en w1 ⟨rfl,b5,b6⟩;have a2:=a6.out.next (by omega) (by omega) b5;obtain⟨q0,q1,q2,q3,q4⟩:=bc a2.item;obtain⟨f0,f1,f2,f3,f4⟩:=bK a2.item;obtain⟨y0,y1,y2,y3,y4⟩:=bc a2.box;obtain⟨g0,g1,g2,g3,g4⟩:=bK a2.box;have b1:=a2.set1 (by omega) (by omega) (.int .u8 c.toNat);have c7:=b6.but (But.setB w1 (w.heap.size+1) 1 (.int .u8 c.toNat)) (by omega);have b4:=hid b1;clear a2 b1 a6 a5 p3;have a7:=hid (b4.out);have d6:=c7;go_wp2_with fail;have a4:=eO a7.out.box (.int .i64 i) (.int .u8 c.toNat) (.int .u8 45) (.int .i64 0) (.slice none 0 0);have a3:=fN (w1.setCell ⟨w.heap.size+1,1,none⟩ (.int .u8 c.toNat)) w.heap.size (.int .i64 i) (.int .u8 c.toNat) (.int .u8 45) (.int .i64 0) (.slice none 0 0)
  unfold pH at a4 a3;revert a4 a3;generalize (((((w1.setCell ⟨w.heap.size+1,1,none⟩ (.int .u8 c.toNat)).setCell ⟨w.heap.size,0,none⟩ (.int .i64 i)).setCell ⟨w.heap.size,1,none⟩ (.int .u8 c.toNat)).setCell ⟨w.heap.size,2,none⟩ (.int .u8 45)).setCell ⟨w.heap.size,3,none⟩ (.int .i64 0)).setCell ⟨w.heap.size,4,none⟩ (.slice none 0 0)=w9;intro a4 a3;obtain⟨r0,r1,r2,r3,r4⟩:=bc a4;exact bodyPost_ret (v:= .agg #[(.int .i64 i),(.int .u8 c.toNat),(.int .u8 45),(.int .i64 0),(.slice none 0 0)]) (by simp[results,Tryz.results199,go_sem,r0,r1,r2,r3,r4]) rfl ⟨a7.out.but.next a3 (fun k hk h=>by omega),⟨i,c,45,0,none,0,0⟩,i+1,false,rfl,d6.but a3 (by omega),vj hpc (by rw[HC.out];decide) (by simp[bu,HC.out]) (by rw[HC.out];rfl) (by rw[HC.out];decide)⟩
theorem Ax (c:UInt8) (d:Nat) (hc:d=0∨d=1∨d=2∨d=3∨d=4∨d=5∨d=6∨d=7∨d=8∨d=9) (a6:c.toNat=48+d) (hlt:i<s.size) (hpc:pk s i=c) (hnc:SC.length≤4) (hng:ng≤3) (hnl:nl≤10) (hs:s.size≤2000)
  (hR:XrB w b s i false (.slice a0 SC.length cap0) (.slice a1 ng cap1) v2) (hv:v2.hl= .slice al nl capl):
  Calls Tryz.prog 199 #[.pointer (some ⟨b,0,none⟩)] w fun en w'=>But (· =b) w w'∧ ∃x j bad',en= .returned (itV x)∧XrB w' b s j bad' (.slice a0 SC.length cap0) (.slice a1 ng cap1) v2∧lj s SC ng nl i false x j bad':=by
 rcases hc with hc|hc|hc|hc|hc|hc|hc|hc|hc|hc
 all_goals
  have HC:=hid (And.intro a6 hc);have E: ∀j:Int,((c.toNat:Int)==j)=_:=fun j=>congrArg (fun n:Nat=>((n:Int)==j)) (a6.trans (congrArg (48+ ·) hc))
  have e5:(c.toNat:Int)-48=d:=by omega
  have e6:(d:Int)≤9:=by omega
  clear hc a6;have e4:=hR.lt;have p3:=hR.c3;obtain⟨b0,b5,b6⟩:=cQ w b e4 #[.int .i64 0,.int .u8 0,.int .u8 0,.int .i64 0,.slice none 0 0] #[.int .i64 i,.int .u8 0,.int .u8 45,.int .i64 0,.slice none 0 0] 219;have b1:=hR.but ((But.alloc (fun _=>False) w (.cells #[.int .i64 0,.int .u8 0,.int .u8 0,.int .i64 0,.slice none 0 0] 219)).trans (But.alloc _ _ (.cells #[.int .i64 i,.int .u8 0,.int .u8 45,.int .i64 0,.slice none 0 0] 219))) (fun h=>h);have a7:=hid (fq.mk b0 b5 b6);have a5:=hid (a9 b s i false _ _ v2 _ hs b1);rw[gG hlt,hpc]at a5;clear b0 b1 b5 b6
  go_in
  go_wp2_with fail;refine a5.out.mono ?_;rintro en w1 ⟨rfl,d6,e0⟩;have a2:=a7.out.next (by omega) (by omega) d6;obtain⟨q0,q1,q2,q3,q4⟩:=bc a2.item;obtain⟨f0,f1,f2,f3,f4⟩:=bK a2.item;obtain⟨y0,y1,y2,y3,y4⟩:=bc a2.box;obtain⟨g0,g1,g2,g3,g4⟩:=bK a2.box;have b2:=a2.set1 (by omega) (by omega) (.int .u8 c.toNat);have e1:=e0.but (But.setB w1 (w.heap.size+1) 1 (.int .u8 c.toNat)) (by omega);have c7:=hid b2;clear a2 b2 a7 a5 p3;have b3:=c7.out.set3 (by omega) (by omega) (.int .i64 d);have b4:=b3.set1 (by omega) (by omega) (.int .u8 107);have e2:=(e1.but (But.setB _ (w.heap.size+1) 3 (.int .i64 d)) (by omega)).but (But.setB _ (w.heap.size+1) 1 (.int .u8 107)) (by omega)
  have a8:=hid b4;have e3:=e2;clear b3 b4;go_wp2_with fail;have a4:=eO a8.out.box (.int .i64 i) (.int .u8 107) (.int .u8 45) (.int .i64 d) (.slice none 0 0);have a3:=fN (((w1.setCell ⟨w.heap.size+1,1,none⟩ (.int .u8 c.toNat)).setCell ⟨w.heap.size+1,3,none⟩ (.int .i64 d)).setCell ⟨w.heap.size+1,1,none⟩ (.int .u8 107)) w.heap.size (.int .i64 i) (.int .u8 107) (.int .u8 45) (.int .i64 d) (.slice none 0 0);unfold pH at a4 a3;revert a4 a3;generalize (((((((w1.setCell ⟨w.heap.size+1,1,none⟩ (.int .u8 c.toNat)).setCell ⟨w.heap.size+1,3,none⟩ (.int .i64 d)).setCell ⟨w.heap.size+1,1,none⟩ (.int .u8 107)).setCell ⟨w.heap.size,0,none⟩ (.int .i64 i)).setCell ⟨w.heap.size,1,none⟩ (.int .u8 107)).setCell ⟨w.heap.size,2,none⟩ (.int .u8 45)).setCell ⟨w.heap.size,3,none⟩ (.int .i64 d)).setCell ⟨w.heap.size,4,none⟩ (.slice none 0 0)=w9
  intro a4 a3;obtain⟨r0,r1,r2,r3,r4⟩:=bc a4;exact bodyPost_ret (v:= .agg #[(.int .i64 i),(.int .u8 107),(.int .u8 45),(.int .i64 d),(.slice none 0 0)]) (by simp[results,Tryz.results199,go_sem,r0,r1,r2,r3,r4]) rfl ⟨a8.out.but.next a3 (fun k hk h=>by omega),⟨i,107,45,d,none,0,0⟩,i+1,false,rfl,e3.but a3 (by omega),(by have:=vm (cs:=SC) (ns:=ng) (nl:=nl) hpc (by rw[HC.out.1,HC.out.2];decide) (by simp[bu,HC.out.1,HC.out.2]) (by rw[HC.out.1,HC.out.2];rfl);rw[HC.out.1,Nat.add_sub_cancel_left]at this;exact this)⟩
theorem mT (bad:Bool) (c:UInt8) (j1:Nat) (bad1:Bool) (hT:tbP s i bad=(c,j1,bad1)) (hn: ¬(c.toNat=114∨c.toNat=122∨c.toNat=43∨c.toNat=45∨c.toNat=42∨c.toNat=47∨c.toNat=60∨c.toNat=61∨c.toNat=101∨c.toNat=119∨c.toNat=44∨c.toNat=105∨c.toNat=111∨c.toNat=48∨c.toNat=49∨c.toNat=50∨c.toNat=51∨c.toNat=52∨c.toNat=53∨c.toNat=54∨c.toNat=55∨c.toNat=56∨c.toNat=57)) (hI: ∀x j bad',ej s SC ng nl i c j1 bad1=(x,j,bad')→lj s SC ng nl i bad x j bad') (hnc:SC.length≤4) (hng:ng≤3) (hnl:nl≤10) (hs:s.size≤2000)
  (hR:XrB w b s i bad (.slice a0 SC.length cap0) (.slice a1 ng cap1) v2) (hv:v2.hl= .slice al nl capl) (hG:c.toNat=103∨c.toNat=112→WfC SC∧TcV w base (.slice a0 SC.length cap0) (SC.map toX)) (hb:b<base):
  Calls Tryz.prog 199 #[.pointer (some ⟨b,0,none⟩)] w fun en w'=>But (· =b) w w'∧ ∃x j bad',en= .returned (itV x)∧XrB w' b s j bad' (.slice a0 SC.length cap0) (.slice a1 ng cap1) v2∧lj s SC ng nl i bad x j bad':=by
 have g6:=hR.lt;have p3:=hR.c3;obtain⟨b4,c7,d6⟩:=cQ w b g6 #[.int .i64 0,.int .u8 0,.int .u8 0,.int .i64 0,.slice none 0 0] #[.int .i64 i,.int .u8 0,.int .u8 45,.int .i64 0,.slice none 0 0] 219;have b5:=hR.but ((But.alloc (fun _=>False) w (.cells #[.int .i64 0,.int .u8 0,.int .u8 0,.int .i64 0,.slice none 0 0] 219)).trans (But.alloc _ _ (.cells #[.int .i64 i,.int .u8 0,.int .u8 45,.int .i64 0,.slice none 0 0] 219))) (fun h=>h);have b0:=hid (fq.mk b4 c7 d6);have a6:=hid (a9 b s i bad _ _ v2 _ hs b5);rw[hT]at a6;have e5:=tf c.toNat 114 (by omega);have e7:=tf c.toNat 122 (by omega);have h0:=tf c.toNat 43 (by omega)
 have h2:=tf c.toNat 45 (by omega);have g7:=tf c.toNat 42 (by omega);have h3:=tf c.toNat 47 (by omega);have i4:=tf c.toNat 60 (by omega);have i5:=tf c.toNat 61 (by omega);have e2:=tf c.toNat 101 (by omega);have e6:=tf c.toNat 119 (by omega);have h1:=tf c.toNat 44 (by omega);have e3:=tf c.toNat 105 (by omega);have e4:=tf c.toNat 111 (by omega);have h4:=tf c.toNat 48 (by omega);have h5:=tf c.toNat 49 (by omega);have h6:=tf c.toNat 50 (by omega);have h7:=tf c.toNat 51 (by omega);have h8:=tf c.toNat 52 (by omega);have h9:=tf c.toNat 53 (by omega);have i0:=tf c.toNat 54 (by omega);have i1:=tf c.toNat 55 (by omega)
 have i2:=tf c.toNat 56 (by omega);have i3:=tf c.toNat 57 (by omega);clear hn;clear b4 b5 c7 d6
 go_in
 go_wp2_with fail;refine a6.out.mono ?_;rintro en w1 ⟨rfl,e8,f6⟩;have a2:=b0.out.next (by omega) (by omega) e8;obtain⟨q0,q1,q2,q3,q4⟩:=bc a2.item;obtain⟨f0,f1,f2,f3,f4⟩:=bK a2.item;obtain⟨y0,y1,y2,y3,y4⟩:=bc a2.box;obtain⟨g0,g1,g2,g3,g4⟩:=bK a2.box;have b6:=a2.set1 (by omega) (by omega) (.int .u8 c.toNat);have f7:=f6.but (But.setB w1 (w.heap.size+1) 1 (.int .u8 c.toNat)) (by omega);have b1:=hid b6;clear a2 b6 b0 a6 p3;have a8:=hid (fun h=>hG h);have e0:=hid hI;clear hG hI;have a7:=oA b base s j1 SC a0 a1 al ng nl cap0 cap1 capl v2 (w1.setCell ⟨w.heap.size+1,1,none⟩ (.int .u8 c.toNat)) i bad1 c hnc hng hnl hs f7 hv (fun h=>⟨(a8.out h).1,(a8.out h).2.but b1.out.but (fun g e cur _ _ hg he=>by omega)⟩) hb
 unfold itV at a7;have e1:=hid a7;clear a7;go_wp2_with fail;refine e1.out.mono ?_;rintro en w3 ⟨e9,x,j3,b3,rfl,f8,f5⟩;clear q0 q1 q2 q3 q4 f0 f1 f2 f3 f4 y0 y1 y2 y3 y4 g0 g1 g2 g3 g4;have a4:=b1.out.next (by omega) (by omega) e9;obtain⟨q0,q1,q2,q3,q4⟩:=bc a4.item;obtain⟨f0,f1,f2,f3,f4⟩:=bK a4.item;obtain⟨y0,y1,y2,y3,y4⟩:=bc a4.box;obtain⟨g0,g1,g2,g3,g4⟩:=bK a4.box;have b2:=hid (a4);have g5:=f8;go_wp2_with fail;have a5:=eO b2.out.box (.int .i64 x.place) (.int .u8 x.op.toNat) (.int .u8 x.cls.toNat) (.int .i64 x.num) (.slice x.pa x.pn x.pc);have a3:=fN w3 w.heap.size (.int .i64 x.place) (.int .u8 x.op.toNat) (.int .u8 x.cls.toNat) (.int .i64 x.num) (.slice x.pa x.pn x.pc)
 unfold pH at a5 a3;revert a5 a3;generalize ((((w3.setCell ⟨w.heap.size,0,none⟩ (.int .i64 x.place)).setCell ⟨w.heap.size,1,none⟩ (.int .u8 x.op.toNat)).setCell ⟨w.heap.size,2,none⟩ (.int .u8 x.cls.toNat)).setCell ⟨w.heap.size,3,none⟩ (.int .i64 x.num)).setCell ⟨w.heap.size,4,none⟩ (.slice x.pa x.pn x.pc)=w9;intro a5 a3;obtain⟨r0,r1,r2,r3,r4⟩:=bc a5;exact bodyPost_ret (v:= .agg #[(.int .i64 x.place),(.int .u8 x.op.toNat),(.int .u8 x.cls.toNat),(.int .i64 x.num),(.slice x.pa x.pn x.pc)]) (by simp[results,Tryz.results199,go_sem,r0,r1,r2,r3,r4]) rfl ⟨b2.out.but.next a3 (fun k hk h=>by omega),x,j3,b3,rfl,g5.but a3 (by omega),e0.out _ _ _ f5⟩
theorem vp (bad:Bool) (hG:bad=true∨(WfC SC∧TcV w base (.slice a0 SC.length cap0) (SC.map toX))) (hnc:SC.length≤4) (hng:ng≤3) (hnl:nl≤10) (hs:s.size≤2000)
  (hR:XrB w b s i bad (.slice a0 SC.length cap0) (.slice a1 ng cap1) v2) (hv:v2.hl= .slice al nl capl) (hb:b<base):
  Calls Tryz.prog 199 #[.pointer (some ⟨b,0,none⟩)] w fun en w'=>But (· =b) w w'∧ ∃x j bad',en= .returned (itV x)∧XrB w' b s j bad' (.slice a0 SC.length cap0) (.slice a1 ng cap1) v2∧lj s SC ng nl i bad x j bad':=by
 by_cases hz:bad=true∨s.size≤i
 ·refine mT b base s i SC a0 a1 al ng nl cap0 cap1 capl v2 w bad 0 i true (i8 hz) (by decide) (fun x j bad' h=> ?_) hnc hng hnl hs hR hv (fun h=>by simp at h) hb;rw[rt]at h;obtain⟨rfl,rfl,rfl⟩:=(by simpa using h:_∧_∧_);exact zp hz
 have a5:=not_or.1 hz;have a4:bad=false:=by simpa using a5.1
 subst a4;have a2:i<s.size:=by omega
 have a3:WfC SC∧TcV w base (.slice a0 SC.length cap0) (SC.map toX):=by rcases hG with h|h;cases h;exact h
 by_cases ha:(pk s i).toNat=114∨(pk s i).toNat=122∨(pk s i).toNat=43∨(pk s i).toNat=45∨(pk s i).toNat=42∨(pk s i).toNat=47∨(pk s i).toNat=60∨(pk s i).toNat=61∨(pk s i).toNat=101∨(pk s i).toNat=119∨(pk s i).toNat=44∨(pk s i).toNat=105∨(pk s i).toNat=111
 ·exact Aw b s i SC a0 a1 al ng nl cap0 cap1 capl v2 w _ ha a2 rfl hnc hng hnl hs hR hv
 by_cases hd:48≤(pk s i).toNat∧(pk s i).toNat≤57
 ·exact Ax b s i SC a0 a1 al ng nl cap0 cap1 capl v2 w _ ((pk s i).toNat-48) (by omega) (by omega) a2 rfl hnc hng hnl hs hR hv
 exact mT b base s i SC a0 a1 al ng nl cap0 cap1 capl v2 w false (pk s i) (i+1) false (gG a2) (by omega) (fun x j bad' h=>xQ hnc rfl (by omega) h) hnc hng hnl hs hR hv (fun _=>a3) hb
end
def dy (l:List Nat):List Value:=l.map fun(k:Nat)=>Value.int .i64 (k:Int)
def kE (its:List XIt):List Ins:=its.map fun x=>⟨x.op,0,0,0⟩
def cd (t:List Ins):Nat→Nat→List Nat
 |0,_=> []
 |n+1,k=>if k<t.length then k::cd t n (bg t k)else []
def dg (t:List Ins) (k:Nat):List Nat:=match t[k]? with
 |some x=>cd t (aw x.op) (k+1)
 |none=> []
theorem jw {t:List Ins} {k:Nat} {x:Ins} (h:t[k]?=some x):bg t k=k+1+sk (aw x.op) (t.drop (k+1)):=by
 obtain⟨hl,hg⟩:=List.getElem?_eq_some_iff.1 h;unfold bg;rw[List.drop_eq_getElem_cons hl,hg];simp[sk];omega
theorem kF {t:List Ins} {m p:Nat}:p+sk (m+1) (t.drop p)=bg t p+sk m (t.drop (bg t p)):=by
 rw[Nat.add_comm m 1,Ad,List.drop_drop];unfold bg;omega
theorem Ay {m:Nat}:sk m []=0:=by cases m<;>rfl
theorem pT {t:List Ins} {k:Nat} (h:k≤t.length):bg t k≤t.length:=by
 unfold bg;have:=AT (t:=t.drop k) (m:=1);rw[List.length_drop]at this;omega
theorem l7 {t:List Ins} {k:Nat} (h:k<t.length):k<bg t k:=by
 rw[jw (List.getElem?_eq_getElem h)];omega
theorem rF:(Tryz.prog.info? 3).map (fun i=>(i.zero,i.size,i.bytes))=some (some (.int .i64 0),1,8):=by kernel_rfl
theorem xR (n:Nat):madeCells #[.int .i64 0] n=(dy (List.replicate n 0)).toArray:=by
 apply Array.ext
 ·rw[size_madeCells];simp[dy]
 ·intro k h1 h2;have e:k % 1=0:=by omega
  simp[madeCells,e,dy]
theorem xS (n:Nat) (hn:n≤1000) (w:World):(Instr.makeSlice 217 (.int .i64 (n:Int)) (.int .i64 (n:Int))).run Tryz.prog w= .ok (.slice (some ⟨w.heap.size,0,none⟩) n n) (w.alloc (.cells (dy (List.replicate n 0)).toArray 3)):=by
 have a0:=rF
 cases hi:Tryz.prog.info? 3 with
 |none=>rw[hi]at a0;cases a0
 |some i=>
  rw[hi]at a0;simp only[Option.map_some,Option.some.injEq,Prod.mk.injEq]at a0;obtain⟨hz,hs,hb⟩:=a0;have:=run_make (P:=Tryz.prog) w 217 3 i _ (by kernel_rfl) hi hz .i64 .i64 n n (by omega) (by omega) (by rw[hb];omega) (by omega);rw[this,hs];simp only[Int.toNat_natCast,Value.cells,Nat.mul_one];rw[xR]
structure WpI (w:World) (base:Nat) (its its':List XIt) (bh:List Nat) (q:Nat):Prop where
 len:its'.length=its.length
 blen:bh.length=its.length
 lo: ∀k,k<q→its'[k]?=its[k]?
 hi: ∀k,q≤k→k<its.length→bh[k]?=some (bg (kE its) k)
 pt: ∀k x x',q≤k→its[k]?=some x→its'[k]?=some x'→x'.place=x.place∧x'.op=x.op∧x'.cls=x.cls∧x'.num=x.num∧w.ownsRow base 3 1 (.slice x'.pa x'.pn x'.pc) (dg (kE its) k).length (dy (dg (kE its) k))
theorem kG: ∀{l:List XIt} {p:Nat} {x:XIt} (h:l[p]?=some x) (a:Option Addr) (n c:Nat),(bo l).set (p*5+4) (.slice a n c)=bo (l.set p {x with pa:=a,pn:=n,pc:=c}):=by
 intro l
 induction l with
 |nil=>intro p x h;simp at h
 |cons y l ih=>
  intro p x h a n c
  cases p with
  |zero=>
   simp at h;subst h;simp[bo]
  |succ p=>
   have h1:=ih (p:=p) (x:=x) (by simpa using h) a n c;rw[show(p+1)*5+4=(p*5+4)+5 from by omega];simp only[bo,List.flatMap_cons,List.cons_append,List.nil_append,List.set_cons_succ]at h1⊢;rw[h1]
theorem l8 {l:List Nat} {k v:Nat} (h:l[k]?=some v):(dy l)[k]?=some (.int .i64 v):=by simp[dy,h]
theorem vq (l:List Nat) (k:Nat):dy (l++ [k])=dy l++ [.int .i64 k]:=by simp[dy]
theorem rG (l:List Nat) (p k:Nat):(dy l).set p (.int .i64 k)=dy (l.set p k):=by simp[dy,List.map_set]
theorem je (its:List XIt):(kE its).length=its.length:=by simp[kE]
theorem zs {its:List XIt} {k:Nat} {x:XIt} (h:its[k]?=some x):(kE its)[k]?=some ⟨x.op,0,0,0⟩:=by simp[kE,h]
structure PtI (t:List Ins) (p ar:Nat) (l:List Nat) (k:Nat):Prop where
 pts:l++cd t (ar-l.length) k=dg t p
 fin:k+sk (ar-l.length) (t.drop k)=bg t p
 gt:p<k
 le:k≤t.length
theorem PtI.next {t:List Ins} {p ar:Nat} {l:List Nat} {k:Nat} (h:PtI t p ar l k) (hl:l.length<ar) (hk:k<t.length):PtI t p ar (l++ [k]) (bg t k):=by
 obtain⟨d,hd⟩: ∃d,ar-l.length=d+1:=⟨ar-l.length-1,by omega⟩;have a0:ar-(l++ [k]).length=d:=by simp;omega
 refine⟨?_,?_,?_,pT (by omega)⟩
 ·rw[a0,←h.pts,hd];simp[cd,hk]
 ·rw[a0,←h.fin,hd,kF]
 ·have:=h.gt;have:=l7 hk;omega
theorem PtI.done {t:List Ins} {p ar:Nat} {l:List Nat} {k:Nat} (h:PtI t p ar l k) (hl: ¬l.length<ar∨ ¬k<t.length):l=dg t p∧k=bg t p:=by
 rcases hl with hl|hl
 ·have h0:ar-l.length=0:=by omega
  have h1:=h.pts;have h2:=h.fin;rw[h0]at h1 h2;simp[cd,lX]at h1 h2;exact⟨h1,h2⟩
 ·have h1:=h.pts;have h2:=h.fin;rw[List.drop_eq_nil_of_le (by omega),Ay]at h2
  cases hd:ar-l.length with
  |zero=>rw[hd]at h1;simp[cd]at h1;exact⟨h1,by omega⟩
  |succ d=>rw[hd]at h1;simp[cd,hl]at h1;exact⟨h1,by omega⟩
theorem gI (bx:Nat) (its:List XIt) (ai:Option Addr) (capi:Nat) (w:World) (hn:its.length≤24) (hi:ItB w bx (.slice ai its.length capi) its):
  Calls Tryz.prog 202 #[.slice ai its.length capi] w fun en w'=>But (fun _=>False) w w'∧ ∃ao cap its' bh,en= .returned (.slice ao its'.length cap)∧ItB w' w.heap.size (.slice ao its'.length cap) its'∧WpI w' w.heap.size its its' bh 0:=by
 have hE:=ItB.empty w;have n0:=xS its.length (by omega)
 go_in
 go_wp2_with (at_builtin;refine iH rfl _ _ rfl w.heap.size bx _ _ its rfl rfl hE (ah hi (But.alloc (fun _=>False) _ _) (fun _ _ h=>h)) (by omega) (by simp) ?_);intro ao cap w2 g0 h7;have b3:But (fun _=>False) w w2:=(But.alloc (fun _=>False) _ _).next h7 (fun k hk h=>by simp[Value.ownBlock]at h;omega);clear hE h7;go_wp2_with fail
 have j4:(w2.alloc (.cells (dy (List.replicate its.length 0)).toArray 3)).ownsRow w2.heap.size 3 1 (.slice (some ⟨w2.heap.size,0,none⟩) its.length its.length) its.length (dy (List.replicate its.length 0)):=
  ⟨by simp[dy],Or.inr ⟨w2.heap.size,its.length,_,rfl,Nat.le_refl _,heap_alloc_new _ _,by simp[dy],by unfold maxLen;omega,by simp[dy],by simp[dy]⟩⟩
 have j0:But (fun _=>False) w (w2.alloc (.cells (dy (List.replicate its.length 0)).toArray 3)):=b3.trans (But.alloc _ _ _);have j2:ItB (w2.alloc (.cells (dy (List.replicate its.length 0)).toArray 3)) w.heap.size (.slice ao its.length cap) its:=ah g0 (But.alloc (fun _=>False) _ _) (fun _ _ h=>h);have n5:(w2.alloc (.cells (dy (List.replicate its.length 0)).toArray 3)).heap.size=w2.heap.size+1:=by simp
 generalize (w2.alloc (.cells (dy (List.replicate its.length 0)).toArray 3))=w3 at*;have l5:=b3.size
 go_loopg [5] its.length (fun mm js wr=> ∃(v:Int) (q:Nat) (its':List XIt) (bh:List Nat),js= .int .i64 v∧v=(q:Int)-1∧q≤its.length∧q≤mm∧mm≤q∧wr.ownsRow w.heap.size 219 5 (.slice ao its.length cap) its.length (bo its')∧wr.ownsRow w2.heap.size 3 1 (.slice (some ⟨w2.heap.size,0,none⟩) its.length its.length) its.length (dy bh)∧But (fun _=>False) w wr∧w2.heap.size<wr.heap.size∧Hid (WpI wr (w2.heap.size+1) its its' bh q))
 case atStart=>exact⟨_,its.length,its,_,rfl,rfl,by omega,by omega,by omega,j2,j4,j0,by omega,⟨rfl,by simp,fun _ _=>rfl,fun k h1 h2=>absurd h1 (by omega),fun k x x' h1 h2 h3=>absurd (List.getElem?_eq_some_iff.1 h2).1 (by omega)⟩⟩
 case round=>
  obtain⟨v,q,its',bh,rfl,hv,i5,i6,n4,f0,g2,f7,n7,HI⟩:=hrel
  cases q with
  |zero=>
   have l0: ¬(0:Int)≤v:=by omega
   have h5:=hid HI.out.len;go_wp2_with fail
   have g5:WpI wr w.heap.size its its' bh 0:=by
    have h:=HI.out
    exact⟨h.len,h.blen,h.lo,h.hi,fun k x x' h1 h2 h3=>by
     obtain⟨e1,e2,e3,e4,e5⟩:=h.pt k x x' h1 h2 h3;exact⟨e1,e2,e3,e4,World.ownsRow.mono e5 (by omega)⟩⟩
   have j7:ItB wr w.heap.size (.slice ao its'.length cap) its':=by
    unfold ItB;rw[h5.out];exact f0
   exact cB (.slice ao its.length cap) Tryz.results202 rfl rfl ⟨f7,ao,cap,its',by rw[h5.out],j7,bh,g5⟩
  |succ p=>
   obtain⟨wo,l2⟩: ∃wo,wo=wr:=⟨_,rfl⟩;subst l2;have l1:v=(p:Int):=by omega
   subst l1;clear hv;obtain⟨X,hX⟩: ∃X,its[p]?=some X:=⟨_,List.getElem?_eq_getElem (by omega)⟩;have g3:its'[p]?=some X:=by rw[HI.out.lo p (by omega)];exact hX
   have HX:=hid hX;have e9:=hid g3;obtain⟨gw,rfl,g6,k0,i2⟩:=aD f0 (by omega);have q1:wo.cell? ⟨gw,p*5+1,none⟩=some (.int .u8 X.op.toNat):=i2 _ _ (aL (k:=1) g3 (by omega));obtain⟨ar,b6⟩: ∃ar,aw X.op=ar:=⟨_,rfl⟩;have j5:ar≤3:=by rw[←b6];unfold aw;split;omega;split;omega;split<;>omega
   have h8:PtI (kE its) p ar [] (p+1):=by
    have h1:=zs hX;refine⟨?_,?_,by omega,by rw[je];omega⟩
    ·simp only[dg,h1,List.nil_append,List.length_nil,Nat.sub_zero,b6]
    ·rw[jw h1];simp only[List.length_nil,Nat.sub_zero,b6]
   have i7:=hid h8;have f8:=fun W=>jd X.op W
   rw[b6]at f8;have f2:=hid f8;have j1:(wo.alloc (.cells #[] 3)).ownsRow wo.heap.size 3 1 (.slice (some ⟨wo.heap.size,0,none⟩) 0 0) ([]:List Nat).length (dy []):=⟨rfl,Or.inr ⟨wo.heap.size,0,#[],rfl,Nat.le_refl _,heap_alloc_new wo _,by simp,by unfold maxLen;omega,rfl,rfl⟩⟩;have n3:(p:Int)<(its.length:Int):=by omega
   have n1:(0:Int)≤(p:Int):=by omega
   clear hX g3 h8 f8 b6 i2;go_wp2_with fail
   go_loopg [6,7] ar (fun mm ps pv wq=> ∃(al:Option Addr) (cl:Nat) (l:List Nat) (k:Nat),ps= .slice al l.length cl∧pv= .int .i64 k∧k≤its.length∧l.length≤ar∧l.length+mm≤ar∧ar≤l.length+mm∧wq.ownsRow wo.heap.size 3 1 (.slice al l.length cl) l.length (dy l)∧But (fun _=>False) wo wq∧wo.heap.size≤wq.heap.size∧Hid (PtI (kE its) p ar l k))
   case atStart=>exact⟨_,0,[],p+1,rfl,by simp,by omega,by simp,by simp,by simp,j1,But.alloc _ _ _,by simp,i7⟩
   case round=>
    obtain⟨al,cl,l,k,rfl,rfl,hk,m3,m4,m5,b2,a1,n6,HP⟩:=hrel;have q1q:=a1.kc q1 g6;rcases(by omega:(l.length<ar∧k<its.length)∨(¬l.length<ar)∨(l.length<ar∧ ¬k<its.length))with⟨hl,f1⟩ |hl| ⟨hl,f1⟩
    ·have i4:(l.length:Int)<(ar:Int):=by omega
     have h0:(k:Int)<(its.length:Int):=by omega
     have n2:=HP.out.gt;have g4:=HI.out.hi k (by omega) f1;have a4:=ah g2 a1 (fun _ _ h=>h);obtain⟨gb',a0,h9,i1,a5⟩:=aD a4 (by omega);have a2:w2.heap.size=gb':=by injection a0 with h;injection h with h
     subst a2;have h6:=hid (HP.out.next hl (by rw[je];exact f1));have i3:bg (kE its) k≤its.length:=by have:=pT (t:=kE its) (k:=k) (by rw[je];omega);rw[je]at this;exact this
     obtain⟨e,he⟩: ∃e,bg (kE its) k=e:=⟨_,rfl⟩;rw[he]at g4 h6 i3;have c1:=a5 _ _ (l8 g4);clear a5 he g4 a0;go_wp2_with fail;refine(f2.out wr).mono ?_;rintro en wx ⟨rfl,a6⟩;rw[a6];clear a6 wx;obtain⟨i0,k3,l3,l4,l6⟩:=info_parts rF;go_wp2_with (at_builtin;refine wpList_append_lies _ rfl _ _ _ rfl wo.heap.size 3 i0 _ 1 8 (by kernel_rfl) k3 l3 l4 l6 rfl (by omega) _ l.length (dy l) rfl (b2.alloc _) ⟨wr.heap.size,0,none⟩ 1 1 [.int .i64 k] rfl rfl (World.news_of_block (cs:=#[.int .i64 k]) (t:=3) (fr:=(0,0)) (heap_alloc_new wr _)) (by simp[Value.oneCell']) (by omega) (by unfold maxLen;omega) (by omega) (by simp;omega) (wr.heap.size+1) (by simp) ?_)
     intro gg f5 w5 e8 e0 m2 k9;have j3:But (fun k'=>(Value.slice al l.length cl).ownBlock=some k') wr w5:=(But.alloc _ _ _).trans (aX e0);have a7:But (fun _=>False) wo w5:=a1.next j3 (fun k' hk' h=>absurd (aj b2 k' h) (by omega));have c5:=(a7.cell (p:=⟨w2.heap.size,k,none⟩) (by omega) (fun h=>h)).trans ((a1.cell (p:=⟨w2.heap.size,k,none⟩) (by omega) (fun h=>h)).symm.trans c1);have m0:=a7.size;clear c1;go_wp2_with fail
     go_roundg (ar-(l.length+1))
     case measure=>omega
     case rel=>exact⟨some ⟨gg,0,none⟩,f5,l++ [k],e,by simp,rfl,i3,by simp;omega,by simp;omega,by simp;omega,by rw[List.length_append,vq];exact e8,a7,m0,h6⟩
    ·have i4: ¬(l.length:Int)<(ar:Int):=by omega
     have hD:=HP.out.done (Or.inl hl);have HD:=hid hD;have b0:wr.ownsRow w.heap.size 219 5 (.slice (some ⟨gw,0,none⟩) its.length cap) its.length (bo its'):=ah f0 a1 (fun _ _ h=>h);have a4:=ah g2 a1 (fun _ _ h=>h);have g7:gw<w2.heap.size:=aS g0 gw rfl;obtain⟨gq,d6,i5,i6,c7⟩:=aD b0 (by omega);have b1:gw=gq:=by injection d6 with h;injection h with h
     subst b1;obtain⟨gb',a0,h9,i1,a5⟩:=aD a4 (by omega);have a2:w2.heap.size=gb':=by injection a0 with h;injection h with h
     subst a2;have c4:wr.cell? ⟨gw,p*5+4,none⟩=some (.slice X.pa X.pn X.pc):=c7 _ _ (aL (k:=4) e9.out (by omega));have f4:=kr b0 (p*5+4);obtain⟨ob,e7⟩: ∃ob,bh[p]?=some ob:=⟨_,List.getElem?_eq_getElem (by rw[HI.out.blen];omega)⟩;have cb:=a5 _ _ (l8 e7);have fb:=kr a4 p;have a8:=iY b0 (p*5+4) (.slice al l.length cl);rw[kG e9.out]at a8;have g1:=ah a8 (But.setB _ w2.heap.size p (.int .i64 k)) (fun g hg h=>by simp[Value.ownBlock]at hg;omega);have b4:=ah a4 (But.setB wr gw (p*5+4) (.slice al l.length cl)) (fun g hg h=>by simp[Value.ownBlock]at hg;omega);have b5:=iY b4 p (.int .i64 k);rw[rG]at b5;have a3:But (fun j=>j=gw∨j=w2.heap.size) wr ((wr.setCell ⟨gw,p*5+4,none⟩ (.slice al l.length cl)).setCell ⟨w2.heap.size,p,none⟩ (.int .i64 k)):=((But.setB _ _ _ _).mono (fun _ _ h=>Or.inl h)).trans ((But.setB _ _ _ _).mono (fun _ _ h=>Or.inr h))
     have f6:But (fun _=>False) w ((wr.setCell ⟨gw,p*5+4,none⟩ (.slice al l.length cl)).setCell ⟨w2.heap.size,p,none⟩ (.int .i64 k)):=(f7.trans a1).next a3 (fun j hj h=>by omega);have m1:=a3.size
     have f3:Hid (WpI ((wr.setCell ⟨gw,p*5+4,none⟩ (.slice al l.length cl)).setCell ⟨w2.heap.size,p,none⟩ (.int .i64 k)) (w2.heap.size+1) its (its'.set p {X with pa:=al,pn:=l.length,pc:=cl}) (bh.set p k) p):=by
      have h:=HI.out;have h4:p<its'.length:=by rw[h.len];omega
      refine⟨by rw[List.length_set];exact h.len,by rw[List.length_set];exact h.blen,fun j hj=> ?_,fun j hj1 hj2=> ?_,fun j x x' hj1 hj2 hj3=> ?_⟩
      ·rw[List.getElem?_set_ne (by omega)];exact h.lo j (by omega)
      ·by_cases hjp:p=j
       ·subst hjp;rw[List.getElem?_set_self (by rw[h.blen];omega),HD.out.2]
       ·rw[List.getElem?_set_ne hjp];exact h.hi j (by omega) hj2
      ·by_cases hjp:p=j
       ·subst hjp;rw[HX.out]at hj2;rw[List.getElem?_set_self h4]at hj3
        cases hj2
        cases hj3
        refine⟨rfl,rfl,rfl,rfl,?_⟩;have h1:=World.ownsRow.mono (ah b2 a3 (fun g hg h=>by have:=aj b2 g hg;omega)) (show w2.heap.size+1≤wo.heap.size from by omega);rw[HD.out.1]at h1;rw[←HD.out.1]at h1⊢;exact h1
       ·rw[List.getElem?_set_ne hjp]at hj3;obtain⟨e1,e2,e3,e4,e5⟩:=h.pt j x x' (by omega) hj2 hj3;have e6:=ah e5 a1 (fun _ _ h=>h);exact⟨e1,e2,e3,e4,ah e6 a3 (fun g hg h=>by have:=aj e6 g hg;omega)⟩
     clear c7 a5 d6 a0 a8 b4 e7 hD;go_wp2_with fail;refine(f2.out wr).mono ?_;rintro en wx ⟨rfl,a6⟩;rw[a6];clear a6 wx;go_wp2_with fail
     go_roundg p
     case measure=>omega
     case rel=>exact⟨_,p,_,_,rfl,rfl,by omega,by omega,by omega,g1,b5,f6,by omega,f3⟩
    ·have i4:(l.length:Int)<(ar:Int):=by omega
     have h0: ¬(k:Int)<(its.length:Int):=by omega
     have hD:=HP.out.done (Or.inr (by rw[je];exact f1));have HD:=hid hD;have b0:wr.ownsRow w.heap.size 219 5 (.slice (some ⟨gw,0,none⟩) its.length cap) its.length (bo its'):=ah f0 a1 (fun _ _ h=>h);have a4:=ah g2 a1 (fun _ _ h=>h);have g7:gw<w2.heap.size:=aS g0 gw rfl;obtain⟨gq,d6,i5,i6,c7⟩:=aD b0 (by omega);have b1:gw=gq:=by injection d6 with h;injection h with h
     subst b1;obtain⟨gb',a0,h9,i1,a5⟩:=aD a4 (by omega);have a2:w2.heap.size=gb':=by injection a0 with h;injection h with h
     subst a2;have c4:wr.cell? ⟨gw,p*5+4,none⟩=some (.slice X.pa X.pn X.pc):=c7 _ _ (aL (k:=4) e9.out (by omega));have f4:=kr b0 (p*5+4);obtain⟨ob,e7⟩: ∃ob,bh[p]?=some ob:=⟨_,List.getElem?_eq_getElem (by rw[HI.out.blen];omega)⟩;have cb:=a5 _ _ (l8 e7);have fb:=kr a4 p;have a8:=iY b0 (p*5+4) (.slice al l.length cl);rw[kG e9.out]at a8;have g1:=ah a8 (But.setB _ w2.heap.size p (.int .i64 k)) (fun g hg h=>by simp[Value.ownBlock]at hg;omega);have b4:=ah a4 (But.setB wr gw (p*5+4) (.slice al l.length cl)) (fun g hg h=>by simp[Value.ownBlock]at hg;omega);have b5:=iY b4 p (.int .i64 k);rw[rG]at b5;have a3:But (fun j=>j=gw∨j=w2.heap.size) wr ((wr.setCell ⟨gw,p*5+4,none⟩ (.slice al l.length cl)).setCell ⟨w2.heap.size,p,none⟩ (.int .i64 k)):=((But.setB _ _ _ _).mono (fun _ _ h=>Or.inl h)).trans ((But.setB _ _ _ _).mono (fun _ _ h=>Or.inr h))
     have f6:But (fun _=>False) w ((wr.setCell ⟨gw,p*5+4,none⟩ (.slice al l.length cl)).setCell ⟨w2.heap.size,p,none⟩ (.int .i64 k)):=(f7.trans a1).next a3 (fun j hj h=>by omega);have m1:=a3.size
     have f3:Hid (WpI ((wr.setCell ⟨gw,p*5+4,none⟩ (.slice al l.length cl)).setCell ⟨w2.heap.size,p,none⟩ (.int .i64 k)) (w2.heap.size+1) its (its'.set p {X with pa:=al,pn:=l.length,pc:=cl}) (bh.set p k) p):=by
      have h:=HI.out;have h4:p<its'.length:=by rw[h.len];omega
      refine⟨by rw[List.length_set];exact h.len,by rw[List.length_set];exact h.blen,fun j hj=> ?_,fun j hj1 hj2=> ?_,fun j x x' hj1 hj2 hj3=> ?_⟩
      ·rw[List.getElem?_set_ne (by omega)];exact h.lo j (by omega)
      ·by_cases hjp:p=j
       ·subst hjp;rw[List.getElem?_set_self (by rw[h.blen];omega),HD.out.2]
       ·rw[List.getElem?_set_ne hjp];exact h.hi j (by omega) hj2
      ·by_cases hjp:p=j
       ·subst hjp;rw[HX.out]at hj2;rw[List.getElem?_set_self h4]at hj3
        cases hj2
        cases hj3
        refine⟨rfl,rfl,rfl,rfl,?_⟩;have h1:=World.ownsRow.mono (ah b2 a3 (fun g hg h=>by have:=aj b2 g hg;omega)) (show w2.heap.size+1≤wo.heap.size from by omega);rw[HD.out.1]at h1;rw[←HD.out.1]at h1⊢;exact h1
       ·rw[List.getElem?_set_ne hjp]at hj3;obtain⟨e1,e2,e3,e4,e5⟩:=h.pt j x x' (by omega) hj2 hj3;have e6:=ah e5 a1 (fun _ _ h=>h);exact⟨e1,e2,e3,e4,ah e6 a3 (fun g hg h=>by have:=aj e6 g hg;omega)⟩
     clear c7 a5 d6 a0 a8 b4 e7 hD;go_wp2_with fail;refine(f2.out wr).mono ?_;rintro en wx ⟨rfl,a6⟩;rw[a6];clear a6 wx;go_wp2_with fail
     go_roundg p
     case measure=>omega
     case rel=>exact⟨_,p,_,_,rfl,rfl,by omega,by omega,by omega,g1,b5,f6,by omega,f3⟩
theorem pV (y:Ins):aw (bp y).op=aw y.op:=by
 unfold bp
 split
 ·rename_i h
  simp only[bu,Bool.and_eq_true,decide_eq_true_eq]at h
  show aw 107=aw y.op
  unfold aw;rw[if_neg (show¬y.op.toNat=105 from by omega),if_neg (show¬ [43,45,42,47,60,61,101,112,99,44,111].contains y.op.toNat=true from by simp;omega),if_neg (show¬ [115,103,120,119].contains y.op.toNat=true from by simp;omega)]
  rfl
 ·rfl
theorem zt: ∀{t u:List Ins} {m:Nat},t.map (fun x=>aw x.op)=u.map (fun x=>aw x.op)→sk m t=sk m u:=by
 intro t
 induction t with
 |nil=>intro u m h;cases u with|nil=>rfl|cons y u=>simp at h
 |cons x t ih=>
  intro u m h
  cases u with
  |nil=>simp at h
  |cons y u=>
   simp at h
   cases m with
   |zero=>rfl
   |succ m=>simp only[sk,h.1];rw[ih h.2]
theorem xT (is:List Ins):(kE (is.map bp)).map (fun x=>aw x.op)=is.map (fun x=>aw x.op):=by
 simp only[kE,List.map_map]
 apply List.map_congr_left
 intro y _;exact pV y
theorem vr {t u:List Ins} (h:t.map (fun x=>aw x.op)=u.map (fun x=>aw x.op)) (k:Nat):bg t k=bg u k:=by
 unfold bg;rw[zt (u:=u.drop k) (by simp only[List.map_drop,h])]
theorem vu {t u:List Ins} (h:t.map (fun x=>aw x.op)=u.map (fun x=>aw x.op)): ∀{n k:Nat},cd t n k=cd u n k:=by
 have hl:t.length=u.length:=by have:=congrArg List.length h;simpa using this
 intro n
 induction n with
 |zero=>intro k;rfl
 |succ n ih=>intro k;simp only[cd,hl,vr h,ih]
theorem vv {t u:List Ins} (h:t.map (fun x=>aw x.op)=u.map (fun x=>aw x.op)) (k:Nat):dg t k=dg u k:=by
 have h1:(t.map (fun x=>aw x.op))[k]?=(u.map (fun x=>aw x.op))[k]?:=by rw[h]
 rw[List.getElem?_map,List.getElem?_map]at h1;unfold dg
 cases ht:t[k]? with
 |none=>rw[ht]at h1;cases hu:u[k]? with
  |none=>rfl
  |some y=>rw[hu]at h1;cases h1
 |some x=>rw[ht]at h1;cases hu:u[k]? with
  |none=>rw[hu]at h1;cases h1
  |some y=>
   rw[hu]at h1;simp at h1;simp only[h1];exact vu h
structure jz (w:World) (base:Nat) (its:List XIt) (is:List Ins):Prop where
 len:its.length=is.length
 at': ∀k y x,is[k]?=some y→its[k]?=some x→x.place=(bp y).place∧x.op=(bp y).op∧x.cls=(bp y).cls∧x.num=(bp y).num∧w.ownsRow base 3 1 (.slice x.pa x.pn x.pc) (dg is k).length (dy (dg is k))
theorem jz.mono {w:World} {base base':Nat} {its:List XIt} {is:List Ins} (h:jz w base its is) (hb:base'≤base):jz w base' its is:=
 ⟨h.len,fun k y x hy hx=>by
  obtain⟨e1,e2,e3,e4,e5⟩:=h.at' k y x hy hx;exact⟨e1,e2,e3,e4,World.ownsRow.mono e5 hb⟩⟩
theorem WpI.nodes {w:World} {base:Nat} {is:List Ins} {its':List XIt} {bh:List Nat} (h:WpI w base (is.map bp) its' bh 0):jz w base its' is:=by
 refine⟨by rw[h.len];simp,fun k y x hy hx=> ?_⟩;have h1:=h.pt k (bp y) x (by omega) (by simp[hy]) hx;rw[vv (xT is)]at h1;exact h1
def jV (s:ByteArray) (cs:List Cls) (ns nl i:Nat) (bad:Bool):Except Nat (List Ins×Nat):=if bad=true then .error i else dB s cs ns nl 24 [] 1 i
def NdC (s:ByteArray) (cs:List Cls) (ns nl:Nat) (R:Except Nat (List Ins×Nat)) (its:List XIt) (m j:Nat) (bad:Bool):Prop:=
 (bad=false∧ ∃is,its=is.map bp∧dB s cs ns nl (24-is.length) is m j=R)∨(bad=true∧R= .error j)
section
variable {s:ByteArray} {cs:List Cls} {ns nl:Nat} {R:Except Nat (List Ins×Nat)}
theorem NdC.start {i:Nat} {bad:Bool} (hR:jV s cs ns nl i bad=R):NdC s cs ns nl R [] 1 i bad:=by
 unfold jV at hR
 cases bad with
 |true=>exact Or.inr ⟨rfl,hR.symm⟩
 |false=>exact Or.inl ⟨rfl,[],rfl,hR⟩
theorem NdC.next {its:List XIt} {m j:Nat} (h:NdC s cs ns nl R its (m+1) j false) (hl:its.length<24) {x:XIt} {j':Nat} {bad':Bool} (hx:lj s cs ns nl j false x j' bad'):NdC s cs ns nl R (its++ [x]) (m+aw x.op) j' bad':=by
 rcases h with⟨_,is,rfl,h⟩ | ⟨h,_⟩
 ·obtain⟨d,hd⟩: ∃d,24-is.length=d+1:=⟨24-is.length-1,by simp at hl;omega⟩;rw[hd]at h;simp only[dB]at h;rcases hx with⟨h1,y,h2,h3⟩ | ⟨h1,h2⟩
  ·simp only[pS,Bool.false_eq_true,if_false]at h2;rw[h2]at h;refine Or.inl ⟨h1,is++ [y],by simp[h3],?_⟩;rw[show 24-(is++ [y]).length=d from by simp;omega,h3,pV];exact h
  ·simp only[pS,Bool.false_eq_true,if_false]at h2;rw[h2]at h;exact Or.inr ⟨h1,h.symm⟩
 ·cases h
theorem NdC.full {its:List XIt} {m j:Nat} {bad:Bool} (h:NdC s cs ns nl R its (m+1) j bad) (hl:bad=true∨ ¬its.length<24):R= .error j:=by
 rcases h with⟨h1,is,rfl,h⟩ | ⟨_,h⟩
 ·rcases hl with hl|hl
  ·rw[h1]at hl;cases hl
  ·rw[show 24-is.length=0 from by simp at hl;omega]at h;exact h.symm
 ·exact h
theorem NdC.fin {its:List XIt} {j:Nat} {bad:Bool} (h:NdC s cs ns nl R its 0 j bad):(bad=false∧ ∃is,its=is.map bp∧R= .ok (is,j))∨(bad=true∧R= .error j):=by
 rcases h with⟨h1,is,h2,h⟩ |h
 ·rw[iQ]at h;exact Or.inl ⟨h1,is,h2,h.symm⟩
 ·exact Or.inr h
end
def Bp (s:ByteArray) (SC:List Cls) (a0 a1:Option Addr) (ng nl cap0 cap1:Nat) (v2:RdV) (b sz:Nat) (R:Except Nat (List Ins×Nat)) (en:Ending) (w':World):Prop:=
 ∃ao cap its j bad',en= .returned (.slice ao (List.length its) cap)∧XrB w' b s j bad' (.slice a0 SC.length cap0) (.slice a1 ng cap1) v2∧ItB w' sz (.slice ao (List.length its) cap) its∧its.length≤24∧
  ((bad'=false∧ ∃is,R= .ok (is,j)∧jz w' sz its is)∨(bad'=true∧R= .error j))
theorem mU (b base:Nat) (s:ByteArray) (i:Nat) (bad:Bool) (SC:List Cls) (a0 a1 al:Option Addr) (ng nl cap0 cap1 capl:Nat) (v2:RdV) (w:World)
  (hG:bad=true∨(WfC SC∧TcV w base (.slice a0 SC.length cap0) (SC.map toX))) (hnc:SC.length≤4) (hng:ng≤3) (hnl:nl≤10) (hs:s.size≤2000)
  (hR:XrB w b s i bad (.slice a0 SC.length cap0) (.slice a1 ng cap1) v2) (hv:v2.hl= .slice al nl capl) (hb:b<base):
  Calls Tryz.prog 146 #[.pointer (some ⟨b,0,none⟩)] w fun en w'=>But (· =b) w w'∧Bp s SC a0 a1 ng nl cap0 cap1 v2 b w.heap.size (jV s SC ng nl i bad) en w':=by
 obtain⟨R,f2⟩: ∃R,jV s SC ng nl i bad=R:=⟨_,rfl⟩;rw[f2];have h0:=hid (NdC.start f2);clear f2;obtain⟨i0,i3,i7,j0,j1⟩:=info_parts gY;have j3:=hR.lt;have HG:=hid hG;have g7:=hid (fun(w':World) (i':Nat) (bad':Bool) (h:But (· =b) w w') (hg:bad'=true∨(WfC SC∧TcV w base (.slice a0 SC.length cap0) (SC.map toX))) (hr:XrB w' b s i' bad' (.slice a0 SC.length cap0) (.slice a1 ng cap1) v2)=>vp b base s i' SC a0 a1 al ng nl cap0 cap1 capl v2 w' bad' (hg.imp id (fun q=>⟨q.1,q.2.but h (fun g e cur _ _ hg he=>by omega)⟩)) hnc hng hnl hs hr hv hb);clear hG;have h6:=ItB.empty w;have h7:=hR.but (But.alloc (fun _=>False) w (.cells #[] 219)) (fun h=>h)
 have h5:But (· =b) w (w.alloc (.cells #[] 219)):=But.alloc _ _ _
 go_in
 go_wp2_with fail
 go_loopg [3,4] 24 (fun mm vs ms wr=> ∃(ao:Option Addr) (cap j:Nat) (bad':Bool) (its:List XIt) (m:Nat),vs= .slice ao its.length cap∧ms= .int .i64 m∧m≤100∧its.length+mm≤24∧24≤its.length+mm∧m≤1+3*its.length∧But (· =b) w wr∧XrB wr b s j bad' (.slice a0 SC.length cap0) (.slice a1 ng cap1) v2∧ItB wr w.heap.size (.slice ao its.length cap) its∧Hid (bad'=true∨(WfC SC∧TcV w base (.slice a0 SC.length cap0) (SC.map toX)))∧Hid (NdC s SC ng nl R its m j bad'))
 case atStart=>exact⟨_,0,i,bad,[],1,rfl,rfl,by omega,by simp,by simp,by simp,h5,h7,h6,HG,h0⟩
 case round=>
  obtain⟨ao,cap,j,bad',its,m,rfl,rfl,hm,j5,j7,k0,d6,c7,b3,f7,HC⟩:=hrel;have i6:=d6.size;have j2:=c7.lt;have h4:=c7.c4;have h3:=c7.c3
  cases m with
  |zero=>
   have hz: ¬(0:Int)<0:=by omega
   have HF:=hid HC.out.fin;clear HC;go_wp2_with fail;have a7:ItB wr w.heap.size (.slice ao its.length cap) its:=ah b3 (But.refl (fun k=>k=b) wr) (fun g hg h=>by have:=aj b3 g hg;omega);have g4:=((But.refl (fun k=>k=b) wr)).size;refine(gI w.heap.size its ao cap wr (by omega) a7).mono ?_;rintro en w8 ⟨b1,a4,a3,a2,g0,rfl,b2,a8⟩;have e6:=hid a8;have a5:But (· =b) w w8:=(d6.trans (But.refl (fun k=>k=b) wr)).next b1 (fun _ _ h=>h.elim);have e4:=(c7).but b1 (fun h=>h);have a6:ItB w8 w.heap.size (.slice a4 a2.length a3) a2:=World.ownsRow.mono b2 (by omega);have e1:a2.length≤24:=by have:=a8.len;omega
   have f5:w.heap.size≤(wr).heap.size:=by omega
   clear a8 b2;go_wp2_with fail
   exact cB (.slice a4 a2.length a3) Tryz.results146 rfl rfl ⟨a5,a4,a3,a2,_,_,rfl,e4,a6,e1,by
     rcases HF.out with⟨h1,is,h2,h3⟩ |h
     ·subst h2;exact Or.inl ⟨h1,is,h3,e6.out.nodes.mono f5⟩
     ·exact Or.inr h⟩
  |succ m=>
   have hz:(0:Int)<((m+1:Nat):Int):=by omega
   by_cases hlt:its.length<24
   ·have i4:(its.length:Int)<24:=by omega
    cases bad' with
    |false=>
     have f8:=hid (fun x j' bad'=>HC.out.next hlt (x:=x) (j':=j') (bad':=bad'));clear HC;go_wp2_with fail;refine(g7.out wr j false d6 f7.out c7).mono ?_;rintro en w4 ⟨e7,y,j4,b4,rfl,h8,g1⟩;have f6:=hid (f8.out y j4 b4 g1)
     have g6:Hid (b4=true∨(WfC SC∧TcV w base (.slice a0 SC.length cap0) (SC.map toX))):=by
      refine hid (Or.inr ?_);rcases f7.out with h|h
      ·cases h
      ·exact h
     have e2:But (· =b) w w4:=d6.trans e7;have b6:w4.ownsRow w.heap.size 219 5 (.slice ao its.length cap) its.length (bo its):=ah b3 e7 (fun g hg h=>by have:=aj b3 g hg;omega);have e3:=aj b6;have k3:=e2.size;have k9:=e7.size;clear g1 f8 h4 h3;unfold itV;go_wp2_with (at_builtin;refine wpList_append_lies _ rfl _ _ _ rfl w.heap.size 219 i0 _ 5 48 (by kernel_rfl) i3 i7 j0 j1 rfl (by omega) _ its.length (bo its) rfl ((b6.alloc _).alloc _) ⟨w4.heap.size+1,0,none⟩ 1 1 [.int .i64 y.place,.int .u8 y.op.toNat,.int .u8 y.cls.toNat,.int .i64 y.num,.slice y.pa y.pn y.pc] rfl rfl (World.news_of_block (cs:=#[.int .i64 y.place,.int .u8 y.op.toNat,.int .u8 y.cls.toNat,.int .i64 y.num,.slice y.pa y.pn y.pc]) (t:=219) (fr:=(0,0)) (CB (by simp) _)) (by simp[Value.oneCell']) (by omega) (by unfold maxLen;omega) (by omega) (by simp;omega) (w4.heap.size+2) (by simp) ?_)
     intro gg e0 w5 e5 b0 i2 i5;have g2:But (fun k'=>(Value.slice ao its.length cap).ownBlock=some k') w4 w5:=((But.alloc _ _ _).trans (But.alloc _ _ _)).trans (aX b0);have e8:But (· =b) w w5:=e2.next g2 (fun k' hk' h=>absurd (e3 k' h) (by omega));have h9:=h8.but g2 (fun h=>by have:=e3 _ h;omega)
     have f0:ItB w5 w.heap.size (.slice (some ⟨gg,0,none⟩) (its++ [y]).length e0) (its++ [y]):=by
      unfold ItB;rw[List.length_append,et];exact e5
     have f4:w5.heap[w4.heap.size]?=some (.cells #[.int .i64 y.place,.int .u8 y.op.toNat,.int .u8 y.cls.toNat,.int .i64 y.num,.slice y.pa y.pn y.pc] 219):=by
      have h1:((w4.alloc (.cells #[.int .i64 y.place,.int .u8 y.op.toNat,.int .u8 y.cls.toNat,.int .i64 y.num,.slice y.pa y.pn y.pc] 219)).alloc (.cells #[.int .i64 y.place,.int .u8 y.op.toNat,.int .u8 y.cls.toNat,.int .i64 y.num,.slice y.pa y.pn y.pc] 219)).heap[w4.heap.size]?=some (.cells #[.int .i64 y.place,.int .u8 y.op.toNat,.int .u8 y.cls.toNat,.int .i64 y.num,.slice y.pa y.pn y.pc] 219):=by
       rw[Below.heap_alloc _ _ _ (by simp)];exact heap_alloc_new w4 _
      exact((aX b0).block _ (ae h1) (fun h=>by have:=aS b6 _ h;omega)).trans h1
     obtain⟨x0,x1,x2,x3,x4⟩:=bc f4;have f3:aw y.op≤3:=by unfold aw;split;omega;split;omega;split<;>omega
     have e9:=jd y.op w5;obtain⟨ar,i1⟩: ∃ar,aw y.op=ar:=⟨_,rfl⟩;rw[i1]at e9 f3 f6;have g5:=hid e9;clear e9 b0 i2;go_wp2_with fail;refine g5.out.mono ?_;rintro en wx ⟨rfl,g3⟩;rw[g3];clear g3 wx x0 x1 x2 x3 x4;go_wp2_with fail
     go_roundg (24-(its.length+1))
     case measure=>omega
     case rel=>exact⟨some ⟨gg,0,none⟩,e0,j4,b4,its++ [y],m+ar,by simp,by simp;omega,by omega,by simp;omega,by simp;omega,by simp;omega,e8,h9,f0,g6,f6⟩
    |true=>
     have hE:=HC.out.full (Or.inl rfl);have HE:=hid hE;clear HC hE;go_wp2_with fail;refine(gz b s j true _ _ v2 _ j c7).mono ?_;rintro en w6 ⟨rfl,b5,f1⟩;go_wp2_with fail;have a7:ItB w6 w.heap.size (.slice ao its.length cap) its:=ah b3 b5 (fun g hg h=>by have:=aj b3 g hg;omega);have g4:=(b5).size;refine(gI w.heap.size its ao cap w6 (by omega) a7).mono ?_;rintro en w8 ⟨b1,a4,a3,a2,g0,rfl,b2,a8⟩;have e6:=hid a8;have a5:But (· =b) w w8:=(d6.trans b5).next b1 (fun _ _ h=>h.elim);have e4:=(f1).but b1 (fun h=>h);have a6:ItB w8 w.heap.size (.slice a4 a2.length a3) a2:=World.ownsRow.mono b2 (by omega);have e1:a2.length≤24:=by have:=a8.len;omega
     have f5:w.heap.size≤(w6).heap.size:=by omega
     clear a8 b2;go_wp2_with fail;exact cB (.slice a4 a2.length a3) Tryz.results146 rfl rfl ⟨a5,a4,a3,a2,_,_,rfl,e4,a6,e1,Or.inr ⟨rfl,by simpa using HE.out⟩⟩
   ·have i4: ¬(its.length:Int)<24:=by omega
    have hE:=HC.out.full (Or.inr hlt);have HE:=hid hE;clear HC hE;go_wp2_with fail;refine(gz b s j bad' _ _ v2 _ j c7).mono ?_;rintro en w6 ⟨rfl,b5,f1⟩;go_wp2_with fail;have a7:ItB w6 w.heap.size (.slice ao its.length cap) its:=ah b3 b5 (fun g hg h=>by have:=aj b3 g hg;omega);have g4:=(b5).size;refine(gI w.heap.size its ao cap w6 (by omega) a7).mono ?_;rintro en w8 ⟨b1,a4,a3,a2,g0,rfl,b2,a8⟩;have e6:=hid a8;have a5:But (· =b) w w8:=(d6.trans b5).next b1 (fun _ _ h=>h.elim);have e4:=(f1).but b1 (fun h=>h);have a6:ItB w8 w.heap.size (.slice a4 a2.length a3) a2:=World.ownsRow.mono b2 (by omega);have e1:a2.length≤24:=by have:=a8.len;omega
    have f5:w.heap.size≤(w6).heap.size:=by omega
    clear a8 b2;go_wp2_with fail;exact cB (.slice a4 a2.length a3) Tryz.results146 rfl rfl ⟨a5,a4,a3,a2,_,_,rfl,e4,a6,e1,Or.inr ⟨rfl,by rw[HE.out];simp⟩⟩
end
end Go.Proofs.YtpfkkmacakjmbaaGreatDoor
