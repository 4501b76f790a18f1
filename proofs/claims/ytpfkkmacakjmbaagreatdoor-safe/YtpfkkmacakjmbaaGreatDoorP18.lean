import Derived.Test.YtpfkkmacakjmbaaGreatDoorP13
import Derived.Test.YtpfkkmacakjmbaaGreatDoorP07
set_option maxRecDepth 100000
set_option maxHeartbeats 6400000
set_option linter.all false
namespace Go.Proofs.YtpfkkmacakjmbaaGreatDoor
open Proofs.Tryz
section
open Go Go.RowKit Sp
attribute [local go_sem ↓] dG dH
def bY (x:Ins):XIt:=if cd x.op=true then⟨x.pos,107,45,x.b,none,0,0⟩else bP x
def sC (s:ByteArray) (cs:List Cls) (ns nl i:Nat) (bad:Bool):Except Nat (Ins×Nat):=if bad=true then .error i else nE s cs ns nl i
def nV (s:ByteArray) (cs:List Cls) (ns nl i:Nat) (bad:Bool) (x:XIt) (j:Nat) (bad':Bool):Prop:=
 (bad'=false/\ ∃y,sC s cs ns nl i bad= .ok (y,j)/\x=bY y)\/(bad'=true/\sC s cs ns nl i bad= .error j)
section
variable {s:ByteArray} {cs:List Cls} {ns nl i:Nat}
theorem Ce {bad:Bool} {x:XIt} (h:bad=true\/s.size<=i):nV s cs ns nl i bad x i true:=by
 right
 refine⟨rfl,?_⟩;unfold sC
 cases bad with
 |true=>rfl
 |false=>
  obtain h|h:=h
  .cases h
  .simp only[dj,if_false];unfold nE;rw[pu h]
   rfl
theorem Du {x:XIt} (h:dV.contains (pk s i).toNat=false):nV s cs ns nl i false x i true:=by
 right
 refine⟨rfl,?_⟩;simp only[sC,dj,if_false,nE,h]
theorem yI {c:UInt8} (hc:pk s i=c) (hl:dV.contains c.toNat=true) (hd:cd c=false) (h:bA s cs ns nl c.toNat (i+1)= .ok (0,0,i+1)) (hn: ¬(c.toNat=110\/c.toNat=120\/c.toNat=103\/c.toNat=112\/c.toNat=99)):nV s cs ns nl i false ⟨i,c,45,0,none,0,0⟩ (i+1) false:=by
 left
 refine⟨rfl,⟨c,0,0,i⟩,?_,?_⟩
 .simp only[sC,dj,if_false,nE,hc,hl,if_true,h,hd]
 .unfold bY bP;simp only[hd,dj,if_false,if_neg hn]
theorem yJ {c:UInt8} (hc:pk s i=c) (hl:dV.contains c.toNat=true) (hd:cd c=true) (h:bA s cs ns nl c.toNat (i+1)= .ok (0,0,i+1)):nV s cs ns nl i false ⟨i,107,45,c.toNat-48,none,0,0⟩ (i+1) false:=by
 left
 refine⟨rfl,⟨c,0,c.toNat-48,i⟩,?_,?_⟩
 .simp only[sC,dj,if_false,nE,hc,hl,if_true,h,hd]
 .unfold bY;simp only[hd,if_true]
theorem Cf {c:UInt8} (hc:pk s i=c) (h:c.toNat=108\/c.toNat=115\/c.toNat=110\/c.toNat=120\/c.toNat=103\/c.toNat=112\/c.toNat=99) {x:XIt} {j:Nat} {bad':Bool} (hI:iW s cs ns nl i false x j bad'):nV s cs ns nl i false x j bad':=by
 have hl:cV.contains c.toNat=true:=by rcases h with h|h|h|h|h|h|h<;>(rw[h];decide)
 have a0:dV.contains c.toNat=true:=by rcases h with h|h|h|h|h|h|h<;>(rw[h];decide)
 have hd:cd c=false:=by rcases h with h|h|h|h|h|h|h<;>simp[cd,h]
 unfold iW qE mz at hI;unfold nV sC nE;simp only[dj,if_false,hc,hl,a0,if_true,hd]at hI⊢;obtain⟨h1,y,h2,h3⟩ | ⟨h1,h2⟩:=hI
 .left
  refine⟨h1,y,?_,?_⟩
  .rw[<-h2]
   cases bA s cs ns nl c.toNat (i+1)<;>rfl
  .rw[h3]
   have hy:y.op=c:=by
    cases ho:bA s cs ns nl c.toNat (i+1)with
    |error q=>rw[ho]at h2;cases h2
    |ok q=>rw[ho]at h2;cases h2;rfl
   unfold bY;rw[hy,hd];simp
 .right
  refine⟨h1,?_⟩;rw[<-h2]
  cases bA s cs ns nl c.toNat (i+1)<;>rfl
theorem AV {c:UInt8} {x:XIt} {j:Nat} {bad':Bool} (hnc:cs.length<=4) (hpc:pk s i=c) (hn: ¬(c.toNat=114\/c.toNat=122\/c.toNat=43\/c.toNat=45\/c.toNat=42\/c.toNat=47\/c.toNat=60\/c.toNat=61\/c.toNat=101\/c.toNat=119\/c.toNat=44\/c.toNat=105\/c.toNat=111\/c.toNat=48\/c.toNat=49\/c.toNat=50\/c.toNat=51\/c.toNat=52\/c.toNat=53\/c.toNat=54\/c.toNat=55\/c.toNat=56\/c.toNat=57))
  (h:fQ s cs ns nl i c (i+1) false=(x,j,bad')):nV s cs ns nl i false x j bad':=by
 by_cases h1:c.toNat=108\/c.toNat=115\/c.toNat=110\/c.toNat=120\/c.toNat=103\/c.toNat=112\/c.toNat=99
 .exact Cf hpc h1 (ud hnc hpc (by omega) h)
 .unfold fQ at h;rw[if_neg (by omega),if_neg (by omega),if_neg (by omega),if_neg (by omega)]at h;obtain⟨rfl,rfl,rfl⟩:=(by simpa using h:_/\_/\_)
  try simp only[dj,if_false]
  refine Du ?_;rw[hpc];simp only[dV,List.contains_eq_mem,List.mem_cons,List.not_mem_nil,or_false,decide_eq_false_iff_not];omega
end
theorem lj (c:UInt8) (w:World):
  Calls prog 200 #[.int .u8 c.toNat] w λen w'=>en= .returned (.int .i64 (aA c))/\w'=w:=by
 by_cases h:c.toNat=103\/c.toNat=120\/c.toNat=115\/c.toNat=119\/c.toNat=43\/c.toNat=45\/c.toNat=42\/c.toNat=47\/c.toNat=60\/c.toNat=61\/c.toNat=101\/c.toNat=99\/c.toNat=112\/c.toNat=44\/c.toNat=111\/c.toNat=105
 .obtain h|h|h|h|h|h|h|h|h|h|h|h|h|h|h|h:=h
  all_goals
   have E: ∀j:Int,((c.toNat:Int)==j)=_:=λj=>congrArg (λn:Nat=>((n:Int)==j)) h
   rw[show aA c=_ from by unfold aA;rw[h]];clear h
   go_in
   go_wp2_with fail;go_ret;exact⟨rfl,rfl⟩
 .simp only[not_or]at h;obtain⟨a1,a7,a5,a6,b0,b2,a8,b3,b4,b5,a0,b6,a4,b1,a3,a2⟩:=h;rw[show aA c=0 from by simp[aA,a1,a7,a5,a6,b0,b2,a8,b3,b4,b5,a0,b6,a4,b1,a3,a2]];have E: ∀j:Nat,c.toNat≠j->((c.toNat:Int)==(j:Int))=false:=λj h=>by rw[eA];omega
  have c7:=E 103 a1;have e3:=E 120 a7;have e1:=E 115 a5;have e2:=E 119 a6;have e5:=E 43 b0;have e7:=E 45 b2;have e4:=E 42 a8;have e8:=E 47 b3;have e9:=E 60 b4;have f0:=E 61 b5;have b9:=E 101 a0;have f1:=E 99 b6;have e0:=E 112 a4;have e6:=E 44 b1;have d6:=E 111 a3;have c9:=E 105 a2;clear E a1 a7 a5 a6 b0 b2 a8 b3 b4 b5 a0 b6 a4 b1 a3 a2
  go_in
  go_wp2_with fail;go_ret;exact⟨rfl,rfl⟩
section
variable (b base:Nat) (s:ByteArray) (i:Nat) (SC:List Cls) (a0 a1 al:Option Addr) (ng nl cap0 cap1 capl:Nat) (v2:RdV) (w:World)
theorem Dv (c:UInt8) (hc:c.toNat=114\/c.toNat=122\/c.toNat=43\/c.toNat=45\/c.toNat=42\/c.toNat=47\/c.toNat=60\/c.toNat=61\/c.toNat=101\/c.toNat=119\/c.toNat=44\/c.toNat=105\/c.toNat=111) (hlt:i<s.size) (hpc:pk s i=c) (hnc:SC.length<=4) (hng:ng<=3) (hnl:nl<=10) (hs:s.size<=2000)
  (hR:XrB w b s i false (.slice a0 SC.length cap0) (.slice a1 ng cap1) v2) (hv:v2.hl= .slice al nl capl):
  Calls prog 199 #[.pointer (some ⟨b,0,none⟩)] w λen w'=>But (· =b) w w'/\ ∃x j bad',en= .returned (itV x)/\XrB w' b s j bad' (.slice a0 SC.length cap0) (.slice a1 ng cap1) v2/\nV s SC ng nl i false x j bad':=by
 obtain hc|hc|hc|hc|hc|hc|hc|hc|hc|hc|hc|hc|hc:=hc
 all_goals
  have HC:=hid hc;have E: ∀j:Int,((c.toNat:Int)==j)=_:=λj=>congrArg (λn:Nat=>((n:Int)==j)) hc
  clear hc;have c9:=hR.lt;have p3:=hR.c3;obtain⟨a8,b2,b3⟩:=dS w b c9 #[.int .i64 0,.int .u8 0,.int .u8 0,.int .i64 0,S_] #[.int .i64 i,.int .u8 0,.int .u8 45,.int .i64 0,S_] 219;have b0:=hR.but ((ag (λ_=>False) w (.cells #[.int .i64 0,.int .u8 0,.int .u8 0,.int .i64 0,S_] 219)).trans (ag _ _ (.cells #[.int .i64 i,.int .u8 0,.int .u8 45,.int .i64 0,S_] 219))) (λh=>h);have a6:=hid (iA.mk a8 b2 b3);have a5:=hid (bL b s i false _ _ v2 _ hs b0);rw[jx hlt,hpc]at a5;clear a8 b0 b2 b3
  go_in
  go_wp2_with fail;refine a5.out.mono ?_;rintro en w1 ⟨rfl,b5,b6⟩;have a2:=a6.out.next (by omega) (by omega) b5;obtain⟨q0,q1,q2,q3,q4⟩:=bN a2.item;obtain⟨f0,f1,f2,f3,f4⟩:=cG a2.item;obtain⟨y0,y1,y2,y3,y4⟩:=bN a2.box;obtain⟨g0,g1,g2,g3,g4⟩:=cG a2.box;have b1:=a2.set1 (by omega) (by omega) (.int .u8 c.toNat);have b9:=b6.but (au w1 (w.heap.size+1) 1 (.int .u8 c.toNat)) (by omega);have b4:=hid b1;clear a2 b1 a6 a5 p3;have a7:=hid (b4.out);have c7:=b9;go_wp2_with fail;have a4:=gP a7.out.box (.int .i64 i) (.int .u8 c.toNat) (.int .u8 45) (.int .i64 0) S_;have a3:=iV (w1.setCell ⟨w.heap.size+1,1,none⟩ (.int .u8 c.toNat)) w.heap.size (.int .i64 i) (.int .u8 c.toNat) (.int .u8 45) (.int .i64 0) S_
  unfold sh at a4 a3;revert a4 a3;generalize (((((w1.setCell ⟨w.heap.size+1,1,none⟩ (.int .u8 c.toNat)).setCell ⟨w.heap.size,0,none⟩ (.int .i64 i)).setCell ⟨w.heap.size,1,none⟩ (.int .u8 c.toNat)).setCell ⟨w.heap.size,2,none⟩ (.int .u8 45)).setCell ⟨w.heap.size,3,none⟩ (.int .i64 0)).setCell ⟨w.heap.size,4,none⟩ S_=w9;intro a4 a3;obtain⟨r0,r1,r2,r3,r4⟩:=bN a4;exact cW (v:= .agg #[(.int .i64 i),(.int .u8 c.toNat),(.int .u8 45),(.int .i64 0),S_]) (by simp[results,results199,go_sem,r0,r1,r2,r3,r4]) rfl ⟨a7.out.but.next a3 (λk hk h=>by omega),⟨i,c,45,0,none,0,0⟩,i+1,false,rfl,c7.but a3 (by omega),yI hpc (by rw[HC.out];decide) (by simp[cd,HC.out]) (by rw[HC.out];rfl) (by rw[HC.out];decide)⟩
theorem Dw (c:UInt8) (d:Nat) (hc:d=0\/d=1\/d=2\/d=3\/d=4\/d=5\/d=6\/d=7\/d=8\/d=9) (a6:c.toNat=48+d) (hlt:i<s.size) (hpc:pk s i=c) (hnc:SC.length<=4) (hng:ng<=3) (hnl:nl<=10) (hs:s.size<=2000)
  (hR:XrB w b s i false (.slice a0 SC.length cap0) (.slice a1 ng cap1) v2) (hv:v2.hl= .slice al nl capl):
  Calls prog 199 #[.pointer (some ⟨b,0,none⟩)] w λen w'=>But (· =b) w w'/\ ∃x j bad',en= .returned (itV x)/\XrB w' b s j bad' (.slice a0 SC.length cap0) (.slice a1 ng cap1) v2/\nV s SC ng nl i false x j bad':=by
 obtain hc|hc|hc|hc|hc|hc|hc|hc|hc|hc:=hc
 all_goals
  have HC:=hid (And.intro a6 hc);have E: ∀j:Int,((c.toNat:Int)==j)=_:=λj=>congrArg (λn:Nat=>((n:Int)==j)) (a6.trans (congrArg (48+ ·) hc))
  have e3:(c.toNat:Int)-48=d:=by omega
  have e4:(d:Int)<=9:=by omega
  clear hc a6;have e2:=hR.lt;have p3:=hR.c3;obtain⟨b0,b5,b6⟩:=dS w b e2 #[.int .i64 0,.int .u8 0,.int .u8 0,.int .i64 0,S_] #[.int .i64 i,.int .u8 0,.int .u8 45,.int .i64 0,S_] 219;have b1:=hR.but ((ag (λ_=>False) w (.cells #[.int .i64 0,.int .u8 0,.int .u8 0,.int .i64 0,S_] 219)).trans (ag _ _ (.cells #[.int .i64 i,.int .u8 0,.int .u8 45,.int .i64 0,S_] 219))) (λh=>h);have a7:=hid (iA.mk b0 b5 b6);have a5:=hid (bL b s i false _ _ v2 _ hs b1);rw[jx hlt,hpc]at a5;clear b0 b1 b5 b6
  go_in
  go_wp2_with fail;refine a5.out.mono ?_;rintro en w1 ⟨rfl,c7,c9⟩;have a2:=a7.out.next (by omega) (by omega) c7;obtain⟨q0,q1,q2,q3,q4⟩:=bN a2.item;obtain⟨f0,f1,f2,f3,f4⟩:=cG a2.item;obtain⟨y0,y1,y2,y3,y4⟩:=bN a2.box;obtain⟨g0,g1,g2,g3,g4⟩:=cG a2.box;have b2:=a2.set1 (by omega) (by omega) (.int .u8 c.toNat);have d6:=c9.but (au w1 (w.heap.size+1) 1 (.int .u8 c.toNat)) (by omega);have b9:=hid b2;clear a2 b2 a7 a5 p3;have b3:=b9.out.set3 (by omega) (by omega) (.int .i64 d);have b4:=b3.set1 (by omega) (by omega) (.int .u8 107);have e0:=(d6.but (au _ (w.heap.size+1) 3 (.int .i64 d)) (by omega)).but (au _ (w.heap.size+1) 1 (.int .u8 107)) (by omega)
  have a8:=hid b4;have e1:=e0;clear b3 b4;go_wp2_with fail;have a4:=gP a8.out.box (.int .i64 i) (.int .u8 107) (.int .u8 45) (.int .i64 d) S_;have a3:=iV (((w1.setCell ⟨w.heap.size+1,1,none⟩ (.int .u8 c.toNat)).setCell ⟨w.heap.size+1,3,none⟩ (.int .i64 d)).setCell ⟨w.heap.size+1,1,none⟩ (.int .u8 107)) w.heap.size (.int .i64 i) (.int .u8 107) (.int .u8 45) (.int .i64 d) S_;unfold sh at a4 a3;revert a4 a3;generalize (((((((w1.setCell ⟨w.heap.size+1,1,none⟩ (.int .u8 c.toNat)).setCell ⟨w.heap.size+1,3,none⟩ (.int .i64 d)).setCell ⟨w.heap.size+1,1,none⟩ (.int .u8 107)).setCell ⟨w.heap.size,0,none⟩ (.int .i64 i)).setCell ⟨w.heap.size,1,none⟩ (.int .u8 107)).setCell ⟨w.heap.size,2,none⟩ (.int .u8 45)).setCell ⟨w.heap.size,3,none⟩ (.int .i64 d)).setCell ⟨w.heap.size,4,none⟩ S_=w9
  intro a4 a3;obtain⟨r0,r1,r2,r3,r4⟩:=bN a4;exact cW (v:= .agg #[(.int .i64 i),(.int .u8 107),(.int .u8 45),(.int .i64 d),S_]) (by simp[results,results199,go_sem,r0,r1,r2,r3,r4]) rfl ⟨a8.out.but.next a3 (λk hk h=>by omega),⟨i,107,45,d,none,0,0⟩,i+1,false,rfl,e1.but a3 (by omega),(by have:=yJ (cs:=SC) (ns:=ng) (nl:=nl) hpc (by rw[HC.out.1,HC.out.2];decide) (by simp[cd,HC.out.1,HC.out.2]) (by rw[HC.out.1,HC.out.2];rfl);rw[HC.out.1,Nat.add_sub_cancel_left]at this;exact this)⟩
theorem pT (bad:Bool) (c:UInt8) (j1:Nat) (bad1:Bool) (hT:tbP s i bad=(c,j1,bad1)) (hn: ¬(c.toNat=114\/c.toNat=122\/c.toNat=43\/c.toNat=45\/c.toNat=42\/c.toNat=47\/c.toNat=60\/c.toNat=61\/c.toNat=101\/c.toNat=119\/c.toNat=44\/c.toNat=105\/c.toNat=111\/c.toNat=48\/c.toNat=49\/c.toNat=50\/c.toNat=51\/c.toNat=52\/c.toNat=53\/c.toNat=54\/c.toNat=55\/c.toNat=56\/c.toNat=57)) (hI: ∀x j bad',fQ s SC ng nl i c j1 bad1=(x,j,bad')->nV s SC ng nl i bad x j bad') (hnc:SC.length<=4) (hng:ng<=3) (hnl:nl<=10) (hs:s.size<=2000)
  (hR:XrB w b s i bad (.slice a0 SC.length cap0) (.slice a1 ng cap1) v2) (hv:v2.hl= .slice al nl capl) (hG:c.toNat=103\/c.toNat=112->WfC SC/\TcV w base (.slice a0 SC.length cap0) (SC.map toX)) (hb:b<base):
  Calls prog 199 #[.pointer (some ⟨b,0,none⟩)] w λen w'=>But (· =b) w w'/\ ∃x j bad',en= .returned (itV x)/\XrB w' b s j bad' (.slice a0 SC.length cap0) (.slice a1 ng cap1) v2/\nV s SC ng nl i bad x j bad':=by
 have f8:=hR.lt;have p3:=hR.c3;obtain⟨b4,b9,c7⟩:=dS w b f8 #[.int .i64 0,.int .u8 0,.int .u8 0,.int .i64 0,S_] #[.int .i64 i,.int .u8 0,.int .u8 45,.int .i64 0,S_] 219;have b5:=hR.but ((ag (λ_=>False) w (.cells #[.int .i64 0,.int .u8 0,.int .u8 0,.int .i64 0,S_] 219)).trans (ag _ _ (.cells #[.int .i64 i,.int .u8 0,.int .u8 45,.int .i64 0,S_] 219))) (λh=>h);have b0:=hid (iA.mk b4 b9 c7);have a6:=hid (bL b s i bad _ _ v2 _ hs b5);rw[hT]at a6;have e3:=tf c.toNat 114 (by omega);have e5:=tf c.toNat 122 (by omega);have g6:=tf c.toNat 43 (by omega)
 have h0:=tf c.toNat 45 (by omega);have g5:=tf c.toNat 42 (by omega);have h1:=tf c.toNat 47 (by omega);have i2:=tf c.toNat 60 (by omega);have i3:=tf c.toNat 61 (by omega);have e0:=tf c.toNat 101 (by omega);have e4:=tf c.toNat 119 (by omega);have g7:=tf c.toNat 44 (by omega);have e1:=tf c.toNat 105 (by omega);have e2:=tf c.toNat 111 (by omega);have h2:=tf c.toNat 48 (by omega);have h3:=tf c.toNat 49 (by omega);have h4:=tf c.toNat 50 (by omega);have h5:=tf c.toNat 51 (by omega);have h6:=tf c.toNat 52 (by omega);have h7:=tf c.toNat 53 (by omega);have h8:=tf c.toNat 54 (by omega);have h9:=tf c.toNat 55 (by omega)
 have i0:=tf c.toNat 56 (by omega);have i1:=tf c.toNat 57 (by omega);clear hn;clear b4 b5 b9 c7
 go_in
 go_wp2_with fail;refine a6.out.mono ?_;rintro en w1 ⟨rfl,e6,e9⟩;have a2:=b0.out.next (by omega) (by omega) e6;obtain⟨q0,q1,q2,q3,q4⟩:=bN a2.item;obtain⟨f0,f1,f2,f3,f4⟩:=cG a2.item;obtain⟨y0,y1,y2,y3,y4⟩:=bN a2.box;obtain⟨g0,g1,g2,g3,g4⟩:=cG a2.box;have b6:=a2.set1 (by omega) (by omega) (.int .u8 c.toNat);have f5:=e9.but (au w1 (w.heap.size+1) 1 (.int .u8 c.toNat)) (by omega);have b1:=hid b6;clear a2 b6 b0 a6 p3;have a8:=hid (λh=>hG h);have c9:=hid hI;clear hG hI;have a7:=qZ b base s j1 SC a0 a1 al ng nl cap0 cap1 capl v2 (w1.setCell ⟨w.heap.size+1,1,none⟩ (.int .u8 c.toNat)) i bad1 c hnc hng hnl hs f5 hv (λh=>⟨(a8.out h).1,(a8.out h).2.but b1.out.but (λg e cur _ _ hg he=>by omega)⟩) hb
 unfold itV at a7;have d6:=hid a7;clear a7;go_wp2_with fail;refine d6.out.mono ?_;rintro en w3 ⟨e7,x,j3,b3,rfl,f6,e8⟩;clear q0 q1 q2 q3 q4 f0 f1 f2 f3 f4 y0 y1 y2 y3 y4 g0 g1 g2 g3 g4;have a4:=b1.out.next (by omega) (by omega) e7;obtain⟨q0,q1,q2,q3,q4⟩:=bN a4.item;obtain⟨f0,f1,f2,f3,f4⟩:=cG a4.item;obtain⟨y0,y1,y2,y3,y4⟩:=bN a4.box;obtain⟨g0,g1,g2,g3,g4⟩:=cG a4.box;have b2:=hid (a4);have f7:=f6;go_wp2_with fail;have a5:=gP b2.out.box (.int .i64 x.place) (.int .u8 x.op.toNat) (.int .u8 x.cls.toNat) (.int .i64 x.num) (.slice x.pa x.pn x.pc);have a3:=iV w3 w.heap.size (.int .i64 x.place) (.int .u8 x.op.toNat) (.int .u8 x.cls.toNat) (.int .i64 x.num) (.slice x.pa x.pn x.pc)
 unfold sh at a5 a3;revert a5 a3;generalize ((((w3.setCell ⟨w.heap.size,0,none⟩ (.int .i64 x.place)).setCell ⟨w.heap.size,1,none⟩ (.int .u8 x.op.toNat)).setCell ⟨w.heap.size,2,none⟩ (.int .u8 x.cls.toNat)).setCell ⟨w.heap.size,3,none⟩ (.int .i64 x.num)).setCell ⟨w.heap.size,4,none⟩ (.slice x.pa x.pn x.pc)=w9;intro a5 a3;obtain⟨r0,r1,r2,r3,r4⟩:=bN a5;exact cW (v:= .agg #[(.int .i64 x.place),(.int .u8 x.op.toNat),(.int .u8 x.cls.toNat),(.int .i64 x.num),(.slice x.pa x.pn x.pc)]) (by simp[results,results199,go_sem,r0,r1,r2,r3,r4]) rfl ⟨b2.out.but.next a3 (λk hk h=>by omega),x,j3,b3,rfl,f7.but a3 (by omega),c9.out _ _ _ e8⟩
theorem yK (bad:Bool) (hG:bad=true\/(WfC SC/\TcV w base (.slice a0 SC.length cap0) (SC.map toX))) (hnc:SC.length<=4) (hng:ng<=3) (hnl:nl<=10) (hs:s.size<=2000)
  (hR:XrB w b s i bad (.slice a0 SC.length cap0) (.slice a1 ng cap1) v2) (hv:v2.hl= .slice al nl capl) (hb:b<base):
  Calls prog 199 #[.pointer (some ⟨b,0,none⟩)] w λen w'=>But (· =b) w w'/\ ∃x j bad',en= .returned (itV x)/\XrB w' b s j bad' (.slice a0 SC.length cap0) (.slice a1 ng cap1) v2/\nV s SC ng nl i bad x j bad':=by
 by_cases hz:bad=true\/s.size<=i
 .refine pT b base s i SC a0 a1 al ng nl cap0 cap1 capl v2 w bad 0 i true (kX hz) (by decide) (λx j bad' h=> ?_) hnc hng hnl hs hR hv (λh=>by simp at h) hb;rw[ue]at h;obtain⟨rfl,rfl,rfl⟩:=(by simpa using h:_/\_/\_);exact Ce hz
 have a5:=not_or.1 hz;have a4:bad=false:=by simpa using a5.1
 subst a4;have a2:i<s.size:=by omega
 have a3:WfC SC/\TcV w base (.slice a0 SC.length cap0) (SC.map toX):=by rcases hG with h|h;cases h;exact h
 by_cases ha:(pk s i).toNat=114\/(pk s i).toNat=122\/(pk s i).toNat=43\/(pk s i).toNat=45\/(pk s i).toNat=42\/(pk s i).toNat=47\/(pk s i).toNat=60\/(pk s i).toNat=61\/(pk s i).toNat=101\/(pk s i).toNat=119\/(pk s i).toNat=44\/(pk s i).toNat=105\/(pk s i).toNat=111
 .exact Dv b s i SC a0 a1 al ng nl cap0 cap1 capl v2 w _ ha a2 rfl hnc hng hnl hs hR hv
 by_cases hd:48<=(pk s i).toNat/\(pk s i).toNat<=57
 .exact Dw b s i SC a0 a1 al ng nl cap0 cap1 capl v2 w _ ((pk s i).toNat-48) (by omega) (by omega) a2 rfl hnc hng hnl hs hR hv
 exact pT b base s i SC a0 a1 al ng nl cap0 cap1 capl v2 w false (pk s i) (i+1) false (jx a2) (by omega) (λx j bad' h=>AV hnc rfl (by omega) h) hnc hng hnl hs hR hv (λ_=>a3) hb
end
def eJ (l:List Nat):List Value:=l.map λ(k:Nat)=>Value.int .i64 (k:Int)
def m8 (its:List XIt):List Ins:=its.map λx=>⟨x.op,0,0,0⟩
def di (t:List Ins):Nat->Nat->List Nat
 |0,_=> []
 |n+1,k=>if k<t.length then k::di t n (bO t k)else []
def ek (t:List Ins) (k:Nat):List Nat:=match t[k]? with
 |some x=>di t (aA x.op) (k+1)
 |none=> []
theorem lJ {t:List Ins} {k:Nat} {x:Ins} (h:t[k]?=some x):bO t k=k+1+sk (aA x.op) (t.drop (k+1)):=by
 obtain⟨hl,hg⟩:=bC h;unfold bO;rw[List.drop_eq_getElem_cons hl,hg];simp[sk];omega
theorem m9 {t:List Ins} {m p:Nat}:p+sk (m+1) (t.drop p)=bO t p+sk m (t.drop (bO t p)):=by
 rw[Nat.add_comm m 1,C9,List.drop_drop];unfold bO;omega
theorem Dx {m:Nat}:sk m []=0:=by cases m<;>rfl
theorem sD {t:List Ins} {k:Nat} (h:k<=t.length):bO t k<=t.length:=by
 unfold bO;have:=D5 (t:=t.drop k) (m:=1);rw[List.length_drop]at this;omega
theorem oT {t:List Ins} {k:Nat} (h:k<t.length):k<bO t k:=by
 rw[lJ (aH h)];omega
theorem uw:(prog.info? 3).map (λi=>(i.zero,i.size,i.bytes))=some (some (.int .i64 0),1,8):=by kernel_rfl
theorem AW (n:Nat):madeCells #[.int .i64 0] n=(eJ (List.replicate n 0)).toArray:=by
 apply Array.ext
 .rw[size_madeCells];simp[eJ]
 .intro k h1 h2;have e:k % 1=0:=by omega
  simp[madeCells,e,eJ]
theorem AX (n:Nat) (hn:n<=1000) (w:World):(Instr.makeSlice 217 (.int .i64 (n:Int)) (.int .i64 (n:Int))).run prog w= .ok (.slice (some ⟨w.heap.size,0,none⟩) n n) (w.alloc (.cells (eJ (List.replicate n 0)).toArray 3)):=by
 have a0:=uw
 cases hi:prog.info? 3 with
 |none=>rw[hi]at a0;cases a0
 |some i=>
  rw[hi]at a0;simp only[Option.map_some,Option.some.injEq,Prod.mk.injEq]at a0;obtain⟨hz,hs,hb⟩:=a0;have:=run_make (P:=prog) w 217 3 i _ (by kernel_rfl) hi hz .i64 .i64 n n (by omega) (by omega) (by rw[hb];omega) (by omega);rw[this,hs];simp only[Int.toNat_natCast,Value.cells,Nat.mul_one];rw[AW]
structure WpI (w:World) (base:Nat) (its its':List XIt) (bh:List Nat) (q:Nat):Prop where
 len:its'.length=its.length
 blen:bh.length=its.length
 lo: ∀k,k<q->its'[k]?=its[k]?
 hi: ∀k,q<=k->k<its.length->bh[k]?=some (bO (m8 its) k)
 pt: ∀k x x',q<=k->its[k]?=some x->its'[k]?=some x'->x'.place=x.place/\x'.op=x.op/\x'.cls=x.cls/\x'.num=x.num/\w.ownsRow base 3 1 (.slice x'.pa x'.pn x'.pc) (ek (m8 its) k).length (eJ (ek (m8 its) k))
theorem nj: ∀{l:List XIt} {p:Nat} {x:XIt} (h:l[p]?=some x) (a:Option Addr) (n c:Nat),(bX l).set (p*5+4) (.slice a n c)=bX (l.set p {x with pa:=a,pn:=n,pc:=c}):=by
 intro l
 induction l with
 |nil=>intro p x h;simp at h
 |cons y l ih=>
  intro p x h a n c
  cases p with
  |zero=>
   simp at h;subst h;simp[bX]
  |succ p=>
   have h1:=ih (p:=p) (x:=x) (by simpa using h) a n c;rw[show(p+1)*5+4=(p*5+4)+5 from by omega];simp only[bX,List.flatMap_cons,List.cons_append,List.nil_append,List.set_cons_succ]at h1⊢;rw[h1]
theorem oU {l:List Nat} {k v:Nat} (h:l[k]?=some v):(eJ l)[k]?=some (.int .i64 v):=by simp[eJ,h]
theorem yL (l:List Nat) (k:Nat):eJ (l++ [k])=eJ l++ [.int .i64 k]:=by simp[eJ]
theorem ux (l:List Nat) (p k:Nat):(eJ l).set p (.int .i64 k)=eJ (l.set p k):=by simp[eJ,List.map_set]
theorem ll (its:List XIt):(m8 its).length=its.length:=by simp[m8]
theorem Cg {its:List XIt} {k:Nat} {x:XIt} (h:its[k]?=some x):(m8 its)[k]?=some ⟨x.op,0,0,0⟩:=by simp[m8,h]
structure PtI (t:List Ins) (p ar:Nat) (l:List Nat) (k:Nat):Prop where
 pts:l++di t (ar-l.length) k=ek t p
 fin:k+sk (ar-l.length) (t.drop k)=bO t p
 gt:p<k
 le:k<=t.length
theorem PtI.next {t:List Ins} {p ar:Nat} {l:List Nat} {k:Nat} (h:PtI t p ar l k) (hl:l.length<ar) (hk:k<t.length):PtI t p ar (l++ [k]) (bO t k):=by
 obtain⟨d,hd⟩: ∃d,ar-l.length=d+1:=⟨ar-l.length-1,by omega⟩;have a0:ar-(l++ [k]).length=d:=by simp;omega
 refine⟨?_,?_,?_,sD (by omega)⟩
 .rw[a0,<-h.pts,hd];simp[di,hk]
 .rw[a0,<-h.fin,hd,m9]
 .have:=h.gt;have:=oT hk;omega
theorem PtI.done {t:List Ins} {p ar:Nat} {l:List Nat} {k:Nat} (h:PtI t p ar l k) (hl: ¬l.length<ar\/ ¬k<t.length):l=ek t p/\k=bO t p:=by
 obtain hl|hl:=hl
 .have h0:ar-l.length=0:=by omega
  have h1:=h.pts;have h2:=h.fin;rw[h0]at h1 h2;simp[di,oP]at h1 h2;exact⟨h1,h2⟩
 .have h1:=h.pts;have h2:=h.fin;rw[List.drop_eq_nil_of_le (by omega),Dx]at h2
  cases hd:ar-l.length with
  |zero=>rw[hd]at h1;simp[di]at h1;exact⟨h1,by omega⟩
  |succ d=>rw[hd]at h1;simp[di,hl]at h1;exact⟨h1,by omega⟩
theorem jz (bx:Nat) (its:List XIt) (ai:Option Addr) (capi:Nat) (w:World) (hn:its.length<=24) (hi:ItB w bx (.slice ai its.length capi) its):
  Calls prog 202 #[.slice ai its.length capi] w λen w'=>B_ w w'/\ ∃ao cap its' bh,en= .returned (.slice ao its'.length cap)/\ItB w' w.heap.size (.slice ao its'.length cap) its'/\WpI w' w.heap.size its its' bh 0:=by
 have hE:=ItB.empty w;have m5:=AX its.length (by omega)
 go_in
 go_wp2_with (at_builtin;refine kF rfl _ _ rfl w.heap.size bx _ _ its rfl rfl hE (aj hi (ag (λ_=>False) _ _) (λ_ _ h=>h)) (by omega) (by simp) ?_);intro ao cap w2 f6 h4;have b3:B_ w w2:=(ag (λ_=>False) _ _).next h4 (λk hk h=>by simp[Value.ownBlock]at h;omega);clear hE h4;go_wp2_with fail
 have j1:(w2.alloc (.cells (eJ (List.replicate its.length 0)).toArray 3)).ownsRow w2.heap.size 3 1 (.slice (some ⟨w2.heap.size,0,none⟩) its.length its.length) its.length (eJ (List.replicate its.length 0)):=
  ⟨by simp[eJ],Or.inr ⟨w2.heap.size,its.length,_,rfl,b8 _,aO _ _,by simp[eJ],by unfold maxLen;omega,by simp[eJ],by simp[eJ]⟩⟩
 have i5:B_ w (w2.alloc (.cells (eJ (List.replicate its.length 0)).toArray 3)):=b3.trans (ag _ _ _);have i7:ItB (w2.alloc (.cells (eJ (List.replicate its.length 0)).toArray 3)) w.heap.size (.slice ao its.length cap) its:=aj f6 (ag (λ_=>False) _ _) (λ_ _ h=>h);have n4:(w2.alloc (.cells (eJ (List.replicate its.length 0)).toArray 3)).heap.size=w2.heap.size+1:=by simp
 generalize (w2.alloc (.cells (eJ (List.replicate its.length 0)).toArray 3))=w3 at*;have l4:=b3.size
 go_loopg [5] its.length (λmm js wr=> ∃(v:Int) (q:Nat) (its':List XIt) (bh:List Nat),js= .int .i64 v/\v=(q:Int)-1/\q<=its.length/\q<=mm/\mm<=q/\wr.ownsRow w.heap.size 219 5 (.slice ao its.length cap) its.length (bX its')/\wr.ownsRow w2.heap.size 3 1 (.slice (some ⟨w2.heap.size,0,none⟩) its.length its.length) its.length (eJ bh)/\B_ w wr/\w2.heap.size<wr.heap.size/\Hid (WpI wr (w2.heap.size+1) its its' bh q))
 case atStart=>exact⟨_,its.length,its,_,rfl,rfl,by omega,by omega,by omega,i7,j1,i5,by omega,⟨rfl,by simp,λ_ _=>rfl,λk h1 h2=>absurd h1 (by omega),λk x x' h1 h2 h3=>absurd (bC h2).1 (by omega)⟩⟩
 case round=>
  obtain⟨v,q,its',bh,rfl,hv,i2,i3,n3,e8,f8,f3,n6,HI⟩:=hrel
  cases q with
  |zero=>
   have k0: ¬(0:Int)<=v:=by omega
   have g7:=hid HI.out.len;go_wp2_with fail
   have g2:WpI wr w.heap.size its its' bh 0:=by
    have h:=HI.out
    exact⟨h.len,h.blen,h.lo,h.hi,λk x x' h1 h2 h3=>by
     obtain⟨e1,e2,e3,e4,e5⟩:=h.pt k x x' h1 h2 h3;exact⟨e1,e2,e3,e4,dn e5 (by omega)⟩⟩
   have j3:ItB wr w.heap.size (.slice ao its'.length cap) its':=by
    unfold ItB;rw[g7.out];exact e8
   exact du (.slice ao its.length cap) results202 rfl rfl ⟨f3,ao,cap,its',by rw[g7.out],j3,bh,g2⟩
  |succ p=>
   obtain⟨wo,k9⟩: ∃wo,wo=wr:=⟨_,rfl⟩;subst k9;have k3:v=(p:Int):=by omega
   subst k3;clear hv;obtain⟨X,hX⟩: ∃X,its[p]?=some X:=⟨_,aH (by omega)⟩;have g0:its'[p]?=some X:=by rw[HI.out.lo p (by omega)];exact hX
   have HX:=hid hX;have e7:=hid g0;obtain⟨gw,rfl,g3,j4,h8⟩:=aF e8 (by omega);have q1:wo.cell? ⟨gw,p*5+1,none⟩=some (.int .u8 X.op.toNat):=h8 _ _ (aS (k:=1) g0 (by omega));obtain⟨ar,b6⟩: ∃ar,aA X.op=ar:=⟨_,rfl⟩;have j2:ar<=3:=by rw[<-b6];unfold aA;split;omega;split;omega;split<;>omega
   have h5:PtI (m8 its) p ar [] (p+1):=by
    have h1:=Cg hX;refine⟨?_,?_,by omega,by rw[ll];omega⟩
    .simp only[ek,h1,List.nil_append,List.length_nil,Nat.sub_zero,b6]
    .rw[lJ h1];simp only[List.length_nil,Nat.sub_zero,b6]
   have i4:=hid h5;have f5:=λW=>lj X.op W
   rw[b6]at f5;have f0:=hid f5;have i6:(wo.alloc (.cells #[] 3)).ownsRow wo.heap.size 3 1 (.slice (some ⟨wo.heap.size,0,none⟩) 0 0) ([]:List Nat).length (eJ []):=⟨rfl,Or.inr ⟨wo.heap.size,0,#[],rfl,b8 _,aO wo _,by simp,by unfold maxLen;omega,rfl,rfl⟩⟩;have n2:(p:Int)<(its.length:Int):=by omega
   have n0:(0:Int)<=(p:Int):=by omega
   clear hX g0 h5 f5 b6 h8;go_wp2_with fail
   go_loopg [6,7] ar (λmm ps pv wq=> ∃(al:Option Addr) (cl:Nat) (l:List Nat) (k:Nat),ps= .slice al l.length cl/\pv= .int .i64 k/\k<=its.length/\l.length<=ar/\l.length+mm<=ar/\ar<=l.length+mm/\wq.ownsRow wo.heap.size 3 1 (.slice al l.length cl) l.length (eJ l)/\B_ wo wq/\wo.heap.size<=wq.heap.size/\Hid (PtI (m8 its) p ar l k))
   case atStart=>exact⟨_,0,[],p+1,rfl,by simp,by omega,by simp,by simp,by simp,i6,ag _ _ _,by simp,i4⟩
   case round=>
    obtain⟨al,cl,l,k,rfl,rfl,hk,m2,m3,m4,b2,a1,n5,HP⟩:=hrel;have q1q:=a1.kc q1 g3;obtain⟨hl,e9⟩ |hl| ⟨hl,e9⟩:=(by omega:(l.length<ar/\k<its.length)\/(¬l.length<ar)\/(l.length<ar/\ ¬k<its.length))
    .have i1:(l.length:Int)<(ar:Int):=by omega
     have g5:(k:Int)<(its.length:Int):=by omega
     have n1:=HP.out.gt;have g1:=HI.out.hi k (by omega) e9;have a4:=aj f8 a1 (λ_ _ h=>h);obtain⟨gb',a0,h6,h7,a5⟩:=aF a4 (by omega);have a2:w2.heap.size=gb':=by injection a0 with h;injection h with h
     subst a2;have h0:=hid (HP.out.next hl (by rw[ll];exact e9));have h9:bO (m8 its) k<=its.length:=by have:=sD (t:=m8 its) (k:=k) (by rw[ll];omega);rw[ll]at this;exact this
     obtain⟨e,he⟩: ∃e,bO (m8 its) k=e:=⟨_,rfl⟩;rw[he]at g1 h0 h9;have c1:=a5 _ _ (oU g1);clear a5 he g1 a0;go_wp2_with fail;refine(f0.out wr).mono ?_;rintro en wx ⟨rfl,a6⟩;rw[a6];clear a6 wx;obtain⟨i0,j5,l0,l3,l5⟩:=info_parts uw;go_wp2_with (at_builtin;refine wpList_append_lies _ rfl _ _ _ rfl wo.heap.size 3 i0 _ 1 8 (by kernel_rfl) j5 l0 l3 l5 rfl (by omega) _ l.length (eJ l) rfl (b2.alloc _) ⟨wr.heap.size,0,none⟩ 1 1 [.int .i64 k] rfl rfl (fX (cs:=#[.int .i64 k]) (t:=3) (fr:=(0,0)) (aO wr _)) (by simp[Value.oneCell']) (by omega) (by unfold maxLen;omega) (by omega) (by simp;omega) (wr.heap.size+1) (by simp) ?_)
     intro gg cap3 w5 e0 c9 m1 j7;have j0:But (λk'=>(Value.slice al l.length cl).ownBlock=some k') wr w5:=(ag _ _ _).trans (bc c9);have a7:B_ wo w5:=a1.next j0 (λk' hk' h=>absurd (ay b2 k' h) (by omega));have c5:=(a7.cell (p:=⟨w2.heap.size,k,none⟩) (by omega) (λh=>h)).trans ((a1.cell (p:=⟨w2.heap.size,k,none⟩) (by omega) (λh=>h)).symm.trans c1);have l6:=a7.size;clear c1;go_wp2_with fail
     go_roundg (ar-(l.length+1))
     case measure=>omega
     case rel=>exact⟨some ⟨gg,0,none⟩,cap3,l++ [k],e,by simp,rfl,h9,by simp;omega,by simp;omega,by simp;omega,by rw[aZ,yL];exact e0,a7,l6,h0⟩
    .have i1: ¬(l.length:Int)<(ar:Int):=by omega
     have hD:=HP.out.done (Or.inl hl);have HD:=hid hD;have b0:wr.ownsRow w.heap.size 219 5 (.slice (some ⟨gw,0,none⟩) its.length cap) its.length (bX its'):=aj e8 a1 (λ_ _ h=>h);have a4:=aj f8 a1 (λ_ _ h=>h);have g4:gw<w2.heap.size:=aW f6 gw rfl;obtain⟨gq,c7,i2,i3,b9⟩:=aF b0 (by omega);have b1:gw=gq:=by injection c7 with h;injection h with h
     subst b1;obtain⟨gb',a0,h6,h7,a5⟩:=aF a4 (by omega);have a2:w2.heap.size=gb':=by injection a0 with h;injection h with h
     subst a2;have c4:wr.cell? ⟨gw,p*5+4,none⟩=some (.slice X.pa X.pn X.pc):=b9 _ _ (aS (k:=4) e7.out (by omega));have f4:=gU b0 (p*5+4);obtain⟨ob,d6⟩: ∃ob,bh[p]?=some ob:=⟨_,aH (by rw[HI.out.blen];omega)⟩;have cb:=a5 _ _ (oU d6);have fb:=gU a4 p;have a8:=iR b0 (p*5+4) (.slice al l.length cl);rw[nj e7.out]at a8;have f7:=aj a8 (au _ w2.heap.size p (.int .i64 k)) (λg hg h=>by simp[Value.ownBlock]at hg;omega);have b4:=aj a4 (au wr gw (p*5+4) (.slice al l.length cl)) (λg hg h=>by simp[Value.ownBlock]at hg;omega);have b5:=iR b4 p (.int .i64 k);rw[ux]at b5;have a3:But (λj=>j=gw\/j=w2.heap.size) wr ((wr.setCell ⟨gw,p*5+4,none⟩ (.slice al l.length cl)).setCell ⟨w2.heap.size,p,none⟩ (.int .i64 k)):=((au _ _ _ _).mono (λ_ _ h=>Or.inl h)).trans ((au _ _ _ _).mono (λ_ _ h=>Or.inr h))
     have f2:B_ w ((wr.setCell ⟨gw,p*5+4,none⟩ (.slice al l.length cl)).setCell ⟨w2.heap.size,p,none⟩ (.int .i64 k)):=(f3.trans a1).next a3 (λj hj h=>by omega);have m0:=a3.size
     have f1:Hid (WpI ((wr.setCell ⟨gw,p*5+4,none⟩ (.slice al l.length cl)).setCell ⟨w2.heap.size,p,none⟩ (.int .i64 k)) (w2.heap.size+1) its (its'.set p {X with pa:=al,pn:=l.length,pc:=cl}) (bh.set p k) p):=by
      have h:=HI.out;have g6:p<its'.length:=by rw[h.len];omega
      refine⟨by rw[List.length_set];exact h.len,by rw[List.length_set];exact h.blen,λj hj=> ?_,λj hj1 hj2=> ?_,λj x x' hj1 hj2 hj3=> ?_⟩
      .rw[List.getElem?_set_ne (by omega)];exact h.lo j (by omega)
      .by_cases hjp:p=j
       .subst hjp;rw[List.getElem?_set_self (by rw[h.blen];omega),HD.out.2]
       .rw[List.getElem?_set_ne hjp];exact h.hi j (by omega) hj2
      .by_cases hjp:p=j
       .subst hjp;rw[HX.out]at hj2;rw[List.getElem?_set_self g6]at hj3
        cases hj2
        cases hj3
        refine⟨rfl,rfl,rfl,rfl,?_⟩;have h1:=dn (aj b2 a3 (λg hg h=>by have:=ay b2 g hg;omega)) (show w2.heap.size+1<=wo.heap.size from by omega);rw[HD.out.1]at h1;rw[<-HD.out.1]at h1⊢;exact h1
       .rw[List.getElem?_set_ne hjp]at hj3;obtain⟨e1,e2,e3,e4,e5⟩:=h.pt j x x' (by omega) hj2 hj3;have e6:=aj e5 a1 (λ_ _ h=>h);exact⟨e1,e2,e3,e4,aj e6 a3 (λg hg h=>by have:=ay e6 g hg;omega)⟩
     clear b9 a5 c7 a0 a8 b4 d6 hD;go_wp2_with fail;refine(f0.out wr).mono ?_;rintro en wx ⟨rfl,a6⟩;rw[a6];clear a6 wx;go_wp2_with fail
     go_roundg p
     case measure=>omega
     case rel=>exact⟨_,p,_,_,rfl,rfl,by omega,by omega,by omega,f7,b5,f2,by omega,f1⟩
    .have i1:(l.length:Int)<(ar:Int):=by omega
     have g5: ¬(k:Int)<(its.length:Int):=by omega
     have hD:=HP.out.done (Or.inr (by rw[ll];exact e9));have HD:=hid hD;have b0:wr.ownsRow w.heap.size 219 5 (.slice (some ⟨gw,0,none⟩) its.length cap) its.length (bX its'):=aj e8 a1 (λ_ _ h=>h);have a4:=aj f8 a1 (λ_ _ h=>h);have g4:gw<w2.heap.size:=aW f6 gw rfl;obtain⟨gq,c7,i2,i3,b9⟩:=aF b0 (by omega);have b1:gw=gq:=by injection c7 with h;injection h with h
     subst b1;obtain⟨gb',a0,h6,h7,a5⟩:=aF a4 (by omega);have a2:w2.heap.size=gb':=by injection a0 with h;injection h with h
     subst a2;have c4:wr.cell? ⟨gw,p*5+4,none⟩=some (.slice X.pa X.pn X.pc):=b9 _ _ (aS (k:=4) e7.out (by omega));have f4:=gU b0 (p*5+4);obtain⟨ob,d6⟩: ∃ob,bh[p]?=some ob:=⟨_,aH (by rw[HI.out.blen];omega)⟩;have cb:=a5 _ _ (oU d6);have fb:=gU a4 p;have a8:=iR b0 (p*5+4) (.slice al l.length cl);rw[nj e7.out]at a8;have f7:=aj a8 (au _ w2.heap.size p (.int .i64 k)) (λg hg h=>by simp[Value.ownBlock]at hg;omega);have b4:=aj a4 (au wr gw (p*5+4) (.slice al l.length cl)) (λg hg h=>by simp[Value.ownBlock]at hg;omega);have b5:=iR b4 p (.int .i64 k);rw[ux]at b5;have a3:But (λj=>j=gw\/j=w2.heap.size) wr ((wr.setCell ⟨gw,p*5+4,none⟩ (.slice al l.length cl)).setCell ⟨w2.heap.size,p,none⟩ (.int .i64 k)):=((au _ _ _ _).mono (λ_ _ h=>Or.inl h)).trans ((au _ _ _ _).mono (λ_ _ h=>Or.inr h))
     have f2:B_ w ((wr.setCell ⟨gw,p*5+4,none⟩ (.slice al l.length cl)).setCell ⟨w2.heap.size,p,none⟩ (.int .i64 k)):=(f3.trans a1).next a3 (λj hj h=>by omega);have m0:=a3.size
     have f1:Hid (WpI ((wr.setCell ⟨gw,p*5+4,none⟩ (.slice al l.length cl)).setCell ⟨w2.heap.size,p,none⟩ (.int .i64 k)) (w2.heap.size+1) its (its'.set p {X with pa:=al,pn:=l.length,pc:=cl}) (bh.set p k) p):=by
      have h:=HI.out;have g6:p<its'.length:=by rw[h.len];omega
      refine⟨by rw[List.length_set];exact h.len,by rw[List.length_set];exact h.blen,λj hj=> ?_,λj hj1 hj2=> ?_,λj x x' hj1 hj2 hj3=> ?_⟩
      .rw[List.getElem?_set_ne (by omega)];exact h.lo j (by omega)
      .by_cases hjp:p=j
       .subst hjp;rw[List.getElem?_set_self (by rw[h.blen];omega),HD.out.2]
       .rw[List.getElem?_set_ne hjp];exact h.hi j (by omega) hj2
      .by_cases hjp:p=j
       .subst hjp;rw[HX.out]at hj2;rw[List.getElem?_set_self g6]at hj3
        cases hj2
        cases hj3
        refine⟨rfl,rfl,rfl,rfl,?_⟩;have h1:=dn (aj b2 a3 (λg hg h=>by have:=ay b2 g hg;omega)) (show w2.heap.size+1<=wo.heap.size from by omega);rw[HD.out.1]at h1;rw[<-HD.out.1]at h1⊢;exact h1
       .rw[List.getElem?_set_ne hjp]at hj3;obtain⟨e1,e2,e3,e4,e5⟩:=h.pt j x x' (by omega) hj2 hj3;have e6:=aj e5 a1 (λ_ _ h=>h);exact⟨e1,e2,e3,e4,aj e6 a3 (λg hg h=>by have:=ay e6 g hg;omega)⟩
     clear b9 a5 c7 a0 a8 b4 d6 hD;go_wp2_with fail;refine(f0.out wr).mono ?_;rintro en wx ⟨rfl,a6⟩;rw[a6];clear a6 wx;go_wp2_with fail
     go_roundg p
     case measure=>omega
     case rel=>exact⟨_,p,_,_,rfl,rfl,by omega,by omega,by omega,f7,b5,f2,by omega,f1⟩
theorem sE (y:Ins):aA (bY y).op=aA y.op:=by
 unfold bY
 split
 .rename_i h
  simp only[cd,et,ed]at h
  show aA 107=aA y.op
  unfold aA;rw[if_neg (show¬y.op.toNat=105 from by omega),if_neg (show¬ [43,45,42,47,60,61,101,112,99,44,111].contains y.op.toNat=true from by simp;omega),if_neg (show¬ [115,103,120,119].contains y.op.toNat=true from by simp;omega)]
  rfl
 .rfl
theorem Ch: ∀{t u:List Ins} {m:Nat},t.map (λx=>aA x.op)=u.map (λx=>aA x.op)->sk m t=sk m u:=by
 intro t
 induction t with
 |nil=>intro u m h;cases u with|nil=>rfl|cons y u=>simp at h
 |cons x t ih=>
  intro u m h
  cases u with
  |nil=>simp at h
  |cons y u=>
   simp at h
   cases m with
   |zero=>rfl
   |succ m=>simp only[sk,h.1];rw[ih h.2]
theorem AY (is:List Ins):(m8 (is.map bY)).map (λx=>aA x.op)=is.map (λx=>aA x.op):=by
 simp only[m8,List.map_map]
 apply List.map_congr_left
 intro y _;exact sE y
theorem yM {t u:List Ins} (h:t.map (λx=>aA x.op)=u.map (λx=>aA x.op)) (k:Nat):bO t k=bO u k:=by
 unfold bO;rw[Ch (u:=u.drop k) (by simp only[List.map_drop,h])]
theorem yN {t u:List Ins} (h:t.map (λx=>aA x.op)=u.map (λx=>aA x.op)): ∀{n k:Nat},di t n k=di u n k:=by
 have hl:t.length=u.length:=by have:=congrArg List.length h;simpa using this
 intro n
 induction n with
 |zero=>intro k;rfl
 |succ n ih=>intro k;simp only[di,hl,yM h,ih]
theorem yO {t u:List Ins} (h:t.map (λx=>aA x.op)=u.map (λx=>aA x.op)) (k:Nat):ek t k=ek u k:=by
 have h1:(t.map (λx=>aA x.op))[k]?=(u.map (λx=>aA x.op))[k]?:=by rw[h]
 rw[cg,cg]at h1;unfold ek
 cases ht:t[k]? with
 |none=>rw[ht]at h1;cases hu:u[k]? with
  |none=>rfl
  |some y=>rw[hu]at h1;cases h1
 |some x=>rw[ht]at h1;cases hu:u[k]? with
  |none=>rw[hu]at h1;cases h1
  |some y=>
   rw[hu]at h1;simp at h1;simp only[h1];exact yN h
structure lN (w:World) (base:Nat) (its:List XIt) (is:List Ins):Prop where
 len:its.length=is.length
 at': ∀k y x,is[k]?=some y->its[k]?=some x->x.place=(bY y).place/\x.op=(bY y).op/\x.cls=(bY y).cls/\x.num=(bY y).num/\w.ownsRow base 3 1 (.slice x.pa x.pn x.pc) (ek is k).length (eJ (ek is k))
theorem lN.mono {w:World} {base base':Nat} {its:List XIt} {is:List Ins} (h:lN w base its is) (hb:base'<=base):lN w base' its is:=
 ⟨h.len,λk y x hy hx=>by
  obtain⟨e1,e2,e3,e4,e5⟩:=h.at' k y x hy hx;exact⟨e1,e2,e3,e4,dn e5 hb⟩⟩
theorem WpI.nodes {w:World} {base:Nat} {is:List Ins} {its':List XIt} {bh:List Nat} (h:WpI w base (is.map bY) its' bh 0):lN w base its' is:=by
 refine⟨by rw[h.len];simp,λk y x hy hx=> ?_⟩;have h1:=h.pt k (bY y) x (by omega) (by simp[hy]) hx;rw[yO (AY is)]at h1;exact h1
def mq (s:ByteArray) (cs:List Cls) (ns nl i:Nat) (bad:Bool):Except Nat (List Ins×Nat):=if bad=true then .error i else eO s cs ns nl 24 [] 1 i
def NdC (s:ByteArray) (cs:List Cls) (ns nl:Nat) (R:Except Nat (List Ins×Nat)) (its:List XIt) (m j:Nat) (bad:Bool):Prop:=
 (bad=false/\ ∃is,its=is.map bY/\eO s cs ns nl (24-is.length) is m j=R)\/(bad=true/\R= .error j)
section
variable {s:ByteArray} {cs:List Cls} {ns nl:Nat} {R:Except Nat (List Ins×Nat)}
theorem NdC.start {i:Nat} {bad:Bool} (hR:mq s cs ns nl i bad=R):NdC s cs ns nl R [] 1 i bad:=by
 unfold mq at hR
 cases bad with
 |true=>exact Or.inr ⟨rfl,hR.symm⟩
 |false=>exact Or.inl ⟨rfl,[],rfl,hR⟩
theorem NdC.next {its:List XIt} {m j:Nat} (h:NdC s cs ns nl R its (m+1) j false) (hl:its.length<24) {x:XIt} {j':Nat} {bad':Bool} (hx:nV s cs ns nl j false x j' bad'):NdC s cs ns nl R (its++ [x]) (m+aA x.op) j' bad':=by
 obtain⟨_,is,rfl,h⟩ | ⟨h,_⟩:=h
 .obtain⟨d,hd⟩: ∃d,24-is.length=d+1:=⟨24-is.length-1,by simp at hl;omega⟩;rw[hd]at h;simp only[eO]at h;obtain⟨h1,y,h2,h3⟩ | ⟨h1,h2⟩:=hx
  .simp only[sC,dj,if_false]at h2;rw[h2]at h;refine Or.inl ⟨h1,is++ [y],by simp[h3],?_⟩;rw[show 24-(is++ [y]).length=d from by simp;omega,h3,sE];exact h
  .simp only[sC,dj,if_false]at h2;rw[h2]at h;exact Or.inr ⟨h1,h.symm⟩
 .cases h
theorem NdC.full {its:List XIt} {m j:Nat} {bad:Bool} (h:NdC s cs ns nl R its (m+1) j bad) (hl:bad=true\/ ¬its.length<24):R= .error j:=by
 obtain⟨h1,is,rfl,h⟩ | ⟨_,h⟩:=h
 .obtain hl|hl:=hl
  .rw[h1]at hl;cases hl
  .rw[show 24-is.length=0 from by simp at hl;omega]at h;exact h.symm
 .exact h
theorem NdC.fin {its:List XIt} {j:Nat} {bad:Bool} (h:NdC s cs ns nl R its 0 j bad):(bad=false/\ ∃is,its=is.map bY/\R= .ok (is,j))\/(bad=true/\R= .error j):=by
 obtain⟨h1,is,h2,h⟩ |h:=h
 .rw[kO]at h;exact Or.inl ⟨h1,is,h2,h.symm⟩
 .exact Or.inr h
end
def E7 (s:ByteArray) (SC:List Cls) (a0 a1:Option Addr) (ng nl cap0 cap1:Nat) (v2:RdV) (b sz:Nat) (R:Except Nat (List Ins×Nat)) (en:Ending) (w':World):Prop:=
 ∃ao cap its j bad',en= .returned (.slice ao (List.length its) cap)/\XrB w' b s j bad' (.slice a0 SC.length cap0) (.slice a1 ng cap1) v2/\ItB w' sz (.slice ao (List.length its) cap) its/\its.length<=24/\
  ((bad'=false/\ ∃is,R= .ok (is,j)/\lN w' sz its is)\/(bad'=true/\R= .error j))
theorem pV (b base:Nat) (s:ByteArray) (i:Nat) (bad:Bool) (SC:List Cls) (a0 a1 al:Option Addr) (ng nl cap0 cap1 capl:Nat) (v2:RdV) (w:World)
  (hG:bad=true\/(WfC SC/\TcV w base (.slice a0 SC.length cap0) (SC.map toX))) (hnc:SC.length<=4) (hng:ng<=3) (hnl:nl<=10) (hs:s.size<=2000)
  (hR:XrB w b s i bad (.slice a0 SC.length cap0) (.slice a1 ng cap1) v2) (hv:v2.hl= .slice al nl capl) (hb:b<base):
  Calls prog 146 #[.pointer (some ⟨b,0,none⟩)] w λen w'=>But (· =b) w w'/\E7 s SC a0 a1 ng nl cap0 cap1 v2 b w.heap.size (mq s SC ng nl i bad) en w':=by
 obtain⟨R,e9⟩: ∃R,mq s SC ng nl i bad=R:=⟨_,rfl⟩;rw[e9];have g5:=hid (NdC.start e9);clear e9;obtain⟨i0,h9,i4,i5,i6⟩:=info_parts jO;have j0:=hR.lt;have HG:=hid hG;have g4:=hid (λ(w':World) (i':Nat) (bad':Bool) (h:But (· =b) w w') (hg:bad'=true\/(WfC SC/\TcV w base (.slice a0 SC.length cap0) (SC.map toX))) (hr:XrB w' b s i' bad' (.slice a0 SC.length cap0) (.slice a1 ng cap1) v2)=>yK b base s i' SC a0 a1 al ng nl cap0 cap1 capl v2 w' bad' (hg.imp id (λq=>⟨q.1,q.2.but h (λg e cur _ _ hg he=>by omega)⟩)) hnc hng hnl hs hr hv hb);clear hG;have g7:=ItB.empty w;have h0:=hR.but (ag (λ_=>False) w (.cells #[] 219)) (λh=>h)
 have g6:But (· =b) w (w.alloc (.cells #[] 219)):=ag _ _ _
 go_in
 go_wp2_with fail
 go_loopg [3,4] 24 (λmm vs ms wr=> ∃(ao:Option Addr) (cap j:Nat) (bad':Bool) (its:List XIt) (m:Nat),vs= .slice ao its.length cap/\ms= .int .i64 m/\m<=100/\its.length+mm<=24/\24<=its.length+mm/\m<=1+3*its.length/\But (· =b) w wr/\XrB wr b s j bad' (.slice a0 SC.length cap0) (.slice a1 ng cap1) v2/\ItB wr w.heap.size (.slice ao its.length cap) its/\Hid (bad'=true\/(WfC SC/\TcV w base (.slice a0 SC.length cap0) (SC.map toX)))/\Hid (NdC s SC ng nl R its m j bad'))
 case atStart=>exact⟨_,0,i,bad,[],1,rfl,rfl,by omega,by simp,by simp,by simp,g6,h0,g7,HG,g5⟩
 case round=>
  obtain⟨ao,cap,j,bad',its,m,rfl,rfl,hm,j1,j2,j3,c7,b9,b3,f4,HC⟩:=hrel;have i3:=c7.size;have i7:=b9.lt;have h4:=b9.c4;have h3:=b9.c3
  cases m with
  |zero=>
   have hz: ¬(0:Int)<0:=by omega
   have HF:=hid HC.out.fin;clear HC;go_wp2_with fail;have a7:ItB wr w.heap.size (.slice ao its.length cap) its:=aj b3 (But.refl (λk=>k=b) wr) (λg hg h=>by have:=ay b3 g hg;omega);have g1:=((But.refl (λk=>k=b) wr)).size;refine(jz w.heap.size its ao cap wr (by omega) a7).mono ?_;rintro en w8 ⟨b1,a4,a3,a2,f6,rfl,b2,a8⟩;have e3:=hid a8;have a5:But (· =b) w w8:=(c7.trans (But.refl (λk=>k=b) wr)).next b1 (λ_ _ h=>h.elim);have e1:=(b9).but b1 (λh=>h);have a6:ItB w8 w.heap.size (.slice a4 a2.length a3) a2:=dn b2 (by omega);have c9:a2.length<=24:=by have:=a8.len;omega
   have f2:w.heap.size<=(wr).heap.size:=by omega
   clear a8 b2;go_wp2_with fail
   exact du (.slice a4 a2.length a3) results146 rfl rfl ⟨a5,a4,a3,a2,_,_,rfl,e1,a6,c9,by
     obtain⟨h1,is,h2,h3⟩ |h:=HF.out
     .subst h2;exact Or.inl ⟨h1,is,h3,e3.out.nodes.mono f2⟩
     .exact Or.inr h⟩
  |succ m=>
   have hz:(0:Int)<((m+1:Nat):Int):=by omega
   by_cases hlt:its.length<24
   .have i1:(its.length:Int)<24:=by omega
    cases bad' with
    |false=>
     have f5:=hid (λx j' bad'=>HC.out.next hlt (x:=x) (j':=j') (bad':=bad'));clear HC;go_wp2_with fail;refine(g4.out wr j false c7 f4.out b9).mono ?_;rintro en w4 ⟨e4,y,j4,b4,rfl,h5,f7⟩;have f3:=hid (f5.out y j4 b4 f7)
     have g3:Hid (b4=true\/(WfC SC/\TcV w base (.slice a0 SC.length cap0) (SC.map toX))):=by
      refine hid (Or.inr ?_);obtain h|h:=f4.out
      .cases h
      .exact h
     have d6:But (· =b) w w4:=c7.trans e4;have b6:w4.ownsRow w.heap.size 219 5 (.slice ao its.length cap) its.length (bX its):=aj b3 e4 (λg hg h=>by have:=ay b3 g hg;omega);have e0:=ay b6;have j5:=d6.size;have j7:=e4.size;clear f7 f5 h4 h3;unfold itV;go_wp2_with (at_builtin;refine wpList_append_lies _ rfl _ _ _ rfl w.heap.size 219 i0 _ 5 48 (by kernel_rfl) h9 i4 i5 i6 rfl (by omega) _ its.length (bX its) rfl ((b6.alloc _).alloc _) ⟨w4.heap.size+1,0,none⟩ 1 1 [.int .i64 y.place,.int .u8 y.op.toNat,.int .u8 y.cls.toNat,.int .i64 y.num,.slice y.pa y.pn y.pc] rfl rfl (fX (cs:=#[.int .i64 y.place,.int .u8 y.op.toNat,.int .u8 y.cls.toNat,.int .i64 y.num,.slice y.pa y.pn y.pc]) (t:=219) (fr:=(0,0)) (aB (by simp) _)) (by simp[Value.oneCell']) (by omega) (by unfold maxLen;omega) (by omega) (by simp;omega) (w4.heap.size+2) (by simp) ?_)
     intro gg cap3 w5 e2 b0 h8 i2;have f8:But (λk'=>(Value.slice ao its.length cap).ownBlock=some k') w4 w5:=((ag _ _ _).trans (ag _ _ _)).trans (bc b0);have e5:But (· =b) w w5:=d6.next f8 (λk' hk' h=>absurd (e0 k' h) (by omega));have h6:=h5.but f8 (λh=>by have:=e0 _ h;omega)
     have e7:ItB w5 w.heap.size (.slice (some ⟨gg,0,none⟩) (its++ [y]).length cap3) (its++ [y]):=by
      unfold ItB;rw[aZ,f9];exact e2
     have f1:w5.heap[w4.heap.size]?=some (.cells #[.int .i64 y.place,.int .u8 y.op.toNat,.int .u8 y.cls.toNat,.int .i64 y.num,.slice y.pa y.pn y.pc] 219):=by
      have h1:((w4.alloc (.cells #[.int .i64 y.place,.int .u8 y.op.toNat,.int .u8 y.cls.toNat,.int .i64 y.num,.slice y.pa y.pn y.pc] 219)).alloc (.cells #[.int .i64 y.place,.int .u8 y.op.toNat,.int .u8 y.cls.toNat,.int .i64 y.num,.slice y.pa y.pn y.pc] 219)).heap[w4.heap.size]?=some (.cells #[.int .i64 y.place,.int .u8 y.op.toNat,.int .u8 y.cls.toNat,.int .i64 y.num,.slice y.pa y.pn y.pc] 219):=by
       rw[Below.heap_alloc _ _ _ (by simp)];exact aO w4 _
      exact((bc b0).block _ (ae h1) (λh=>by have:=aW b6 _ h;omega)).trans h1
     obtain⟨x0,x1,x2,x3,x4⟩:=bN f1;have f0:aA y.op<=3:=by unfold aA;split;omega;split;omega;split<;>omega
     have e6:=lj y.op w5;obtain⟨ar,h7⟩: ∃ar,aA y.op=ar:=⟨_,rfl⟩;rw[h7]at e6 f0 f3;have g2:=hid e6;clear e6 b0 h8;go_wp2_with fail;refine g2.out.mono ?_;rintro en wx ⟨rfl,g0⟩;rw[g0];clear g0 wx x0 x1 x2 x3 x4;go_wp2_with fail
     go_roundg (24-(its.length+1))
     case measure=>omega
     case rel=>exact⟨some ⟨gg,0,none⟩,cap3,j4,b4,its++ [y],m+ar,by simp,by simp;omega,by omega,by simp;omega,by simp;omega,by simp;omega,e5,h6,e7,g3,f3⟩
    |true=>
     have hE:=HC.out.full (Or.inl rfl);have HE:=hid hE;clear HC hE;go_wp2_with fail;refine(jo b s j true _ _ v2 _ j b9).mono ?_;rintro en w6 ⟨rfl,b5,e8⟩;go_wp2_with fail;have a7:ItB w6 w.heap.size (.slice ao its.length cap) its:=aj b3 b5 (λg hg h=>by have:=ay b3 g hg;omega);have g1:=(b5).size;refine(jz w.heap.size its ao cap w6 (by omega) a7).mono ?_;rintro en w8 ⟨b1,a4,a3,a2,f6,rfl,b2,a8⟩;have e3:=hid a8;have a5:But (· =b) w w8:=(c7.trans b5).next b1 (λ_ _ h=>h.elim);have e1:=(e8).but b1 (λh=>h);have a6:ItB w8 w.heap.size (.slice a4 a2.length a3) a2:=dn b2 (by omega);have c9:a2.length<=24:=by have:=a8.len;omega
     have f2:w.heap.size<=(w6).heap.size:=by omega
     clear a8 b2;go_wp2_with fail;exact du (.slice a4 a2.length a3) results146 rfl rfl ⟨a5,a4,a3,a2,_,_,rfl,e1,a6,c9,Or.inr ⟨rfl,by simpa using HE.out⟩⟩
   .have i1: ¬(its.length:Int)<24:=by omega
    have hE:=HC.out.full (Or.inr hlt);have HE:=hid hE;clear HC hE;go_wp2_with fail;refine(jo b s j bad' _ _ v2 _ j b9).mono ?_;rintro en w6 ⟨rfl,b5,e8⟩;go_wp2_with fail;have a7:ItB w6 w.heap.size (.slice ao its.length cap) its:=aj b3 b5 (λg hg h=>by have:=ay b3 g hg;omega);have g1:=(b5).size;refine(jz w.heap.size its ao cap w6 (by omega) a7).mono ?_;rintro en w8 ⟨b1,a4,a3,a2,f6,rfl,b2,a8⟩;have e3:=hid a8;have a5:But (· =b) w w8:=(c7.trans b5).next b1 (λ_ _ h=>h.elim);have e1:=(e8).but b1 (λh=>h);have a6:ItB w8 w.heap.size (.slice a4 a2.length a3) a2:=dn b2 (by omega);have c9:a2.length<=24:=by have:=a8.len;omega
    have f2:w.heap.size<=(w6).heap.size:=by omega
    clear a8 b2;go_wp2_with fail;exact du (.slice a4 a2.length a3) results146 rfl rfl ⟨a5,a4,a3,a2,_,_,rfl,e1,a6,c9,Or.inr ⟨rfl,by rw[HE.out];simp⟩⟩
end
end Go.Proofs.YtpfkkmacakjmbaaGreatDoor
