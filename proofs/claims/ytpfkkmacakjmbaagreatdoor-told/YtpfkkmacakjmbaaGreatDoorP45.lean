import Derived.Test.YtpfkkmacakjmbaaGreatDoorP41
import Derived.Test.YtpfkkmacakjmbaaGreatDoorP44
import Derived.Test.YtpfkkmacakjmbaaGreatDoorRows
import Derived.Lib.LaidTab
import Derived.Stop.LaidErr
set_option maxRecDepth 100000
set_option maxHeartbeats 6400000
set_option linter.unusedSimpArgs false
set_option linter.unusedVariables false
namespace Go.Proofs.YtpfkkmacakjmbaaGreatDoor
section
open Go Go.RowKit Sp
attribute [local go_sem ↓] Go.wp_at_zero Go.wp_at_succ
def kk (f:Nat) (args:Array Value) (r:Value):Prop:= ∀w,dc w→Calls Tryz.prog f args w fun en w'=>en= .returned r∧But (fun _=>False) w w'
theorem zd {p q:Int}
  (h1:kk 18 #[.string ⟨#[59,59,59,58,107,49,107,50,43,116,46]⟩] (.tuple #[.int .i64 0,.int .i64 p]))
  (h2:kk 19 #[.string ⟨#[59,59,59,58,107,49,107,50,43,116,46]⟩] (.tuple #[.string ⟨#[124,44,105,124,44,105,105,124,44,105,124,44,59]⟩,.int .i64 0]))
  (h3:kk 32 #[.string ⟨#[59,59,59,58,107,49,119,107,50,119,107,51,116,46]⟩,.string ⟨#[]⟩,.int .i64 0,.int .i64 9] (.tuple #[.string ⟨#[49,32,50,32]⟩,.int .i64 3,.int .i64 0]))
  (h4:kk 33 #[.string ⟨#[45,46,65,46,65,46,59,59,59,65,58,115,48,105,49,110,66,110,67,46]⟩] (.tuple #[.int .i64 0,.int .i64 q]))
  (h5:kk 34 #[.string ⟨#[59,59,59,105,58,44,111,60,108,48,53,44,119,108,48,115,48,43,108,48,49,108,48,46]⟩,.string ⟨#[]⟩,.int .i64 200] (.tuple #[.string ⟨#[48,32,49,32,50,32,51,32,52,32]⟩,.int .i64 5,.int .i64 0]))
  (h6: ∀w,dc w→Calls Tryz.prog 35 #[.string ⟨#[59,59,59,58,43,51,52,46]⟩] w fun en w'=>(∃s:ByteArray,en= .returned (.tuple #[.string s,.int .i64 0])∧0<s.size)∧But (fun _=>False) w w')
  (w:World) (ht:dc w):Calls Tryz.prog 17 #[] w fun en w'=>en= .returned (.bool true)∧But (fun _=>False) w w':=by
 have H2:=hid (fun w1 h=>h2 w1 (ht.but h));have H3:=hid (fun w1 h=>h3 w1 (ht.but h));have H4:=hid (fun w1 h=>h4 w1 (ht.but h));have H5:=hid (fun w1 h=>h5 w1 (ht.but h));have H6:=hid (fun w1 h=>h6 w1 (ht.but h));have H1:=hid (h1 w ht);clear h1 h2 h3 h4 h5 h6 ht
 go_in
 go_wp2_with fail;refine H1.out.mono ?_;rintro en w1 ⟨rfl,a4⟩;go_wp2_with fail;refine(H2.out _ a4).mono ?_;rintro en w2 ⟨rfl,a0⟩;replace a0:=a4.trans a0;go_wp2_with fail;refine(H3.out _ a0).mono ?_;rintro en w3 ⟨rfl,a1⟩;replace a1:=a0.trans a1;go_wp2_with fail;refine(H4.out _ a1).mono ?_;rintro en w4 ⟨rfl,a2⟩;replace a2:=a1.trans a2;go_wp2_with fail;refine(H5.out _ a2).mono ?_;rintro en w5 ⟨rfl,a3⟩;replace a3:=a2.trans a3;go_wp2_with fail;refine(H6.out _ a3).mono ?_;rintro en w6 ⟨⟨s,rfl,hs⟩,a5⟩;replace a5:=a3.trans a5
 have a6:s.toList.isEmpty=false:=by
  obtain⟨d⟩:=s;rw[ByteArray.toList_eq]
  show d.toList.isEmpty=false
  have:0<d.size:=hs
  cases h:d.toList with
  |nil=>rw[←Array.length_toList,h]at this;cases this
  |cons=>rfl
 clear H1 H2 H3 H4 H5 H6 a4 a0 a1 a2 a3 hs;go_wp2_with fail;refine(db _ _).mono ?_;rintro en w7 ⟨rfl,rfl⟩;go_wp2_with fail;refine(db _ _).mono ?_;rintro en w7 ⟨rfl,rfl⟩;go_wp2_with fail;refine(db _ _).mono ?_;rintro en w7 ⟨rfl,rfl⟩;go_wp2_with fail;refine(db _ _).mono ?_;rintro en w7 ⟨rfl,rfl⟩;go_wp2_with fail;refine(db _ _).mono ?_;rintro en w7 ⟨rfl,rfl⟩;go_wp2_with fail;refine(db _ _).mono ?_;rintro en w7 ⟨rfl,rfl⟩;go_wp2_with fail
 all_goals go_ret
 all_goals exact⟨rfl,a5⟩
theorem Am {s T o1 o2:ByteArray} {c n p q v1 v2 e1 e2:Int} (kd x y z:Int) (t u:ByteArray)
  (h1:kk 18 #[.string s] (.tuple #[.int .i64 c,.int .i64 p]))
  (h2:kk 19 #[.string s] (.tuple #[.string T,.int .i64 c]))
  (h3:kk 39 #[.string s,.string ⟨#[]⟩,.int .i64 0,.int .i64 0] (.agg #[.string o1,.int .i64 v1,.int .i64 e1]))
  (h4:kk 33 #[.string s] (.tuple #[.int .i64 n,.int .i64 q]))
  (h5: ∀w,dc w→Calls Tryz.prog 35 #[.string s] w fun en w'=>(∃r:ByteArray,en= .returned (.tuple #[.string r,.int .i64 n]))∧But (fun _=>False) w w')
  (h6:kk 41 #[.string s,.string ⟨#[]⟩,.int .i64 0] (.agg #[.string o2,.int .i64 v2,.int .i64 e2]))
  (g1:c=0∧e1=5∨c≠0∧e1=c) (g2:n=0∧e2=5∨n≠0∧e2=n)
  (w:World) (ht:dc w):Calls Tryz.prog 25 #[.agg #[.int .i64 kd,.int .i64 x,.int .i64 y,.int .i64 z,.string s,.string t,.string u]] w fun en w'=>en= .returned (.bool true)∧But (fun _=>False) w w':=by
 have H1:=hid (fun w1 h=>h1 w1 (ht.but h));have H2:=hid (fun w1 h=>h2 w1 (ht.but h));have H3:=hid (fun w1 h=>h3 w1 (ht.but h));have H4:=hid (fun w1 h=>h4 w1 (ht.but h));have H5:=hid (fun w1 h=>h5 w1 (ht.but h));have H6:=hid (fun w1 h=>h6 w1 (ht.but h));have G1:=hid g1;have G2:=hid g2;clear h1 h2 h3 h4 h5 h6 ht g1 g2;have a0:=heap_alloc_new w (.cells #[.int .i64 kd,.int .i64 x,.int .i64 y,.int .i64 z,.string s,.string t,.string u] 27);have b9:But (fun _=>False) w (w.alloc (.cells #[.int .i64 kd,.int .i64 x,.int .i64 y,.int .i64 z,.string s,.string t,.string u] 27)):=But.alloc _ _ _
 go_in
 go_wp2_with fail;refine(H1.out _ b9).mono ?_;rintro en w1 ⟨rfl,a9⟩;replace a0:=a9.kp a0;replace a9:=b9.trans a9;have k4:=ce4 a0;have a4:=ae a0;clear b9 H1;go_wp2_with fail;refine(H2.out _ a9).mono ?_;rintro en w2 ⟨rfl,b0⟩;replace a0:=b0.kp a0;replace b0:=a9.trans b0;clear k4 a4 a9 H2;have k4:=ce4 a0;have a4:=ae a0;go_wp2_with fail;refine(H3.out _ b0).mono ?_;rintro en w3 ⟨rfl,b1⟩;replace a0:=b1.kp a0;replace b1:=b0.trans b1;clear k4 a4 b0 H3;have k4:=ce4 a0;have a4:=ae a0;have a3:=heap_alloc_new w3 (.cells #[.string o1,.int .i64 v1,.int .i64 e1] 74);have b3:But (fun _=>False) w3 (w3.alloc (.cells #[.string o1,.int .i64 v1,.int .i64 e1] 74)):=But.alloc _ _ _
 go_wp2_with fail;refine(H4.out _ (b1.trans b3)).mono ?_;rintro en w4 ⟨rfl,a5⟩;replace a0:=a5.kp (b3.kp a0);replace a3:=a5.kp a3;replace a5:=(b1.trans b3).trans a5;clear k4 a4 b1 H4 b3;have k4:=ce4 a0;have a4:=ae a0;go_wp2_with fail;refine(H5.out _ a5).mono ?_;rintro en w5 ⟨⟨r,rfl⟩,a6⟩;replace a0:=a6.kp a0;replace a3:=a6.kp a3;replace a6:=a5.trans a6;clear k4 a4 a5 H5;have k4:=ce4 a0;have a4:=ae a0;go_wp2_with fail;refine(H6.out _ a6).mono ?_;rintro en w6 ⟨rfl,a7⟩;replace a3:=a7.kp a3;replace a7:=a6.trans a7;clear k4 a4 a6 H6 a0;have d6:=heap_alloc_new w6 (.cells #[.string o2,.int .i64 v2,.int .i64 e2] 74)
 have b6:But (fun _=>False) w6 (w6.alloc (.cells #[.string o2,.int .i64 v2,.int .i64 e2] 74)):=But.alloc _ _ _;replace a3:=b6.kp a3;replace a7:=a7.trans b6;clear b6;have b2:=hid a3;have a2:=hid d6;have a1:=hid a7;clear a3 d6 a7;go_wp2_with fail;revert b2 a2 a1;generalize (w6.alloc (.cells #[.string o2,.int .i64 v2,.int .i64 e2] 74))=W;intro b2 a2 a1;refine(db _ _).mono ?_;rintro en w7 ⟨rfl,rfl⟩;go_wp2_with fail;refine(db _ _).mono ?_;rintro en w7 ⟨rfl,rfl⟩;go_wp2_with fail;refine(db _ _).mono ?_;rintro en w7 ⟨rfl,rfl⟩;go_wp2_with fail;refine(db _ _).mono ?_;rintro en w7 ⟨rfl,rfl⟩;go_wp2_with fail
 refine(db _ _).mono ?_;rintro en w7 ⟨rfl,rfl⟩;have x2:=ce2 b2.out;have y2:=ce2 a2.out;have c6:=ae b2.out;have b5:=ae a2.out;rcases G1.out with⟨rfl,rfl⟩ | ⟨hc,rfl⟩
 ·clear G1;go_wp2_with fail;refine(db _ _).mono ?_;rintro en w8 ⟨rfl,rfl⟩;rcases G2.out with⟨rfl,rfl⟩ | ⟨hn,rfl⟩
  ·clear G2;go_wp2_with fail
   all_goals go_ret
   all_goals exact⟨rfl,a1.out⟩
  ·clear G2;have e0:(e2==0)=false:=beq_eq_false_iff_ne.2 hn;go_wp2_with fail;have a8:But (fun _=>False) w8 w8.drew:=But.drew _ _;refine aD (But (fun _=>False) w8) 4 (by kernel_rfl) ?_
   iterate 3 (refine cN (v:=?_) rfl (by kernel_rfl) (fun _ _ _ h=>h) rfl a8 ?_ ?_;rotate_left;(focus (intro wS h;have q0:=(h.kc y2 b5);clear h;go_simp;try rfl));dsimp only[Act.put];try simp only[aK])
   refine ag rfl (by kernel_rfl) ?_;intro KS hKS;go_simp;refine(db _ _).mono ?_;rintro en w9 ⟨rfl,rfl⟩;refine hKS.out _ _ (fun _=>a8) ?_;clear hKS KS;refine ag rfl (by kernel_rfl) ?_;intro KS hKS;go_simp;refine hKS.out _ _ nofun ?_;clear hKS KS;refine ag rfl (by kernel_rfl) ?_;intro KS hKS;go_simp;refine hKS.out _ _ nofun ?_;clear hKS KS;refine aH rfl (by kernel_rfl) ?_;go_wp2_with fail
   all_goals go_ret
   all_goals exact⟨rfl,a1.out.trans a8⟩
 ·clear G1;have e3:(e1==0)=false:=beq_eq_false_iff_ne.2 hc;go_wp2_with fail;have b4:But (fun _=>False) w7 w7.drew:=But.drew _ _;refine aD (But (fun _=>False) w7) 4 (by kernel_rfl) ?_
  iterate 3 (refine cN (v:=?_) rfl (by kernel_rfl) (fun _ _ _ h=>h) rfl b4 ?_ ?_;rotate_left;(focus (intro wS h;have q0:=(h.kc x2 c6);clear h;go_simp;try rfl));dsimp only[Act.put];try simp only[aK])
  refine ag rfl (by kernel_rfl) ?_;intro KS hKS;go_simp;refine(db _ _).mono ?_;rintro en w9 ⟨rfl,rfl⟩;refine hKS.out _ _ (fun _=>b4) ?_;clear hKS KS;refine ag rfl (by kernel_rfl) ?_;intro KS hKS;go_simp;refine hKS.out _ _ nofun ?_;clear hKS KS;refine aH rfl (by kernel_rfl) ?_;replace a1:=hid (a1.out.trans b4);replace a2:=hid (b4.kp a2.out);revert a1 a2;generalize w7.drew=w7;clear x2 y2 c6 b5;intro a1 a2;have y2:=ce2 a2.out;have b5:=ae a2.out;go_wp2_with fail;refine(db _ _).mono ?_;rintro en w8 ⟨rfl,rfl⟩;rcases G2.out with⟨rfl,rfl⟩ | ⟨hn,rfl⟩
  ·clear G2;go_wp2_with fail
   all_goals go_ret
   all_goals exact⟨rfl,a1.out⟩
  ·clear G2;have e0:(e2==0)=false:=beq_eq_false_iff_ne.2 hn;go_wp2_with fail;have a8:But (fun _=>False) w8 w8.drew:=But.drew _ _;refine aD (But (fun _=>False) w8) 4 (by kernel_rfl) ?_
   iterate 3 (refine cN (v:=?_) rfl (by kernel_rfl) (fun _ _ _ h=>h) rfl a8 ?_ ?_;rotate_left;(focus (intro wS h;have q0:=(h.kc y2 b5);clear h;go_simp;try rfl));dsimp only[Act.put];try simp only[aK])
   refine ag rfl (by kernel_rfl) ?_;intro KS hKS;go_simp;refine(db _ _).mono ?_;rintro en w9 ⟨rfl,rfl⟩;refine hKS.out _ _ (fun _=>a8) ?_;clear hKS KS;refine ag rfl (by kernel_rfl) ?_;intro KS hKS;go_simp;refine hKS.out _ _ nofun ?_;clear hKS KS;refine ag rfl (by kernel_rfl) ?_;intro KS hKS;go_simp;refine hKS.out _ _ nofun ?_;clear hKS KS;refine aH rfl (by kernel_rfl) ?_;go_wp2_with fail
   all_goals go_ret
   all_goals exact⟨rfl,a1.out.trans a8⟩
theorem xh (hP: ∀(kd x y z:Int) (s t u:ByteArray) (w:World),dc w→s.size≤maxLen→Calls Tryz.prog 25 #[.agg #[.int .i64 kd,.int .i64 x,.int .i64 y,.int .i64 z,.string s,.string t,.string u]] w fun en w'=>en= .returned (.bool true)∧But (fun _=>False) w w')
  (hA: ∀w,dc w→Calls Tryz.prog 17 #[] w fun en w'=>en= .returned (.bool true)∧But (fun _=>False) w w') (ao:Option Addr) (n cap:Nat) (w:World) (hw:dc w) (hO:xy w ao n):
  Calls Tryz.prog 12 #[.slice ao n cap] w fun en w'=>en= .returned (.bool true)∧But (fun _=>False) w w':=by
 have HP:=hid (fun kd x y z s t u w1 (hB:But (fun _=>False) w w1)=>hP kd x y z s t u w1 (hw.but hB));have HA:=hid (fun w1 (hB:But (fun _=>False) w w1)=>hA w1 (hw.but hB));clear hP hw hA
 go_in
 go_wp2_with fail;have hn:n≤9223372036854775807:=hO.1
 go_loopg [3] n (fun mm is wr=> ∃(k:Nat),is= .int .i64 k∧k≤n∧k+mm≤n∧n≤k+mm∧But (fun _=>False) w wr)
 case atStart=>exact⟨0,rfl,by omega,by omega,by omega,But.refl _ _⟩
 case round=>
  obtain⟨k,rfl,a6,a3,a7,a0⟩:=hrel;clear a3
  by_cases hlt:k<n
  ·have a4:(k:Int)<(n:Int):=by omega
   obtain⟨b,o,rfl,hb,hA⟩:=hO.2 (by omega);obtain⟨kd,s,⟨x,y,z,t,u,q0,q1,q2,q3,q4,q5,q6⟩,hs⟩:=hA k hlt;have a5:b<wr.heap.size:=Nat.lt_of_lt_of_le hb a0.size;rw[←a0.cell (p:=⟨b,_,none⟩) hb (fun h=>h)]at q0 q1 q2 q3 q4 q5 q6;clear hA;have a8:IntKind.i64.wrap ((k:Int)+1)=(k:Int)+1:=(IntWalk.i64_left _).trans (IntWalk.wrap64_in _ ⟨by omega,by omega⟩)
   by_cases hmx:(k:Int)<1152921504606846976
   ·go_wp2_with fail;refine(HP.out kd x y z s t u _ a0 hs).mono ?_;rintro en w1 ⟨rfl,a1⟩;have a2:=a0.trans a1;clear a1;go_wp2_with fail
    go_roundg (n-(k+1))
    case measure=>omega
    case rel=>exact⟨k+1,by simp,by omega,by omega,by omega,a2⟩
   ·go_wp2_with fail;refine(HA.out _ a0).mono ?_;rintro en w1 ⟨rfl,a1⟩;have a2:=a0.trans a1;go_wp2_with fail;exact b8 (.bool true) Tryz.results12 rfl rfl ⟨rfl,a2⟩
  ·have a4: ¬(k:Int)<(n:Int):=by omega
   go_wp2_with fail;refine(HA.out _ a0).mono ?_;rintro en w1 ⟨rfl,a1⟩;have a2:=a0.trans a1;go_wp2_with fail;exact b8 (.bool true) Tryz.results12 rfl rfl ⟨rfl,a2⟩
end
section
open Go Sp
theorem xj (s:ByteArray):(lI s).2=(eV s).1:=by
 unfold lI eV
 cases dN s with
 |error e=>rfl
 |ok im=>
  dsimp only
  cases dS im 0 im.bodies<;>rfl
theorem ze (s:ByteArray):((eV s).1=0∧(lj s ⟨#[]⟩ 0 0).2.2=5)∨((eV s).1≠0∧(lj s ⟨#[]⟩ 0 0).2.2=(eV s).1):=by
 unfold lj eV;rw[if_neg (by decide)]
 cases h:dN s with
 |error e=>
  obtain⟨e,p⟩:=e;have:=o8 h;exact Or.inr ⟨by dsimp only;omega,rfl⟩
 |ok im=>
  dsimp only
  cases dS im 0 im.bodies with
  |error k=>exact Or.inr ⟨by show(4:Nat)≠0;decide,rfl⟩
  |ok T=>exact Or.inl ⟨rfl,rfl⟩
theorem xk (s:ByteArray):((di s).1=0∧(gy s ⟨#[]⟩ 0).2.2=5)∨((di s).1≠0∧(gy s ⟨#[]⟩ 0).2.2=(di s).1):=by
 unfold gy;rw[if_neg (by decide)]
 cases h:dR s with
 |error e=>
  obtain⟨e,p⟩:=e;have:=iF h;rw[vw h];exact Or.inr ⟨by dsimp only;omega,rfl⟩
 |ok im=>
  dsimp only
  by_cases h0:(di s).1=0
  ·rw[if_pos h0];exact Or.inl ⟨h0,rfl⟩
  ·rw[if_neg h0];exact Or.inr ⟨h0,rfl⟩
theorem zf:eV ⟨#[59,59,59,58,107,49,107,50,43,116,46]⟩=(0,0):=by decide+kernel
theorem zg:lI ⟨#[59,59,59,58,107,49,107,50,43,116,46]⟩=([124,44,105,124,44,105,105,124,44,105,124,44,59],0):=by decide+kernel
theorem BE:lj ⟨#[59,59,59,58,107,49,119,107,50,119,107,51,116,46]⟩ ⟨#[]⟩ 0 9=([49,32,50,32],3,0):=by kernel_rfl
theorem An:di ⟨#[45,46,65,46,65,46,59,59,59,65,58,115,48,105,49,110,66,110,67,46]⟩=(0,0):=by decide+kernel
theorem Ao:gy ⟨#[59,59,59,105,58,44,111,60,108,48,53,44,119,108,48,115,48,43,108,48,49,108,48,46]⟩ ⟨#[]⟩ 200=([48,32,49,32,50,32,51,32,52,32],5,0):=by decide+kernel
theorem Ap:di ⟨#[59,59,59,58,43,51,52,46]⟩=(0,0):=by decide+kernel
end
section
open Go Go.RowKit Sp
attribute [local go_sem ↓] Go.wp_at_zero Go.wp_at_succ
theorem AF {fn:Func} {Rr:Ending→World→Prop} {a:Act} {w:World} {c r:Nat} {s:ByteArray} {v e:Int} (hf:fn.results=#[.cell c 74]) (hd:a.defers=[]) (hc:a.tmps.getD c undef= .pointer (some ⟨r,0,none⟩))
  (h0:w.heap[r]?=some (.cells #[.string s,.int .i64 v,.int .i64 e] 74)) (hR:Rr (.returned (.agg #[.string s,.int .i64 v,.int .i64 e])) w):bodyPost Tryz.prog fn Rr .ret a w:=by
 have r0:=ce0 h0;have r1:=ce1 h0;have r2:=ce2 h0;refine bodyPost_ret (v:= .agg #[.string s,.int .i64 v,.int .i64 e]) ?_ hd hR;have a0:a.tmps[c]?.getD undef= .pointer (some ⟨r,0,none⟩):=by simpa using hc
 simp[results,hf,a0,go_sem,r0,r1,r2]
theorem zh (s inp:ByteArray) (ce fuel:Int) (w:World) (hmax:s.size≤maxLen) (htab:dc w):
  Calls Tryz.prog 39 #[.string s,.string inp,.int .i64 ce,.int .i64 fuel] w fun en w'=>en= .returned (.agg #[.string ⟨(lj s inp ce fuel).1.toArray⟩,.int .i64 (lj s inp ce fuel).2.1,.int .i64 (lj s inp ce fuel).2.2])∧But (fun _=>False) w w':=by
 have HE:=hid (fun(X:World) (hX:But (fun _=>False) w X)=>sX s inp ce fuel X hmax (htab.but hX));obtain⟨RR,a4⟩: ∃RR,lj s inp ce fuel=RR:=⟨_,rfl⟩;rw[a4]at HE⊢;clear a4 htab;obtain⟨o,v,e⟩:=RR;dsimp only at HE⊢
 go_in
 go_wp2_with fail;have a5:=heap_alloc_new w (.cells #[.string ⟨#[]⟩,.int .i64 0,.int .i64 0] 74);have a2:But (fun _=>False) w (w.alloc (.cells #[.string ⟨#[]⟩,.int .i64 0,.int .i64 0] 74)):=But.alloc _ _ _;refine(HE.out _ a2).mono ?_;rintro en w1 ⟨rfl,a1⟩;have a0:=a1.kp a5;have a3:=a2.trans a1;clear HE a5 a2 a1;have r0:=ce0 a0;have r1:=ce1 a0;have r2:=ce2 a0;have z0:=frozen_of_row w1 w.heap.size 0 _ _ a0;have z1:=frozen_of_row w1 w.heap.size 1 _ _ a0;have z2:=frozen_of_row w1 w.heap.size 2 _ _ a0;have hl:=ae a0;go_wp2_with fail;refine(db _ _).mono ?_;rintro en w2 ⟨rfl,rfl⟩;go_wp2_with fail;exact AF Tryz.results39 rfl rfl (heap_setCell_same _ w.heap.size 2 _ _ _ (heap_setCell_same _ w.heap.size 1 _ _ _ (heap_setCell_same _ w.heap.size 0 _ _ _ a0))) ⟨rfl,((a3.next (But.setB _ _ _ _) (fun k hk e=>by have e:k=w.heap.size:=e;omega)).next (But.setB _ _ _ _) (fun k hk e=>by have e:k=w.heap.size:=e;omega)).next (But.setB _ _ _ _) (fun k hk e=>by have e:k=w.heap.size:=e;omega)⟩
theorem xn (s inp:ByteArray) (fuel:Int) (w:World) (hmax:s.size≤maxLen) (htab:dc w):
  Calls Tryz.prog 41 #[.string s,.string inp,.int .i64 fuel] w fun en w'=>en= .returned (.agg #[.string ⟨(gy s inp fuel).1.toArray⟩,.int .i64 (gy s inp fuel).2.1,.int .i64 (gy s inp fuel).2.2])∧But (fun _=>False) w w':=by
 have HE:=hid (fun(X:World) (hX:But (fun _=>False) w X)=>pE s inp fuel X hmax (htab.but hX));obtain⟨RR,a4⟩: ∃RR,gy s inp fuel=RR:=⟨_,rfl⟩;rw[a4]at HE⊢;clear a4 htab;obtain⟨o,v,e⟩:=RR;dsimp only at HE⊢
 go_in
 go_wp2_with fail;have a5:=heap_alloc_new w (.cells #[.string ⟨#[]⟩,.int .i64 0,.int .i64 0] 74);have a2:But (fun _=>False) w (w.alloc (.cells #[.string ⟨#[]⟩,.int .i64 0,.int .i64 0] 74)):=But.alloc _ _ _;refine(HE.out _ a2).mono ?_;rintro en w1 ⟨rfl,a1⟩;have a0:=a1.kp a5;have a3:=a2.trans a1;clear HE a5 a2 a1;have r0:=ce0 a0;have r1:=ce1 a0;have r2:=ce2 a0;have z0:=frozen_of_row w1 w.heap.size 0 _ _ a0;have z1:=frozen_of_row w1 w.heap.size 1 _ _ a0;have z2:=frozen_of_row w1 w.heap.size 2 _ _ a0;have hl:=ae a0;go_wp2_with fail;refine(db _ _).mono ?_;rintro en w2 ⟨rfl,rfl⟩;go_wp2_with fail;exact AF Tryz.results41 rfl rfl (heap_setCell_same _ w.heap.size 2 _ _ _ (heap_setCell_same _ w.heap.size 1 _ _ _ (heap_setCell_same _ w.heap.size 0 _ _ _ a0))) ⟨rfl,((a3.next (But.setB _ _ _ _) (fun k hk e=>by have e:k=w.heap.size:=e;omega)).next (But.setB _ _ _ _) (fun k hk e=>by have e:k=w.heap.size:=e;omega)).next (But.setB _ _ _ _) (fun k hk e=>by have e:k=w.heap.size:=e;omega)⟩
end
section
open Go Go.RowKit Sp
theorem xo (w:World) (ht:dc w):Calls Tryz.prog 17 #[] w fun en w'=>en= .returned (.bool true)∧But (fun _=>False) w w':=by
 have m: ∀n:Nat,n≤100→n≤maxLen:=fun n h=>by unfold maxLen;omega
 have h1:=fun w (_:dc w)=>nW ⟨#[59,59,59,58,107,49,107,50,43,116,46]⟩ w (m _ (by decide))
 have h2:=fun w (_:dc w)=>nY ⟨#[59,59,59,58,107,49,107,50,43,116,46]⟩ w (m _ (by decide))
 have h3:=fun w (h:dc w)=>sX ⟨#[59,59,59,58,107,49,119,107,50,119,107,51,116,46]⟩ ⟨#[]⟩ 0 9 w (m _ (by decide)) h
 have h4:=fun w (_:dc w)=>pq ⟨#[45,46,65,46,65,46,59,59,59,65,58,115,48,105,49,110,66,110,67,46]⟩ w (m _ (by decide))
 have h5:=fun w (h:dc w)=>pE ⟨#[59,59,59,105,58,44,111,60,108,48,53,44,119,108,48,115,48,43,108,48,49,108,48,46]⟩ ⟨#[]⟩ 200 w (m _ (by decide)) h
 have h6:=fun w (h:dc w)=>lB ⟨#[59,59,59,58,43,51,52,46]⟩ w (m _ (by decide)) h
 rw[zf]at h1;rw[zg]at h2;rw[BE]at h3;rw[An]at h4;rw[Ao]at h5;rw[Ap]at h6;refine zd h1 h2 h3 h4 h5 (fun w h=>(h6 w h).mono ?_) w ht;rintro en w' ⟨⟨r,e,hr⟩,hB⟩;exact⟨⟨r,e,hr rfl⟩,hB⟩
theorem zi (kd x y z:Int) (s t u:ByteArray) (w:World) (ht:dc w) (hm:s.size≤maxLen):
  Calls Tryz.prog 25 #[.agg #[.int .i64 kd,.int .i64 x,.int .i64 y,.int .i64 z,.string s,.string t,.string u]] w fun en w'=>en= .returned (.bool true)∧But (fun _=>False) w w':=by
 have h2:=fun w (_:dc w)=>nY s w hm
 rw[xj]at h2;refine Am kd x y z t u (fun w _=>nW s w hm) h2 (fun w h=>zh s ⟨#[]⟩ 0 0 w hm h) (fun w _=>pq s w hm) (fun w h=>(lB s w hm h).mono ?_) (fun w h=>xn s ⟨#[]⟩ 0 w hm h) ?_ ?_ w ht
 ·rintro en w' ⟨⟨r,e,_⟩,hB⟩;exact⟨⟨r,e⟩,hB⟩
 ·rcases ze s with⟨a,b⟩ | ⟨a,b⟩
  ·exact Or.inl ⟨by omega,by omega⟩
  ·exact Or.inr ⟨by omega,by omega⟩
 ·rcases xk s with⟨a,b⟩ | ⟨a,b⟩
  ·exact Or.inl ⟨by omega,by omega⟩
  ·exact Or.inr ⟨by omega,by omega⟩
theorem zj (ao:Option Addr) (n cap:Nat) (w:World) (htab:dc w) (hO:xy w ao n):
  Calls Tryz.prog 12 #[.slice ao n cap] w fun en w'=>en= .returned (.bool true)∧But (fun _=>False) w w':=
 xh zi xo ao n cap w htab hO
end
section
open Go
theorem qL {W:World} (h:laidMet Tryz.prog Rows.toldRow.laid W):dc W:=
 Lib.tabIs_of_head (rest:=[]) (g:=0) (t:=329) (e:=323) (n:=20) (by kernel_rfl) (by kernel_rfl) (by kernel_rfl) (by kernel_rfl) (by kernel_rfl) (by kernel_rfl) h.tail.tail
end
end Go.Proofs.YtpfkkmacakjmbaaGreatDoor
