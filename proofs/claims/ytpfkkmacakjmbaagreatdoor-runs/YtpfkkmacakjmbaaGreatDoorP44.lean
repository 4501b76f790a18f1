import Derived.Test.YtpfkkmacakjmbaaGreatDoorP43
import Derived.Test.YtpfkkmacakjmbaaGreatDoorRows
import Derived.Lib.LaidTab
import Derived.Stop.LaidErr
set_option maxRecDepth 100000
set_option maxHeartbeats 6400000
set_option linter.unusedSimpArgs false
set_option linter.unusedVariables false
namespace Go.Proofs.YtpfkkmacakjmbaaGreatDoor
section
open Go Go.RowKit Sp
attribute [local go_sem ↓] Go.wp_at_zero Go.wp_at_succ
theorem Bk {fn:Func} {Rr:Ending→World→Prop} {a:Act} {w:World} {c r:Nat} {s:ByteArray} {v e:Int} (hf:fn.results=#[.cell c 74]) (hd:a.defers=[]) (hc:a.tmps.getD c undef= .pointer (some ⟨r,0,none⟩))
  (h0:w.heap[r]?=some (.cells #[.string s,.int .i64 v,.int .i64 e] 74)) (hR:Rr (.returned (.agg #[.string s,.int .i64 v,.int .i64 e])) w):bodyPost Tryz.prog fn Rr .ret a w:=by
 have r0:=ce0 h0;have r1:=ce1 h0;have r2:=ce2 h0;refine bodyPost_ret (v:= .agg #[.string s,.int .i64 v,.int .i64 e]) ?_ hd hR;have a0:a.tmps[c]?.getD undef= .pointer (some ⟨r,0,none⟩):=by simpa using hc
 simp[results,hf,a0,go_sem,r0,r1,r2]
theorem xF (s inp:ByteArray) (ce fuel:Int) (w:World) (hmax:s.size≤maxLen) (htab:gv w):
  Calls Tryz.prog 39 #[.string s,.string inp,.int .i64 ce,.int .i64 fuel] w fun en w'=>en= .returned (.agg #[.string ⟨(jC s inp ce fuel).1.toArray⟩,.int .i64 (jC s inp ce fuel).2.1,.int .i64 (jC s inp ce fuel).2.2])∧But (fun _=>False) w w':=by
 have HE:=hid (fun(X:World) (hX:But (fun _=>False) w X)=>xA s inp ce fuel X hmax (htab.but hX));obtain⟨RR,a4⟩: ∃RR,jC s inp ce fuel=RR:=⟨_,rfl⟩;rw[a4]at HE⊢;clear a4 htab;obtain⟨o,v,e⟩:=RR;dsimp only at HE⊢
 go_in
 go_wp2_with fail;have a5:=heap_alloc_new w (.cells #[.string ⟨#[]⟩,.int .i64 0,.int .i64 0] 74);have a2:But (fun _=>False) w (w.alloc (.cells #[.string ⟨#[]⟩,.int .i64 0,.int .i64 0] 74)):=But.alloc _ _ _;refine(HE.out _ a2).mono ?_;rintro en w1 ⟨rfl,a1⟩;have a0:=a1.kp a5;have a3:=a2.trans a1;clear HE a5 a2 a1;have r0:=ce0 a0;have r1:=ce1 a0;have r2:=ce2 a0;have z0:=frozen_of_row w1 w.heap.size 0 _ _ a0;have z1:=frozen_of_row w1 w.heap.size 1 _ _ a0;have z2:=frozen_of_row w1 w.heap.size 2 _ _ a0;have hl:=ae a0;go_wp2_with fail;refine(xM _ _).mono ?_;rintro en w2 ⟨rfl,rfl⟩;go_wp2_with fail;exact Bk Tryz.results39 rfl rfl (heap_setCell_same _ w.heap.size 2 _ _ _ (heap_setCell_same _ w.heap.size 1 _ _ _ (heap_setCell_same _ w.heap.size 0 _ _ _ a0))) ⟨rfl,((a3.next (But.setB _ _ _ _) (fun k hk e=>by have e:k=w.heap.size:=e;omega)).next (But.setB _ _ _ _) (fun k hk e=>by have e:k=w.heap.size:=e;omega)).next (But.setB _ _ _ _) (fun k hk e=>by have e:k=w.heap.size:=e;omega)⟩
theorem vA (a b c:Int) (s t u:ByteArray) (w:World) (htab:gv w) (hmax:s.size≤maxLen):
  Calls Tryz.prog 27 #[.agg #[.int .i64 3,.int .i64 a,.int .i64 b,.int .i64 c,.string s,.string t,.string u]] w fun en w'=>en= .returned (.bool true)∧But (fun _=>False) w w':=by
 have H1:=hid (fun(X:World) (hX:But (fun _=>False) w X)=>xF s t a b X hmax (htab.but hX));have H2:=hid (fun(X:World) (hX:But (fun _=>False) w X)=>xE s t a b X hmax (htab.but hX));obtain⟨RR,a7⟩: ∃RR,jC s t a b=RR:=⟨_,rfl⟩;rw[a7]at H1 H2;clear a7 htab;obtain⟨o,v,e⟩:=RR;dsimp only at H1 H2
 go_in
 go_wp2_with fail;have a8:=heap_alloc_new w (.cells #[.int .i64 3,.int .i64 a,.int .i64 b,.int .i64 c,.string s,.string t,.string u] 27);have a5:But (fun _=>False) w (w.alloc (.cells #[.int .i64 3,.int .i64 a,.int .i64 b,.int .i64 c,.string s,.string t,.string u] 27)):=But.alloc _ _ _;refine(H1.out _ a5).mono ?_;rintro en w1 ⟨rfl,a2⟩;have a0:=a2.kp a8;have a6:=a5.trans a2;clear a8 a5 a2 H1;have k1:=ce1 a0;have k2:=ce2 a0;have k4:=ce4 a0;have k5:=ce5 a0;have b0:=ae a0;go_wp2_with fail;have a9:=heap_alloc_new w1 (.cells #[.string ⟨o.toArray⟩,.int .i64 v,.int .i64 e] 74);have a4:But (fun _=>False) w1 (w1.alloc (.cells #[.string ⟨o.toArray⟩,.int .i64 v,.int .i64 e] 74)):=But.alloc _ _ _
 refine(H2.out _ (a6.trans a4)).mono ?_;rintro en w2 ⟨rfl,a3⟩;have a1:=a3.kp a9;have hB:=(a6.trans a4).trans a3;clear a3 a6 a4 a9 H2 k1 k2 k4 k5;have r0:=ce0 a1;have r1:=ce1 a1;have r2:=ce2 a1;have hl:=ae a1;go_wp2_with fail
 all_goals go_ret
 all_goals exact⟨rfl,hB⟩
theorem xG (ao:Option Addr) (n cap:Nat) (w:World) (htab:gv w) (hO:vJ w ao n):
  Calls Tryz.prog 8 #[.slice ao n cap] w fun en w'=>en= .returned (.bool true)∧But (fun _=>False) w w':=by
 have HU:=hid (sp gv (fun _ _ h hb=>h.but hb) 3 (fun x y z s t u w h hm=>vA x y z s t u w h hm) ao n cap w htab hO);clear hO
 go_in
 go_wp2_with fail;refine HU.out.mono ?_;rintro en w1 ⟨rfl,hB⟩;go_wp2_with fail
 all_goals go_ret
 all_goals exact⟨rfl,hB⟩
end
section
open Go
theorem qp {W:World} (h:laidMet Tryz.prog Rows.runsRow.laid W):gv W:=
 Lib.tabIs_of_head (rest:=[]) (g:=0) (t:=329) (e:=323) (n:=20) (by kernel_rfl) (by kernel_rfl) (by kernel_rfl) (by kernel_rfl) (by kernel_rfl) (by kernel_rfl) h.tail.tail
end
end Go.Proofs.YtpfkkmacakjmbaaGreatDoor
