import Derived.Test.YtpfkkmacakjmbaaGreatDoorP02
import Derived.Test.YtpfkkmacakjmbaaGreatDoorP42
import Derived.Test.YtpfkkmacakjmbaaGreatDoorRows
import Derived.Lib.LaidTab
import Derived.Stop.LaidErr
set_option maxRecDepth 100000
set_option maxHeartbeats 6400000
namespace Go.Proofs.YtpfkkmacakjmbaaGreatDoor
open Go Go.RowKit Sp
set_option linter.unusedSimpArgs false
set_option linter.unusedVariables false
attribute [local go_sem ↓] Go.wp_at_zero Go.wp_at_succ
theorem retRan {fn : Func} {Rr : Ending → World → Prop} {a : Act} {w : World} {c r : Nat} {s : ByteArray} {v e : Int} (hf : fn.results = #[.cell c 74]) (hd : a.defers = []) (hc : a.tmps.getD c undef = .pointer (some ⟨r, 0, none⟩))
  (h0 : w.heap[r]? = some (.cells #[.string s, .int .i64 v, .int .i64 e] 74)) (hR : Rr (.returned (.agg #[.string s, .int .i64 v, .int .i64 e])) w) : bodyPost Tryz.prog fn Rr .ret a w := by
 have r0 : w.cell? ⟨r, 0, none⟩ = some (.string s) := by rw [cell_of_row w r 0 _ _ (0, 0) h0]; rfl
 have r1 : w.cell? ⟨r, 1, none⟩ = some (.int .i64 v) := by rw [cell_of_row w r 1 _ _ (0, 0) h0]; rfl
 have r2 : w.cell? ⟨r, 2, none⟩ = some (.int .i64 e) := by rw [cell_of_row w r 2 _ _ (0, 0) h0]; rfl
 refine bodyPost_ret (v := .agg #[.string s, .int .i64 v, .int .i64 e]) ?_ hd hR
 have hc' : a.tmps[c]?.getD undef = .pointer (some ⟨r, 0, none⟩) := by simpa using hc
 simp [results, hf, hc', go_sem, r0, r1, r2]
theorem evals_any (s inp : ByteArray) (fuel : Int) (w : World) (hmax : s.size ≤ maxLen) (htab : TabW w) :
  Calls Tryz.prog 41 #[.string s, .string inp, .int .i64 fuel] w fun en w' => en = .returned (.agg #[.string ⟨(evalP s inp fuel).1.toArray⟩, .int .i64 (evalP s inp fuel).2.1, .int .i64 (evalP s inp fuel).2.2]) ∧ But (fun _ => False) w w' := by
 have HE := hid (fun (X : World) (hX : But (fun _ => False) w X) => xeval_any s inp fuel X hmax (htab.but hX))
 obtain ⟨RR, hRR⟩ : ∃ RR, evalP s inp fuel = RR := ⟨_, rfl⟩
 rw [hRR] at HE ⊢
 clear hRR htab
 obtain ⟨o, v, e⟩ := RR
 dsimp only at HE ⊢
 go_enter Tryz.func41, Tryz.ntmps41
 go_wp2_with fail
 have hgW := heap_alloc_new w (.cells #[.string ⟨#[]⟩, .int .i64 0, .int .i64 0] 74)
 have hBW : But (fun _ => False) w (w.alloc (.cells #[.string ⟨#[]⟩, .int .i64 0, .int .i64 0] 74)) := But.alloc _ _ _
 refine (HE.out _ hBW).mono ?_
 rintro en w1 ⟨rfl, hB1⟩
 have hg1 := (hB1.block _ (lt_of_block hgW) (fun h => h)).trans hgW
 have hBw1 := hBW.trans hB1
 clear HE hgW hBW hB1
 have r0 : w1.cell? ⟨w.heap.size, 0, none⟩ = some (.string ⟨#[]⟩) := by rw [cell_of_row w1 _ 0 _ _ (0, 0) hg1]; rfl
 have r1 : w1.cell? ⟨w.heap.size, 1, none⟩ = some (.int .i64 0) := by rw [cell_of_row w1 _ 1 _ _ (0, 0) hg1]; rfl
 have r2 : w1.cell? ⟨w.heap.size, 2, none⟩ = some (.int .i64 0) := by rw [cell_of_row w1 _ 2 _ _ (0, 0) hg1]; rfl
 have z0 := frozen_of_row w1 w.heap.size 0 _ _ hg1
 have z1 := frozen_of_row w1 w.heap.size 1 _ _ hg1
 have z2 := frozen_of_row w1 w.heap.size 2 _ _ hg1
 have hl := lt_of_block hg1
 go_wp2_with fail
 refine (num_any _ _).mono ?_
 rintro en w2 ⟨rfl, rfl⟩
 go_wp2_with fail
 exact retRan Tryz.results41 rfl rfl (heap_setCell_same _ w.heap.size 2 _ _ _ (heap_setCell_same _ w.heap.size 1 _ _ _ (heap_setCell_same _ w.heap.size 0 _ _ _ hg1))) ⟨rfl, ((hBw1.next (But.setB _ _ _ _) (fun k hk e => by have e : k = w.heap.size := e; omega)).next (But.setB _ _ _ _) (fun k hk e => by have e : k = w.heap.size := e; omega)).next (But.setB _ _ _ _) (fun k hk e => by have e : k = w.heap.size := e; omega)⟩
theorem plays_eval (a b c : Int) (s t u : ByteArray) (w : World) (htab : TabW w) (hmax : s.size ≤ maxLen) :
  Calls Tryz.prog 27 #[.agg #[.int .i64 5, .int .i64 a, .int .i64 b, .int .i64 c, .string s, .string t, .string u]] w fun en w' => en = .returned (.bool true) ∧ But (fun _ => False) w w' := by
 have H1 := hid (fun (X : World) (hX : But (fun _ => False) w X) => evals_any s t b X hmax (htab.but hX))
 have H2 := hid (fun (X : World) (hX : But (fun _ => False) w X) => evalS_any s t b X hmax (htab.but hX))
 obtain ⟨RR, hRR⟩ : ∃ RR, evalP s t b = RR := ⟨_, rfl⟩
 rw [hRR] at H1 H2
 clear hRR htab
 obtain ⟨o, v, e⟩ := RR
 dsimp only at H1 H2
 go_enter Tryz.func27, Tryz.ntmps27
 go_wp2_with fail
 have hg0 := heap_alloc_new w (.cells #[.int .i64 5, .int .i64 a, .int .i64 b, .int .i64 c, .string s, .string t, .string u] 27)
 have hBW : But (fun _ => False) w (w.alloc (.cells #[.int .i64 5, .int .i64 a, .int .i64 b, .int .i64 c, .string s, .string t, .string u] 27)) := But.alloc _ _ _
 refine (H1.out _ hBW).mono ?_
 rintro en w1 ⟨rfl, hB1⟩
 have hg1 := (hB1.block _ (lt_of_block hg0) (fun h => h)).trans hg0
 have hBw := hBW.trans hB1
 clear hg0 hBW hB1 H1
 have k2 : w1.cell? ⟨w.heap.size, 2, none⟩ = some (.int .i64 b) := by rw [cell_of_row w1 _ 2 _ _ (0, 0) hg1]; rfl
 have k4 : w1.cell? ⟨w.heap.size, 4, none⟩ = some (.string s) := by rw [cell_of_row w1 _ 4 _ _ (0, 0) hg1]; rfl
 have k5 : w1.cell? ⟨w.heap.size, 5, none⟩ = some (.string t) := by rw [cell_of_row w1 _ 5 _ _ (0, 0) hg1]; rfl
 have hgl := lt_of_block hg1
 go_wp2_with fail
 have hgR := heap_alloc_new w1 (.cells #[.string ⟨o.toArray⟩, .int .i64 v, .int .i64 e] 74)
 have hBA : But (fun _ => False) w1 (w1.alloc (.cells #[.string ⟨o.toArray⟩, .int .i64 v, .int .i64 e] 74)) := But.alloc _ _ _
 refine (H2.out _ (hBw.trans hBA)).mono ?_
 rintro en w2 ⟨rfl, hB2⟩
 have hg2 := (hB2.block _ (lt_of_block hgR) (fun h => h)).trans hgR
 have hB := (hBw.trans hBA).trans hB2
 clear hB2 hBw hBA hgR H2 k2 k4 k5
 have r0 : w2.cell? ⟨w1.heap.size, 0, none⟩ = some (.string ⟨o.toArray⟩) := by rw [cell_of_row w2 _ 0 _ _ (0, 0) hg2]; rfl
 have r1 : w2.cell? ⟨w1.heap.size, 1, none⟩ = some (.int .i64 v) := by rw [cell_of_row w2 _ 1 _ _ (0, 0) hg2]; rfl
 have r2 : w2.cell? ⟨w1.heap.size, 2, none⟩ = some (.int .i64 e) := by rw [cell_of_row w2 _ 2 _ _ (0, 0) hg2]; rfl
 have hl := lt_of_block hg2
 go_wp2_with fail
 all_goals go_ret
 all_goals exact ⟨rfl, hB⟩
theorem evals_all (ao : Option Addr) (n cap : Nat) (w : World) (htab : TabW w) (hO : OpsAt w ao n) :
  Calls Tryz.prog 11 #[.slice ao n cap] w fun en w' => en = .returned (.bool true) ∧ But (fun _ => False) w w' := by
 have HU := hid (upto_kindI TabW (fun _ _ h hb => h.but hb) 5 (fun x y z s t u w h hm => plays_eval x y z s t u w h hm) ao n cap w htab hO)
 clear hO
 go_enter Tryz.func11, Tryz.ntmps11
 go_wp2_with fail
 refine HU.out.mono ?_
 rintro en w1 ⟨rfl, hB⟩
 go_wp2_with fail
 all_goals go_ret
 all_goals exact ⟨rfl, hB⟩
end Go.Proofs.YtpfkkmacakjmbaaGreatDoor
namespace Go.Proofs.YtpfkkmacakjmbaaGreatDoor
open Go
theorem tabW_of_laid {W : World} (h : laidMet Tryz.prog Rows.evalsRow.laid W) : TabW W :=
 Lib.tabIs_of_head (rest := []) (g := 0) (t := 329) (e := 323) (n := 20) (by kernel_rfl) (by kernel_rfl) (by kernel_rfl) (by kernel_rfl) (by kernel_rfl) (by kernel_rfl) h.tail.tail
end Go.Proofs.YtpfkkmacakjmbaaGreatDoor
