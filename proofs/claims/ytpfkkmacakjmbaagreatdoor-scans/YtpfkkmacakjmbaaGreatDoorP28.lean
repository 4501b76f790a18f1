import Derived.Test.YtpfkkmacakjmbaaGreatDoorP02
import Derived.Test.YtpfkkmacakjmbaaGreatDoorP13
import Derived.Test.YtpfkkmacakjmbaaGreatDoorP27
set_option maxRecDepth 100000
set_option maxHeartbeats 6400000
namespace Go.Proofs.YtpfkkmacakjmbaaGreatDoor
open Go Go.RowKit Sp
set_option linter.unusedSimpArgs false
set_option linter.unusedVariables false
attribute [local go_sem ↓] Go.wp_at_zero Go.wp_at_succ
theorem plays_scan (a b c : Int) (s t u : ByteArray) (w : World) (hmax : s.size ≤ maxLen) :
  Calls Tryz.prog 27 #[.agg #[.int .i64 4, .int .i64 a, .int .i64 b, .int .i64 c, .string s, .string t, .string u]] w fun en w' => en = .returned (.bool true) ∧ But (fun _ => False) w w' := by
 obtain ⟨E, hE⟩ : ∃ E, scanP s = E := ⟨_, rfl⟩
 obtain ⟨e, p⟩ := E
 have H1 : Hid (∀ w, Calls Tryz.prog 33 #[.string s] w fun en w' => en = .returned (.tuple #[.int .i64 e, .int .i64 p]) ∧ But (fun _ => False) w w') := hid (fun w => by have := xscan_any s w hmax; rw [hE] at this; exact this)
 have H2 : Hid (∀ w, Calls Tryz.prog 49 #[.string s] w fun en w' => en = .returned (.tuple #[.int .i64 e, .int .i64 p]) ∧ But (fun _ => False) w w') := hid (fun w => by have := scanS_any s w hmax; rw [hE] at this; exact this)
 clear hE
 go_enter Tryz.func27, Tryz.ntmps27
 go_wp2_with fail
 refine (H1.out _).mono ?_
 rintro en w1 ⟨rfl, hB1⟩
 have hg0 := heap_alloc_new w (.cells #[.int .i64 4, .int .i64 a, .int .i64 b, .int .i64 c, .string s, .string t, .string u] 27)
 have hBW : But (fun _ => False) w (w.alloc (.cells #[.int .i64 4, .int .i64 a, .int .i64 b, .int .i64 c, .string s, .string t, .string u] 27)) := But.alloc _ _ _
 have hg1 := (hB1.block _ (lt_of_block hg0) (fun h => h)).trans hg0
 have hBw := hBW.trans hB1
 clear hg0 hBW hB1
 have k4 : w1.cell? ⟨w.heap.size, 4, none⟩ = some (.string s) := by rw [cell_of_row w1 _ 4 _ _ (0, 0) hg1]; rfl
 have hgl := lt_of_block hg1
 go_wp2_with fail
 refine (H2.out _).mono ?_
 rintro en w2 ⟨rfl, hB2⟩
 have hB := hBw.trans hB2
 clear hB2 hBw
 go_wp2_with fail
 refine (num_any _ _).mono ?_
 rintro en w3 ⟨rfl, rfl⟩
 go_wp2_with fail
 all_goals go_ret
 all_goals exact ⟨rfl, hB⟩
theorem scans_all (ao : Option Addr) (n cap : Nat) (w : World) (hO : OpsAt w ao n) :
  Calls Tryz.prog 10 #[.slice ao n cap] w fun en w' => en = .returned (.bool true) ∧ But (fun _ => False) w w' := by
 have HU := hid (upto_kind 4 plays_scan ao n cap w hO)
 clear hO
 go_enter Tryz.func10, Tryz.ntmps10
 go_wp2_with fail
 refine HU.out.mono ?_
 rintro en w1 ⟨rfl, hB⟩
 go_wp2_with fail
 all_goals go_ret
 all_goals exact ⟨rfl, hB⟩
end Go.Proofs.YtpfkkmacakjmbaaGreatDoor
