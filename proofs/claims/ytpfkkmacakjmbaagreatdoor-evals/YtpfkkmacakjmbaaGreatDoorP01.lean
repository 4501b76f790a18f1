import Derived.Test.YtpfkkmacakjmbaaGreatDoorP00
import Derived.Test.YtpfkkmacakjmbaaGreatDoorCards
import Derived.Test.YtpfkkmacakjmbaaGreatDoorTie
import Derived.WalkKit
import Derived.ProofKit
import Derived.OpenShut
import Derived.Carry
import Derived.Deep.Slices
import Derived.Deep.DeepHandedRow
import Derived.Lib.LaidTab
set_option maxRecDepth 100000
set_option maxHeartbeats 6400000
namespace Go.Proofs.YtpfkkmacakjmbaaGreatDoor
open Go Go.RowKit Sp
set_option linter.unusedSimpArgs false
set_option linter.unusedVariables false
attribute [local go_sem ↓] Go.wp_at_zero Go.wp_at_succ
theorem num_any (e : Int) (w : World) :
  Calls Tryz.prog 21 #[.int .i64 e] w fun en w' => en = .returned (.int .i64 e) ∧ w' = w := by
 go_enter Tryz.func21, Tryz.ntmps21
 go_wp2_with fail
 all_goals go_ret
 all_goals exact ⟨rfl, rfl⟩
structure OpAt (w : World) (b o : Nat) (kd : Int) (s : ByteArray) : Prop where
 rest : ∃ (x y z : Int) (t u : ByteArray), w.cell? ⟨b, o, none⟩ = some (.int .i64 kd) ∧ w.cell? ⟨b, o + 1, none⟩ = some (.int .i64 x) ∧ w.cell? ⟨b, o + 2, none⟩ = some (.int .i64 y) ∧ w.cell? ⟨b, o + 3, none⟩ = some (.int .i64 z) ∧
  w.cell? ⟨b, o + 4, none⟩ = some (.string s) ∧ w.cell? ⟨b, o + 5, none⟩ = some (.string t) ∧ w.cell? ⟨b, o + 6, none⟩ = some (.string u)
 short : s.size ≤ maxLen
def OpsAt (w : World) (ao : Option Addr) (n : Nat) : Prop :=
 n ≤ maxLen ∧ (0 < n → ∃ b o, ao = some ⟨b, o, none⟩ ∧ b < w.heap.size ∧ ∀ k, k < n → ∃ kd s, OpAt w b (o + k * 7) kd s)
theorem upto_kindI (I : World → Prop) (hI : ∀ w w', I w → But (fun _ => False) w w' → I w') (K : Int) (hP : ∀ (x y z : Int) (s t u : ByteArray) (w : World), I w → s.size ≤ maxLen → Calls Tryz.prog 27 #[.agg #[.int .i64 K, .int .i64 x, .int .i64 y, .int .i64 z, .string s, .string t, .string u]] w fun en w' => en = .returned (.bool true) ∧ But (fun _ => False) w w') (ao : Option Addr) (n cap : Nat) (w : World) (hw : I w) (hO : OpsAt w ao n) :
  Calls Tryz.prog 15 #[.slice ao n cap, .int .i64 K, .int .i64 K] w fun en w' => en = .returned (.int .i64 (-1)) ∧ But (fun _ => False) w w' := by
 have HP := hid (fun x y z s t u w1 (hB : But (fun _ => False) w w1) => hP x y z s t u w1 (hI w w1 hw hB))
 clear hP hI hw
 go_enter Tryz.func15, Tryz.ntmps15
 go_wp2_with fail
 have hn : n ≤ 9223372036854775807 := hO.1
 go_loopg [7] n (fun mm is wr => ∃ (k : Nat), is = .int .i64 k ∧ k ≤ n ∧ k + mm ≤ n ∧ n ≤ k + mm ∧ But (fun _ => False) w wr)
 case atStart => exact ⟨0, rfl, by omega, by omega, by omega, But.refl _ _⟩
 case round =>
  obtain ⟨k, rfl, hk1, hk2, hk3, hBr⟩ := hrel
  clear hk2
  by_cases hlt : k < n
  ·have hkn : (k : Int) < (n : Int) := by omega
   obtain ⟨b, o, rfl, hb, hA⟩ := hO.2 (by omega)
   obtain ⟨kd, s, ⟨x, y, z, t, u, q0, q1, q2, q3, q4, q5, q6⟩, hs⟩ := hA k hlt
   have hbr : b < wr.heap.size := Nat.lt_of_lt_of_le hb hBr.size
   rw [← hBr.cell (p := ⟨b, _, none⟩) hb (fun h => h)] at q0 q1 q2 q3 q4 q5 q6
   clear hA
   have hwr : IntKind.i64.wrap ((k : Int) + 1) = (k : Int) + 1 := (IntWalk.i64_left _).trans (IntWalk.wrap64_in _ ⟨by omega, by omega⟩)
   by_cases hmx : (k : Int) < 1152921504606846976
   ·rcases Int.lt_trichotomy kd K with h1 | h1 | h1
    ·have hB2 := hBr.trans (But.alloc _ wr (.cells #[.int .i64 kd, .int .i64 x, .int .i64 y, .int .i64 z, .string s, .string t, .string u] 27))
     have g1 : decide (K ≤ kd) = false := decide_eq_false (by omega)
     clear hO hlt hn h1 hb
     go_wp2_with fail
     go_roundg (n - (k + 1))
     case measure => omega
     case rel => exact ⟨k + 1, by simp, by omega, by omega, by omega, hB2⟩
    ·subst h1
     have g1 : decide (kd ≤ kd) = true := decide_eq_true (by omega)
     go_wp2_with fail
     refine (HP.out x y z s t u _ (hBr.trans (But.alloc _ _ _)) hs).mono ?_
     rintro en w1 ⟨rfl, hB1⟩
     have hB2 := hBr.trans ((But.alloc _ _ _).trans hB1)
     clear hB1
     go_wp2_with fail
     go_roundg (n - (k + 1))
     case measure => omega
     case rel => exact ⟨k + 1, by simp, by omega, by omega, by omega, hB2⟩
    ·have hB2 := hBr.trans (But.alloc _ wr (.cells #[.int .i64 kd, .int .i64 x, .int .i64 y, .int .i64 z, .string s, .string t, .string u] 27))
     have g1 : decide (K ≤ kd) = true := decide_eq_true (by omega)
     have g2 : decide (kd ≤ K) = false := decide_eq_false (by omega)
     clear hO hlt hn h1 hb
     go_wp2_with fail
     go_roundg (n - (k + 1))
     case measure => omega
     case rel => exact ⟨k + 1, by simp, by omega, by omega, by omega, hB2⟩
   ·go_wp2_with fail
    exact bodyPost_ret (v := .int .i64 (-1)) (by simp [results, Tryz.results15, go_sem]) rfl ⟨rfl, hBr⟩
  ·have hkn : ¬ (k : Int) < (n : Int) := by omega
   go_wp2_with fail
   exact bodyPost_ret (v := .int .i64 (-1)) (by simp [results, Tryz.results15, go_sem]) rfl ⟨rfl, hBr⟩
end Go.Proofs.YtpfkkmacakjmbaaGreatDoor
namespace Go.Proofs.YtpfkkmacakjmbaaGreatDoor
open Go Go.RowKit Sp Go.ChangeShapes Go.WideShapes Go.ChangeAt
set_option linter.unusedSimpArgs false
set_option linter.unusedVariables false
theorem rowOwn : ownKnob Tryz.prog.godebug = none := by kernel_rfl
theorem rowLaid : laidOutB Tryz.prog = true := by kernel_rfl
theorem cellsOp : Tryz.prog.cellsOf 27 = 7 := by kernel_rfl
theorem cellsI : Tryz.prog.cellsOf 3 = 1 := by kernel_rfl
theorem cellsS : Tryz.prog.cellsOf 9 = 1 := by kernel_rfl
theorem fieldsOp : ∃ f0 f1 f2 f3 f4 f5 f6 : Field, Tryz.prog.underlying 27 = some (.struct #[f0, f1, f2, f3, f4, f5, f6]) ∧
  (f0.type = 3 ∧ f0.offset = 0) ∧ (f1.type = 3 ∧ f1.offset = 1) ∧ (f2.type = 3 ∧ f2.offset = 2) ∧ (f3.type = 3 ∧ f3.offset = 3) ∧
  (f4.type = 9 ∧ f4.offset = 4) ∧ (f5.type = 9 ∧ f5.offset = 5) ∧ (f6.type = 9 ∧ f6.offset = 6) :=
 ⟨_, _, _, _, _, _, _, Tryz.underlying27, ⟨rfl, rfl⟩, ⟨rfl, rfl⟩, ⟨rfl, rfl⟩, ⟨rfl, rfl⟩, ⟨rfl, rfl⟩, ⟨rfl, rfl⟩, ⟨rfl, rfl⟩⟩
theorem cell_lt {w : World} {a : Addr} {v : Value} (h : w.cell? a = some v) : a.block < w.heap.size := by
 rcases Nat.lt_or_ge a.block w.heap.size with h1 | h1
 ·exact h1
 ·unfold World.cell? at h
  rw [Array.getElem?_eq_none h1] at h
  simp at h
section
variable {H : Type} {enc : TypeId × Value → H} {W : World}
/-- What the reading of a script gives: it lies in memory as the walk wants it. -/
theorem ops_of_trod {v : Value} {d : DataW H} {ps : List MemPlace} (h : DataW.Trod enc Tryz.prog W 0 (fun _ => true) true 22 v d ps) (hv : v.cells.toList = [v]) :
  ∃ ao n cap, v = .slice ao n cap ∧ OpsAt W ao n := by
 obtain ⟨fuel, h⟩ := h
 rcases Deep.open_slice Tryz.underlying22 h with ⟨h0, _⟩ | ⟨a, len, cap, m, n, D, Pl, h0, hb, hl, hm, hmm, _, hx⟩
 ·rw [hv] at h0
  refine ⟨none, 0, 0, by simpa using h0, by unfold maxLen; omega, fun h => absurd h (by omega)⟩
 ·rw [hv] at h0
  refine ⟨some a, len, cap, by simpa using h0, by omega, fun hp => ?_⟩
  have hlm : len ≤ m := by rw [hmm]; split <;> omega
  obtain ⟨f0, f1, f2, f3, f4, f5, f6, hu, ⟨t0, o0⟩, ⟨t1, o1⟩, ⟨t2, o2⟩, ⟨t3, o3⟩, ⟨t4, o4⟩, ⟨t5, o5⟩, ⟨t6, o6⟩⟩ := fieldsOp
  have each : ∀ k, k < len → ∃ cs, (∀ i, i < 7 → W.cell? (a.add (k * 7 + i)) = cs[i]?) ∧ ∃ kd x y z s t u, cs = [Value.int .i64 kd, .int .i64 x, .int .i64 y, .int .i64 z, .string s, .string t, .string u] ∧ s.size ≤ maxLen := by
   intro k hk
   obtain ⟨cs', h1, h2⟩ := hx k (by omega)
   rw [cellsOp] at h1
   obtain ⟨_, hlen, hcell⟩ := World.cells?_some h1
   obtain ⟨xs, k', _, hxy, _, hxl, hf⟩ := DataW.trod_struct hu h2
   refine ⟨cs', fun i hi => by rw [← hcell i hi, Deep.add_add], ?_⟩
   match cs', hlen with
   | [v0, v1, v2, v3, v4, v5, v6], _ =>
   match xs, hxl with
   | [y0, y1, y2, y3, y4, y5, y6], _ =>
   have g0 := hf 0 f0 rfl
   have g1 := hf 1 f1 rfl
   have g2 := hf 2 f2 rfl
   have g3 := hf 3 f3 rfl
   have g4 := hf 4 f4 rfl
   have g5 := hf 5 f5 rfl
   have g6 := hf 6 f6 rfl
   rw [t0, o0, cellsI] at g0
   rw [t1, o1, cellsI] at g1
   rw [t2, o2, cellsI] at g2
   rw [t3, o3, cellsI] at g3
   rw [t4, o4, cellsS] at g4
   rw [t5, o5, cellsS] at g5
   rw [t6, o6, cellsS] at g6
   obtain ⟨i0, e0, _⟩ := DataW.trod_int Tryz.underlying3 g0
   obtain ⟨i1, e1, _⟩ := DataW.trod_int Tryz.underlying3 g1
   obtain ⟨i2, e2, _⟩ := DataW.trod_int Tryz.underlying3 g2
   obtain ⟨i3, e3, _⟩ := DataW.trod_int Tryz.underlying3 g3
   obtain ⟨i4, e4, _, l4⟩ := DataW.trod_string Tryz.underlying9 g4
   obtain ⟨i5, e5, _⟩ := DataW.trod_string Tryz.underlying9 g5
   obtain ⟨i6, e6, _⟩ := DataW.trod_string Tryz.underlying9 g6
   simp at e0 e1 e2 e3 e4 e5 e6
   subst e0 e1 e2 e3 e4 e5 e6
   exact ⟨i0, i1, i2, i3, i4, i5, i6, rfl, l4⟩
  obtain ⟨b, off, spot⟩ := a
  obtain ⟨cs, hc, kd, x, y, z, s, t, u, rfl, _⟩ := each 0 hp
  have c0 := hc 0 (by omega)
  have c1 : W.cell? ⟨b, off, spot⟩ = some (.int .i64 kd) := c0
  have hspot : spot = none := World.cell?_spot c1
  subst hspot
  refine ⟨b, off, rfl, cell_lt c1, fun k hk => ?_⟩
  obtain ⟨cs, hc, kd, x, y, z, s, t, u, rfl, hs⟩ := each k hk
  simp only [WideShapes.add_plain] at hc
  exact ⟨kd, s, ⟨x, y, z, t, u, hc 0 (by omega), hc 1 (by omega), hc 2 (by omega), hc 3 (by omega), hc 4 (by omega), hc 5 (by omega), hc 6 (by omega)⟩, hs⟩
end
end Go.Proofs.YtpfkkmacakjmbaaGreatDoor
