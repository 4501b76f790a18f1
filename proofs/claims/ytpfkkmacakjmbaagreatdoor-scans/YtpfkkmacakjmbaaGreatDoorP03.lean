import Derived.Test.YtpfkkmacakjmbaaGreatDoorP02
import Derived.Test.YtpfkkmacakjmbaaGreatDoorP01
/- The order of types: a partial order, the meeting the least above both. -/
namespace Go.Proofs.YtpfkkmacakjmbaaGreatDoor
open Go Sp
set_option linter.unusedSimpArgs false
set_option linter.unusedVariables false
theorem parOf_lt {cs : List Cls} (hw : WfC cs) {p : Int} (hp : 0 ≤ p) : parOf cs p < p ∧ -1 ≤ parOf cs p := by
 unfold parOf
 cases h : cs[p.toNat]? with
 | none => simp; omega
 | some c =>
  have := hw _ _ h
  simp
  omega
theorem under_more {cs : List Cls} (hw : WfC cs) : ∀ {f : Nat} {p y : Int}, p < f → under cs f p y = under cs (f + 1) p y := by
 intro f
 induction f with
 | zero => intro p y h; simp [under]; intro h'; omega
 | succ f ih =>
  intro p y h
  rw [under, under]
  by_cases h0 : p < 0
  ·simp [h0]
  ·simp only [h0, if_false]
   by_cases hy : p = y
   ·simp [hy]
   ·simp only [hy, if_false]
    have := parOf_lt hw (p := p) (by omega)
    exact ih (by omega)
theorem U_step {cs : List Cls} (hw : WfC cs) {x y : Int} (h0 : 0 ≤ x) (h1 : x ≤ 4) : under cs 5 x y = true ↔ x = y ∨ under cs 5 (parOf cs x) y = true := by
 rw [under]
 simp only [if_neg (show ¬ x < 0 by omega)]
 by_cases hy : x = y
 ·simp [hy]
 ·simp only [hy, if_false, false_or]
  have := parOf_lt hw h0
  rw [under_more hw (by omega : parOf cs x < (4 : Nat))]
theorem U_neg {cs : List Cls} (hw : WfC cs) {x y : Int} (h : x < 0) : under cs 5 x y = false := by
 rw [under]; simp [h]
theorem U_refl {cs : List Cls} (hw : WfC cs) {x : Int} (h : 0 ≤ x) : under cs 5 x x = true := by
 rw [under]; simp; omega
theorem U_le {cs : List Cls} (hw : WfC cs) : ∀ (k : Nat) {x y : Int}, x ≤ k → k ≤ 4 → under cs 5 x y = true → 0 ≤ y ∧ y ≤ x := by
 intro k
 induction k with
 | zero =>
  intro x y hx hk h
  by_cases h0 : x < 0
  ·rw [U_neg hw h0] at h; cases h
  ·rcases (U_step hw (by omega) (by omega)).1 h with rfl | h
   ·omega
   ·have := parOf_lt hw (p := x) (by omega)
    rw [U_neg hw (by omega)] at h; cases h
 | succ k ih =>
  intro x y hx hk h
  by_cases h0 : x < 0
  ·rw [U_neg hw h0] at h; cases h
  ·rcases (U_step hw (by omega) (by omega)).1 h with rfl | h
   ·omega
   ·have := parOf_lt hw (p := x) (by omega)
    have := ih (by omega) (by omega) h
    omega
theorem U_trans {cs : List Cls} (hw : WfC cs) : ∀ (k : Nat) {x y z : Int}, x ≤ k → k ≤ 4 → under cs 5 x y = true → under cs 5 y z = true → under cs 5 x z = true := by
 intro k
 induction k with
 | zero =>
  intro x y z hx hk h h'
  by_cases h0 : x < 0
  ·rw [U_neg hw h0] at h; cases h
  ·rcases (U_step hw (by omega) (by omega)).1 h with rfl | h
   ·exact h'
   ·have := parOf_lt hw (p := x) (by omega)
    rw [U_neg hw (by omega)] at h; cases h
 | succ k ih =>
  intro x y z hx hk h h'
  by_cases h0 : x < 0
  ·rw [U_neg hw h0] at h; cases h
  ·rcases (U_step hw (by omega) (by omega)).1 h with rfl | h
   ·exact h'
   ·have := parOf_lt hw (p := x) (by omega)
    exact (U_step hw (by omega) (by omega)).2 (Or.inr (ih (by omega) (by omega) h h'))
/-- What lies above one class lies in a row. -/
theorem U_row {cs : List Cls} (hw : WfC cs) : ∀ (k : Nat) {x y z : Int}, x ≤ k → k ≤ 4 → under cs 5 x y = true → under cs 5 x z = true → under cs 5 y z = true ∨ under cs 5 z y = true := by
 intro k
 induction k with
 | zero =>
  intro x y z hx hk h h'
  by_cases h0 : x < 0
  ·rw [U_neg hw h0] at h; cases h
  ·rcases (U_step hw (by omega) (by omega)).1 h with rfl | h
   ·exact Or.inl h'
   ·have := parOf_lt hw (p := x) (by omega)
    rw [U_neg hw (by omega)] at h; cases h
 | succ k ih =>
  intro x y z hx hk h h'
  by_cases h0 : x < 0
  ·rw [U_neg hw h0] at h; cases h
  ·rcases (U_step hw (by omega) (by omega)).1 h with rfl | h1
   ·exact Or.inl h'
   ·rcases (U_step hw (by omega) (by omega)).1 h' with rfl | h2
    ·exact Or.inr h
    ·have := parOf_lt hw (p := x) (by omega)
     exact ih (by omega) (by omega) h1 h2
/-- The first above p that y is under. -/
theorem joinF_spec {cs : List Cls} (hw : WfC cs) : ∀ {f : Nat} {p y : Int}, p < f → f ≤ 5 → p ≤ 3 →
  (joinF cs y f p = 45 ∧ ∀ q, under cs 5 p q = true → under cs 5 y q = false) ∨
  ∃ q : Nat, q ≤ 3 ∧ joinF cs y f p = UInt8.ofNat (65 + q) ∧ under cs 5 p q = true ∧ under cs 5 y q = true ∧ ∀ r, under cs 5 p r = true → under cs 5 y r = true → under cs 5 q r = true := by
 intro f
 induction f with
 | zero => intro p y h _ _; left; exact ⟨rfl, fun q hq => by rw [U_neg hw (by omega)] at hq; cases hq⟩
 | succ f ih =>
  intro p y h hf hp3
  rw [joinF]
  by_cases h0 : p < 0
  ·left
   rw [if_pos h0]
   exact ⟨rfl, fun q hq => by rw [U_neg hw h0] at hq; cases hq⟩
  ·rw [if_neg h0]
   by_cases hy : under cs 5 y p = true
   ·right
    rw [if_pos hy]
    refine ⟨p.toNat, by omega, rfl, ?_, ?_, ?_⟩
    ·rw [Int.toNat_of_nonneg (by omega)]; exact U_refl hw (by omega)
    ·rw [Int.toNat_of_nonneg (by omega)]; exact hy
    ·intro r hr _; rw [Int.toNat_of_nonneg (by omega)]; exact hr
   ·rw [if_neg hy]
    have := parOf_lt hw (p := p) (by omega)
    rcases ih (p := parOf cs p) (y := y) (by omega) (by omega) (by omega) with ⟨h1, h2⟩ | ⟨q, hq, h1, h2, h3, h4⟩
    ·left
     refine ⟨h1, fun q hq => ?_⟩
     rcases (U_step hw (by omega) (by omega)).1 hq with rfl | hq
     ·simpa using hy
     ·exact h2 q hq
    ·right
     refine ⟨q, hq, h1, (U_step hw (by omega) (by omega)).2 (Or.inr h2), h3, fun r hr hr' => ?_⟩
     rcases (U_step hw (by omega) (by omega)).1 hr with rfl | hr
     ·exact absurd hr' hy
     ·exact h4 r hr hr'
/-- The number of a class's letter. -/
abbrev kl (c : UInt8) : Int := (c.toNat : Int) - 65
theorem subT_iff {cs : List Cls} {a b : UInt8} : subT cs a b = true ↔ a = b ∨ b.toNat = 45 ∨ (isC b = true ∧ a.toNat = 122) ∨ (isC a = true ∧ isC b = true ∧ under cs 5 (kl a) (kl b) = true) := by
 unfold subT
 have e : a = b ↔ a.toNat = b.toNat := UInt8.toNat_inj.symm
 rw [e]
 by_cases h1 : a.toNat = b.toNat ∨ b.toNat = 45
 ·simp only [if_pos h1, true_iff]; rcases h1 with h | h <;> simp [h]
 ·rw [if_neg h1]
  have h1' := not_or.1 h1
  simp only [h1'.1, h1'.2, false_or]
  by_cases hb : isC b = false
  ·simp [hb]
  ·have hb' : isC b = true := by simpa using hb
   simp only [hb, if_false, hb', true_and]
   by_cases ha : a.toNat = 122
   ·simp [ha]
   ·simp only [ha, if_false, false_or]
    by_cases hc : isC a = false
    ·simp [hc]
    ·have hc' : isC a = true := by simpa using hc
     simp [hc, hc']
theorem subT_refl {cs : List Cls} (a : UInt8) : subT cs a a = true := subT_iff.2 (Or.inl rfl)
theorem kl_range {cs : List Cls} (hw : WfC cs) {c : UInt8} (h : isC c = true) : 0 ≤ kl c ∧ kl c ≤ 3 := by
 rw [isC_iff] at h
 unfold kl
 omega
theorem subT_trans {cs : List Cls} (hw : WfC cs) {a b c : UInt8} (h : subT cs a b = true) (h' : subT cs b c = true) : subT cs a c = true := by
 rw [subT_iff] at h h'
 rw [subT_iff]
 rcases h with rfl | h | ⟨h1, h2⟩ | ⟨h1, h2, h3⟩
 ·exact h'
 ·rcases h' with rfl | h' | ⟨h1, h2⟩ | ⟨h1, h2, h3⟩
  ·exact Or.inr (Or.inl h)
  ·exact Or.inr (Or.inl h')
  ·omega
  ·rw [isC_iff] at h1; omega
 ·rcases h' with rfl | h' | ⟨h3, h4⟩ | ⟨h3, h4, h5⟩
  ·exact Or.inr (Or.inr (Or.inl ⟨h1, h2⟩))
  ·exact Or.inr (Or.inl h')
  ·rw [isC_iff] at h1; omega
  ·exact Or.inr (Or.inr (Or.inl ⟨h4, h2⟩))
 ·rcases h' with rfl | h' | ⟨h4, h5⟩ | ⟨h4, h5, h6⟩
  ·exact Or.inr (Or.inr (Or.inr ⟨h1, h2, h3⟩))
  ·exact Or.inr (Or.inl h')
  ·rw [isC_iff] at h2; omega
  ·have := kl_range hw h1
   exact Or.inr (Or.inr (Or.inr ⟨h1, h5, U_trans hw 4 (by omega) (by omega) h3 h6⟩))
theorem subT_anti {cs : List Cls} (hw : WfC cs) {a b : UInt8} (h : subT cs a b = true) (h' : subT cs b a = true) : a = b := by
 rw [subT_iff] at h h'
 have e : a.toNat = b.toNat → a = b := UInt8.toNat_inj.1
 rcases h with h | h | ⟨h1, h2⟩ | ⟨h1, h2, h3⟩
 ·exact h
 ·rcases h' with h' | h' | ⟨h1, h2⟩ | ⟨h1, h2, h3⟩
  ·exact h'.symm
  ·exact e (by omega)
  ·omega
  ·rw [isC_iff] at h1; omega
 ·rcases h' with h' | h' | ⟨h3, h4⟩ | ⟨h3, h4, h5⟩
  ·exact h'.symm
  ·omega
  ·rw [isC_iff] at h1; omega
  ·rw [isC_iff] at h4; omega
 ·rcases h' with h' | h' | ⟨h4, h5⟩ | ⟨h4, h5, h6⟩
  ·exact h'.symm
  ·rw [isC_iff] at h1; omega
  ·rw [isC_iff] at h2; omega
  ·have r1 := kl_range hw h1
   have r2 := kl_range hw h2
   have := U_le hw 4 (by omega) (by omega) h3
   have := U_le hw 4 (by omega) (by omega) h6
   apply e
   unfold kl at *
   omega
theorem cls_letter {cs : List Cls} (hw : WfC cs) {q : Nat} (hq : q ≤ 3) : isC (UInt8.ofNat (65 + q)) = true ∧ kl (UInt8.ofNat (65 + q)) = q := by
 have h : (UInt8.ofNat (65 + q)).toNat = 65 + q := by simp; omega
 rw [isC_iff]
 unfold kl
 omega
/-- The meeting lies above both, and below all that does. -/
theorem joinT_lub {cs : List Cls} (hw : WfC cs) (a b : UInt8) : subT cs a (joinT cs a b) = true ∧ subT cs b (joinT cs a b) = true ∧ ∀ c, subT cs a c = true → subT cs b c = true → subT cs (joinT cs a b) c = true := by
 unfold joinT
 by_cases h1 : subT cs a b = true
 ·rw [if_pos h1]; exact ⟨h1, subT_refl _, fun c _ h => h⟩
 rw [if_neg h1]
 by_cases h2 : subT cs b a = true
 ·rw [if_pos h2]; exact ⟨subT_refl _, h2, fun c h _ => h⟩
 rw [if_neg h2]
 have top : ∀ x : UInt8, subT cs x 45 = true := fun x => subT_iff.2 (Or.inr (Or.inl rfl))
 by_cases h3 : isC a = false ∨ isC b = false
 ·rw [if_pos h3]
  refine ⟨top _, top _, fun c ha hb => ?_⟩
  rw [subT_iff] at ha hb
  have hc : c.toNat = 45 := by
   rcases ha with rfl | ha | ⟨p1, p2⟩ | ⟨p1, p2, p3⟩
   ·exact absurd (subT_iff.2 hb) h2
   ·exact ha
   ·rcases hb with rfl | hb | ⟨q1, q2⟩ | ⟨q1, q2, q3⟩
    ·exact absurd (subT_iff.2 (Or.inr (Or.inr (Or.inl ⟨p1, p2⟩)))) h1
    ·exact hb
    ·exact absurd (subT_iff.2 (Or.inl (UInt8.toNat_inj.1 (by omega)))) h1
    ·exact absurd (subT_iff.2 (Or.inr (Or.inr (Or.inl ⟨q1, p2⟩)))) h1
   ·rcases hb with rfl | hb | ⟨q1, q2⟩ | ⟨q1, q2, q3⟩
    ·exact absurd (subT_iff.2 (Or.inr (Or.inr (Or.inr ⟨p1, p2, p3⟩)))) h1
    ·exact hb
    ·exact absurd (subT_iff.2 (Or.inr (Or.inr (Or.inl ⟨p1, q2⟩)))) h2
    ·rcases h3 with h3 | h3
     ·rw [h3] at p1; cases p1
     ·rw [h3] at q1; cases q1
  exact subT_iff.2 (Or.inr (Or.inl hc))
 rw [if_neg h3]
 have ha : isC a = true := by have := not_or.1 h3; simpa using this.1
 have hb : isC b = true := by have := not_or.1 h3; simpa using this.2
 have r1 := kl_range hw ha
 have r2 := kl_range hw hb
 have hp := parOf_lt hw (p := kl a) r1.1
 have base : ∀ c, subT cs a c = true → subT cs b c = true → c.toNat = 45 ∨ (isC c = true ∧ under cs 5 (parOf cs (kl a)) (kl c) = true ∧ under cs 5 (kl b) (kl c) = true) := by
  intro c hac hbc
  rw [subT_iff] at hac hbc
  rcases hac with rfl | hac | ⟨p1, p2⟩ | ⟨p1, p2, p3⟩
  ·exact absurd (subT_iff.2 hbc) h2
  ·exact Or.inl hac
  ·rw [isC_iff] at ha; omega
  ·rcases hbc with rfl | hbc | ⟨q1, q2⟩ | ⟨q1, q2, q3⟩
   ·exact absurd (subT_iff.2 (Or.inr (Or.inr (Or.inr ⟨p1, p2, p3⟩)))) h1
   ·exact Or.inl hbc
   ·rw [isC_iff] at hb; omega
   ·rcases (U_step hw r1.1 (by omega)).1 p3 with h | h
    ·have : a = c := by
      apply UInt8.toNat_inj.1
      unfold kl at h
      omega
     subst this
     exact absurd (subT_iff.2 (Or.inr (Or.inr (Or.inr ⟨q1, q2, q3⟩)))) h2
    ·exact Or.inr ⟨p2, h, q3⟩
 rcases joinF_spec hw (f := 5) (p := parOf cs (kl a)) (y := kl b) (by omega) (by omega) (by omega) with ⟨e, hno⟩ | ⟨q, hq, e, e1, e2, e3⟩
 ·rw [show joinF cs ((b.toNat : Int) - 65) 5 (parOf cs ((a.toNat : Int) - 65)) = 45 from e]
  refine ⟨top _, top _, fun c hac hbc => ?_⟩
  rcases base c hac hbc with h | ⟨_, h4, h5⟩
  ·exact subT_iff.2 (Or.inr (Or.inl h))
  ·rw [hno _ h4] at h5; cases h5
 ·rw [show joinF cs ((b.toNat : Int) - 65) 5 (parOf cs ((a.toNat : Int) - 65)) = UInt8.ofNat (65 + q) from e]
  obtain ⟨l1, l2⟩ := cls_letter hw hq
  refine ⟨?_, ?_, fun c hac hbc => ?_⟩
  ·rw [subT_iff, l2]
   exact Or.inr (Or.inr (Or.inr ⟨ha, l1, (U_step hw r1.1 (by omega)).2 (Or.inr e1)⟩))
  ·rw [subT_iff, l2]
   exact Or.inr (Or.inr (Or.inr ⟨hb, l1, e2⟩))
  ·rcases base c hac hbc with h | ⟨h3, h4, h5⟩
   ·exact subT_iff.2 (Or.inr (Or.inl h))
   ·rw [subT_iff, l2]
    exact Or.inr (Or.inr (Or.inr ⟨l1, h3, e3 _ h4 h5⟩))
end Go.Proofs.YtpfkkmacakjmbaaGreatDoor
/- The steps of one kind of a script. -/
namespace Go.Proofs.YtpfkkmacakjmbaaGreatDoor
open Go Go.RowKit Sp
set_option linter.unusedSimpArgs false
set_option linter.unusedVariables false
attribute [local go_sem ↓] Go.wp_at_zero Go.wp_at_succ
theorem num_any (e : Int) (w : World) :
  Calls Tryz.prog 21 #[.int .i64 e] w fun en w' => en = .returned (.int .i64 e) ∧ w' = w := by
 go_enter Tryz.func21, Tryz.ntmps21
 go_wp2_with fail
 all_goals go_ret
 all_goals exact ⟨rfl, rfl⟩
/-- One step of a script, at its place. -/
structure OpAt (w : World) (b o : Nat) (kd : Int) (s : ByteArray) : Prop where
 rest : ∃ (x y z : Int) (t u : ByteArray), w.cell? ⟨b, o, none⟩ = some (.int .i64 kd) ∧ w.cell? ⟨b, o + 1, none⟩ = some (.int .i64 x) ∧ w.cell? ⟨b, o + 2, none⟩ = some (.int .i64 y) ∧ w.cell? ⟨b, o + 3, none⟩ = some (.int .i64 z) ∧
  w.cell? ⟨b, o + 4, none⟩ = some (.string s) ∧ w.cell? ⟨b, o + 5, none⟩ = some (.string t) ∧ w.cell? ⟨b, o + 6, none⟩ = some (.string u)
 short : s.size ≤ maxLen
/-- A script, as it lies in memory. -/
def OpsAt (w : World) (ao : Option Addr) (n : Nat) : Prop :=
 n ≤ maxLen ∧ (0 < n → ∃ b o, ao = some ⟨b, o, none⟩ ∧ b < w.heap.size ∧ ∀ k, k < n → ∃ kd s, OpAt w b (o + k * 7) kd s)
set_option maxHeartbeats 1600000 in
set_option maxRecDepth 100000 in
theorem upto_kind (K : Int) (hP : ∀ (x y z : Int) (s t u : ByteArray) (w : World), s.size ≤ maxLen → Calls Tryz.prog 27 #[.agg #[.int .i64 K, .int .i64 x, .int .i64 y, .int .i64 z, .string s, .string t, .string u]] w fun en w' => en = .returned (.bool true) ∧ But (fun _ => False) w w') (ao : Option Addr) (n cap : Nat) (w : World) (hO : OpsAt w ao n) :
  Calls Tryz.prog 15 #[.slice ao n cap, .int .i64 K, .int .i64 K] w fun en w' => en = .returned (.int .i64 (-1)) ∧ But (fun _ => False) w w' := by
 have HP := hid hP
 clear hP
 go_enter Tryz.func15, Tryz.ntmps15
 go_wp2_with fail
 have hn : n ≤ 9223372036854775807 := hO.1
 go_loopg [7] n (fun mm is wr => ∃ (k : Nat), is = .int .i64 k ∧ k ≤ n ∧ k + mm ≤ n ∧ n ≤ k + mm ∧ But (fun _ => False) w wr)
 case atStart => exact ⟨0, rfl, by omega, by omega, by omega, But.refl _ _⟩
 case round =>
  obtain ⟨k, rfl, hk1, hk2, hk3, hBr⟩ := hrel
  clear hk2
  by_cases hlt : k < n
  ·have hkn : (k : Int) < (n : Int) := by omega
   obtain ⟨b, o, rfl, hb, hA⟩ := hO.2 (by omega)
   obtain ⟨kd, s, ⟨x, y, z, t, u, q0, q1, q2, q3, q4, q5, q6⟩, hs⟩ := hA k hlt
   have hbr : b < wr.heap.size := Nat.lt_of_lt_of_le hb hBr.size
   rw [← hBr.cell (p := ⟨b, _, none⟩) hb (fun h => h)] at q0 q1 q2 q3 q4 q5 q6
   clear hA
   have hwr : IntKind.i64.wrap ((k : Int) + 1) = (k : Int) + 1 := (IntWalk.i64_left _).trans (IntWalk.wrap64_in _ ⟨by omega, by omega⟩)
   by_cases hmx : (k : Int) < 1152921504606846976
   ·rcases Int.lt_trichotomy kd K with h1 | h1 | h1
    ·have hB2 := hBr.trans (But.alloc _ wr (.cells #[.int .i64 kd, .int .i64 x, .int .i64 y, .int .i64 z, .string s, .string t, .string u] 27))
     have g1 : decide (K ≤ kd) = false := decide_eq_false (by omega)
     clear hO hlt hn h1 hb
     go_wp2_with fail
     go_roundg (n - (k + 1))
     case measure => omega
     case rel => exact ⟨k + 1, by simp, by omega, by omega, by omega, hB2⟩
    ·subst h1
     have g1 : decide (kd ≤ kd) = true := decide_eq_true (by omega)
     go_wp2_with fail
     refine (HP.out x y z s t u _ hs).mono ?_
     rintro en w1 ⟨rfl, hB1⟩
     have hB2 := hBr.trans ((But.alloc _ _ _).trans hB1)
     clear hB1
     go_wp2_with fail
     go_roundg (n - (k + 1))
     case measure => omega
     case rel => exact ⟨k + 1, by simp, by omega, by omega, by omega, hB2⟩
    ·have hB2 := hBr.trans (But.alloc _ wr (.cells #[.int .i64 kd, .int .i64 x, .int .i64 y, .int .i64 z, .string s, .string t, .string u] 27))
     have g1 : decide (K ≤ kd) = true := decide_eq_true (by omega)
     have g2 : decide (kd ≤ K) = false := decide_eq_false (by omega)
     clear hO hlt hn h1 hb
     go_wp2_with fail
     go_roundg (n - (k + 1))
     case measure => omega
     case rel => exact ⟨k + 1, by simp, by omega, by omega, by omega, hB2⟩
   ·go_wp2_with fail
    exact bodyPost_ret (v := .int .i64 (-1)) (by simp [results, Tryz.results15, go_sem]) rfl ⟨rfl, hBr⟩
  ·have hkn : ¬ (k : Int) < (n : Int) := by omega
   go_wp2_with fail
   exact bodyPost_ret (v := .int .i64 (-1)) (by simp [results, Tryz.results15, go_sem]) rfl ⟨rfl, hBr⟩
end Go.Proofs.YtpfkkmacakjmbaaGreatDoor
