import Derived.Test.YtmfbojnnoonidaaGreatDoorP13
/- The order of types: a partial order, the meeting the least above both. -/
namespace Go.Proofs.YtmfbojnnoonidaaGreatDoor
open Go Sp
set_option linter.unusedSimpArgs false
set_option linter.unusedVariables false


theorem parOf_lt {cs : List Cls} (hw : WfC cs) {p : Int} (hp : 0 ≤ p) : parOf cs p < p ∧ -1 ≤ parOf cs p := by
  unfold parOf
  cases h : cs[p.toNat]? with
  | none => simp; omega
  | some c =>
    have := hw _ _ h
    simp
    omega

theorem under_more {cs : List Cls} (hw : WfC cs) : ∀ {f : Nat} {p y : Int}, p < f → under cs f p y = under cs (f + 1) p y := by
  intro f
  induction f with
  | zero => intro p y h; simp [under]; intro h'; omega
  | succ f ih =>
    intro p y h
    rw [under, under]
    by_cases h0 : p < 0
    · simp [h0]
    · simp only [h0, if_false]
      by_cases hy : p = y
      · simp [hy]
      · simp only [hy, if_false]
        have := parOf_lt hw (p := p) (by omega)
        exact ih (by omega)

theorem U_step {cs : List Cls} (hw : WfC cs) {x y : Int} (h0 : 0 ≤ x) (h1 : x ≤ 4) : under cs 5 x y = true ↔ x = y ∨ under cs 5 (parOf cs x) y = true := by
  rw [under]
  simp only [if_neg (show ¬ x < 0 by omega)]
  by_cases hy : x = y
  · simp [hy]
  · simp only [hy, if_false, false_or]
    have := parOf_lt hw h0
    rw [under_more hw (by omega : parOf cs x < (4 : Nat))]

theorem U_neg {cs : List Cls} (hw : WfC cs) {x y : Int} (h : x < 0) : under cs 5 x y = false := by
  rw [under]; simp [h]

theorem U_refl {cs : List Cls} (hw : WfC cs) {x : Int} (h : 0 ≤ x) : under cs 5 x x = true := by
  rw [under]; simp; omega

theorem U_le {cs : List Cls} (hw : WfC cs) : ∀ (k : Nat) {x y : Int}, x ≤ k → k ≤ 4 → under cs 5 x y = true → 0 ≤ y ∧ y ≤ x := by
  intro k
  induction k with
  | zero =>
    intro x y hx hk h
    by_cases h0 : x < 0
    · rw [U_neg hw h0] at h; cases h
    · rcases (U_step hw (by omega) (by omega)).1 h with rfl | h
      · omega
      · have := parOf_lt hw (p := x) (by omega)
        rw [U_neg hw (by omega)] at h; cases h
  | succ k ih =>
    intro x y hx hk h
    by_cases h0 : x < 0
    · rw [U_neg hw h0] at h; cases h
    · rcases (U_step hw (by omega) (by omega)).1 h with rfl | h
      · omega
      · have := parOf_lt hw (p := x) (by omega)
        have := ih (by omega) (by omega) h
        omega

theorem U_trans {cs : List Cls} (hw : WfC cs) : ∀ (k : Nat) {x y z : Int}, x ≤ k → k ≤ 4 → under cs 5 x y = true → under cs 5 y z = true → under cs 5 x z = true := by
  intro k
  induction k with
  | zero =>
    intro x y z hx hk h h'
    by_cases h0 : x < 0
    · rw [U_neg hw h0] at h; cases h
    · rcases (U_step hw (by omega) (by omega)).1 h with rfl | h
      · exact h'
      · have := parOf_lt hw (p := x) (by omega)
        rw [U_neg hw (by omega)] at h; cases h
  | succ k ih =>
    intro x y z hx hk h h'
    by_cases h0 : x < 0
    · rw [U_neg hw h0] at h; cases h
    · rcases (U_step hw (by omega) (by omega)).1 h with rfl | h
      · exact h'
      · have := parOf_lt hw (p := x) (by omega)
        exact (U_step hw (by omega) (by omega)).2 (Or.inr (ih (by omega) (by omega) h h'))

/-- What lies above one class lies in a row. -/
theorem U_row {cs : List Cls} (hw : WfC cs) : ∀ (k : Nat) {x y z : Int}, x ≤ k → k ≤ 4 → under cs 5 x y = true → under cs 5 x z = true → under cs 5 y z = true ∨ under cs 5 z y = true := by
  intro k
  induction k with
  | zero =>
    intro x y z hx hk h h'
    by_cases h0 : x < 0
    · rw [U_neg hw h0] at h; cases h
    · rcases (U_step hw (by omega) (by omega)).1 h with rfl | h
      · exact Or.inl h'
      · have := parOf_lt hw (p := x) (by omega)
        rw [U_neg hw (by omega)] at h; cases h
  | succ k ih =>
    intro x y z hx hk h h'
    by_cases h0 : x < 0
    · rw [U_neg hw h0] at h; cases h
    · rcases (U_step hw (by omega) (by omega)).1 h with rfl | h1
      · exact Or.inl h'
      · rcases (U_step hw (by omega) (by omega)).1 h' with rfl | h2
        · exact Or.inr h
        · have := parOf_lt hw (p := x) (by omega)
          exact ih (by omega) (by omega) h1 h2

/-- The first above p that y is under. -/
theorem joinF_spec {cs : List Cls} (hw : WfC cs) : ∀ {f : Nat} {p y : Int}, p < f → f ≤ 5 → p ≤ 3 →
    (joinF cs y f p = 45 ∧ ∀ q, under cs 5 p q = true → under cs 5 y q = false) ∨
    ∃ q : Nat, q ≤ 3 ∧ joinF cs y f p = UInt8.ofNat (65 + q) ∧ under cs 5 p q = true ∧ under cs 5 y q = true ∧ ∀ r, under cs 5 p r = true → under cs 5 y r = true → under cs 5 q r = true := by
  intro f
  induction f with
  | zero => intro p y h _ _; left; exact ⟨rfl, fun q hq => by rw [U_neg hw (by omega)] at hq; cases hq⟩
  | succ f ih =>
    intro p y h hf hp3
    rw [joinF]
    by_cases h0 : p < 0
    · left
      rw [if_pos h0]
      exact ⟨rfl, fun q hq => by rw [U_neg hw h0] at hq; cases hq⟩
    · rw [if_neg h0]
      by_cases hy : under cs 5 y p = true
      · right
        rw [if_pos hy]
        refine ⟨p.toNat, by omega, rfl, ?_, ?_, ?_⟩
        · rw [Int.toNat_of_nonneg (by omega)]; exact U_refl hw (by omega)
        · rw [Int.toNat_of_nonneg (by omega)]; exact hy
        · intro r hr _; rw [Int.toNat_of_nonneg (by omega)]; exact hr
      · rw [if_neg hy]
        have := parOf_lt hw (p := p) (by omega)
        rcases ih (p := parOf cs p) (y := y) (by omega) (by omega) (by omega) with ⟨h1, h2⟩ | ⟨q, hq, h1, h2, h3, h4⟩
        · left
          refine ⟨h1, fun q hq => ?_⟩
          rcases (U_step hw (by omega) (by omega)).1 hq with rfl | hq
          · simpa using hy
          · exact h2 q hq
        · right
          refine ⟨q, hq, h1, (U_step hw (by omega) (by omega)).2 (Or.inr h2), h3, fun r hr hr' => ?_⟩
          rcases (U_step hw (by omega) (by omega)).1 hr with rfl | hr
          · exact absurd hr' hy
          · exact h4 r hr hr'

/-- The number of a class's letter. -/
abbrev kl (c : UInt8) : Int := (c.toNat : Int) - 65

theorem subT_iff {cs : List Cls} {a b : UInt8} : subT cs a b = true ↔ a = b ∨ b.toNat = 45 ∨ (isC b = true ∧ a.toNat = 122) ∨ (isC a = true ∧ isC b = true ∧ under cs 5 (kl a) (kl b) = true) := by
  unfold subT
  have e : a = b ↔ a.toNat = b.toNat := UInt8.toNat_inj.symm
  rw [e]
  by_cases h1 : a.toNat = b.toNat ∨ b.toNat = 45
  · simp only [if_pos h1, true_iff]; rcases h1 with h | h <;> simp [h]
  · rw [if_neg h1]
    have h1' := not_or.1 h1
    simp only [h1'.1, h1'.2, false_or]
    by_cases hb : isC b = false
    · simp [hb]
    · have hb' : isC b = true := by simpa using hb
      simp only [hb, if_false, hb', true_and]
      by_cases ha : a.toNat = 122
      · simp [ha]
      · simp only [ha, if_false, false_or]
        by_cases hc : isC a = false
        · simp [hc]
        · have hc' : isC a = true := by simpa using hc
          simp [hc, hc']

theorem subT_refl {cs : List Cls} (a : UInt8) : subT cs a a = true := subT_iff.2 (Or.inl rfl)


theorem kl_range {cs : List Cls} (hw : WfC cs) {c : UInt8} (h : isC c = true) : 0 ≤ kl c ∧ kl c ≤ 3 := by
  rw [isC_iff] at h
  unfold kl
  omega

theorem subT_trans {cs : List Cls} (hw : WfC cs) {a b c : UInt8} (h : subT cs a b = true) (h' : subT cs b c = true) : subT cs a c = true := by
  rw [subT_iff] at h h'
  rw [subT_iff]
  rcases h with rfl | h | ⟨h1, h2⟩ | ⟨h1, h2, h3⟩
  · exact h'
  · rcases h' with rfl | h' | ⟨h1, h2⟩ | ⟨h1, h2, h3⟩
    · exact Or.inr (Or.inl h)
    · exact Or.inr (Or.inl h')
    · omega
    · rw [isC_iff] at h1; omega
  · rcases h' with rfl | h' | ⟨h3, h4⟩ | ⟨h3, h4, h5⟩
    · exact Or.inr (Or.inr (Or.inl ⟨h1, h2⟩))
    · exact Or.inr (Or.inl h')
    · rw [isC_iff] at h1; omega
    · exact Or.inr (Or.inr (Or.inl ⟨h4, h2⟩))
  · rcases h' with rfl | h' | ⟨h4, h5⟩ | ⟨h4, h5, h6⟩
    · exact Or.inr (Or.inr (Or.inr ⟨h1, h2, h3⟩))
    · exact Or.inr (Or.inl h')
    · rw [isC_iff] at h2; omega
    · have := kl_range hw h1
      exact Or.inr (Or.inr (Or.inr ⟨h1, h5, U_trans hw 4 (by omega) (by omega) h3 h6⟩))

theorem subT_anti {cs : List Cls} (hw : WfC cs) {a b : UInt8} (h : subT cs a b = true) (h' : subT cs b a = true) : a = b := by
  rw [subT_iff] at h h'
  have e : a.toNat = b.toNat → a = b := UInt8.toNat_inj.1
  rcases h with h | h | ⟨h1, h2⟩ | ⟨h1, h2, h3⟩
  · exact h
  · rcases h' with h' | h' | ⟨h1, h2⟩ | ⟨h1, h2, h3⟩
    · exact h'.symm
    · exact e (by omega)
    · omega
    · rw [isC_iff] at h1; omega
  · rcases h' with h' | h' | ⟨h3, h4⟩ | ⟨h3, h4, h5⟩
    · exact h'.symm
    · omega
    · rw [isC_iff] at h1; omega
    · rw [isC_iff] at h4; omega
  · rcases h' with h' | h' | ⟨h4, h5⟩ | ⟨h4, h5, h6⟩
    · exact h'.symm
    · rw [isC_iff] at h1; omega
    · rw [isC_iff] at h2; omega
    · have r1 := kl_range hw h1
      have r2 := kl_range hw h2
      have := U_le hw 4 (by omega) (by omega) h3
      have := U_le hw 4 (by omega) (by omega) h6
      apply e
      unfold kl at *
      omega

theorem cls_letter {cs : List Cls} (hw : WfC cs) {q : Nat} (hq : q ≤ 3) : isC (UInt8.ofNat (65 + q)) = true ∧ kl (UInt8.ofNat (65 + q)) = q := by
  have h : (UInt8.ofNat (65 + q)).toNat = 65 + q := by simp; omega
  rw [isC_iff]
  unfold kl
  omega

/-- The meeting lies above both, and below all that does. -/
theorem joinT_lub {cs : List Cls} (hw : WfC cs) (a b : UInt8) : subT cs a (joinT cs a b) = true ∧ subT cs b (joinT cs a b) = true ∧ ∀ c, subT cs a c = true → subT cs b c = true → subT cs (joinT cs a b) c = true := by
  unfold joinT
  by_cases h1 : subT cs a b = true
  · rw [if_pos h1]; exact ⟨h1, subT_refl _, fun c _ h => h⟩
  rw [if_neg h1]
  by_cases h2 : subT cs b a = true
  · rw [if_pos h2]; exact ⟨subT_refl _, h2, fun c h _ => h⟩
  rw [if_neg h2]
  have top : ∀ x : UInt8, subT cs x 45 = true := fun x => subT_iff.2 (Or.inr (Or.inl rfl))
  by_cases h3 : isC a = false ∨ isC b = false
  · rw [if_pos h3]
    refine ⟨top _, top _, fun c ha hb => ?_⟩
    rw [subT_iff] at ha hb
    have hc : c.toNat = 45 := by
      rcases ha with rfl | ha | ⟨p1, p2⟩ | ⟨p1, p2, p3⟩
      · exact absurd (subT_iff.2 hb) h2
      · exact ha
      · rcases hb with rfl | hb | ⟨q1, q2⟩ | ⟨q1, q2, q3⟩
        · exact absurd (subT_iff.2 (Or.inr (Or.inr (Or.inl ⟨p1, p2⟩)))) h1
        · exact hb
        · exact absurd (subT_iff.2 (Or.inl (UInt8.toNat_inj.1 (by omega)))) h1
        · exact absurd (subT_iff.2 (Or.inr (Or.inr (Or.inl ⟨q1, p2⟩)))) h1
      · rcases hb with rfl | hb | ⟨q1, q2⟩ | ⟨q1, q2, q3⟩
        · exact absurd (subT_iff.2 (Or.inr (Or.inr (Or.inr ⟨p1, p2, p3⟩)))) h1
        · exact hb
        · exact absurd (subT_iff.2 (Or.inr (Or.inr (Or.inl ⟨p1, q2⟩)))) h2
        · rcases h3 with h3 | h3
          · rw [h3] at p1; cases p1
          · rw [h3] at q1; cases q1
    exact subT_iff.2 (Or.inr (Or.inl hc))
  rw [if_neg h3]
  have ha : isC a = true := by have := not_or.1 h3; simpa using this.1
  have hb : isC b = true := by have := not_or.1 h3; simpa using this.2
  have r1 := kl_range hw ha
  have r2 := kl_range hw hb
  have hp := parOf_lt hw (p := kl a) r1.1
  have base : ∀ c, subT cs a c = true → subT cs b c = true → c.toNat = 45 ∨ (isC c = true ∧ under cs 5 (parOf cs (kl a)) (kl c) = true ∧ under cs 5 (kl b) (kl c) = true) := by
    intro c hac hbc
    rw [subT_iff] at hac hbc
    rcases hac with rfl | hac | ⟨p1, p2⟩ | ⟨p1, p2, p3⟩
    · exact absurd (subT_iff.2 hbc) h2
    · exact Or.inl hac
    · rw [isC_iff] at ha; omega
    · rcases hbc with rfl | hbc | ⟨q1, q2⟩ | ⟨q1, q2, q3⟩
      · exact absurd (subT_iff.2 (Or.inr (Or.inr (Or.inr ⟨p1, p2, p3⟩)))) h1
      · exact Or.inl hbc
      · rw [isC_iff] at hb; omega
      · rcases (U_step hw r1.1 (by omega)).1 p3 with h | h
        · have : a = c := by
            apply UInt8.toNat_inj.1
            unfold kl at h
            omega
          subst this
          exact absurd (subT_iff.2 (Or.inr (Or.inr (Or.inr ⟨q1, q2, q3⟩)))) h2
        · exact Or.inr ⟨p2, h, q3⟩
  rcases joinF_spec hw (f := 5) (p := parOf cs (kl a)) (y := kl b) (by omega) (by omega) (by omega) with ⟨e, hno⟩ | ⟨q, hq, e, e1, e2, e3⟩
  · rw [show joinF cs ((b.toNat : Int) - 65) 5 (parOf cs ((a.toNat : Int) - 65)) = 45 from e]
    refine ⟨top _, top _, fun c hac hbc => ?_⟩
    rcases base c hac hbc with h | ⟨_, h4, h5⟩
    · exact subT_iff.2 (Or.inr (Or.inl h))
    · rw [hno _ h4] at h5; cases h5
  · rw [show joinF cs ((b.toNat : Int) - 65) 5 (parOf cs ((a.toNat : Int) - 65)) = UInt8.ofNat (65 + q) from e]
    obtain ⟨l1, l2⟩ := cls_letter hw hq
    refine ⟨?_, ?_, fun c hac hbc => ?_⟩
    · rw [subT_iff, l2]
      exact Or.inr (Or.inr (Or.inr ⟨ha, l1, (U_step hw r1.1 (by omega)).2 (Or.inr e1)⟩))
    · rw [subT_iff, l2]
      exact Or.inr (Or.inr (Or.inr ⟨hb, l1, e2⟩))
    · rcases base c hac hbc with h | ⟨h3, h4, h5⟩
      · exact subT_iff.2 (Or.inr (Or.inl h))
      · rw [subT_iff, l2]
        exact Or.inr (Or.inr (Or.inr ⟨l1, h3, e3 _ h4 h5⟩))
end Go.Proofs.YtmfbojnnoonidaaGreatDoor
/- States and tables in their order; the state behind an instruction rises with the state ahead. -/
namespace Go.Proofs.YtmfbojnnoonidaaGreatDoor
open Go Sp
set_option linter.unusedSimpArgs false
set_option linter.unusedVariables false

/-- Types below types, one by one. -/
def leL (cs : List Cls) : List UInt8 → List UInt8 → Prop
  | [], [] => True
  | x :: a, y :: b => subT cs x y = true ∧ leL cs a b
  | _, _ => False

theorem leL_refl {cs : List Cls} : ∀ a : List UInt8, leL cs a a
  | [] => trivial
  | x :: a => ⟨subT_refl x, leL_refl a⟩
theorem leL_len {cs : List Cls} : ∀ {a b : List UInt8}, leL cs a b → a.length = b.length
  | [], [], _ => rfl
  | x :: a, y :: b, h => by simp [leL_len h.2]
  | [], _ :: _, h => h.elim
  | _ :: _, [], h => h.elim
theorem leL_trans {cs : List Cls} (hw : WfC cs) : ∀ {a b c : List UInt8}, leL cs a b → leL cs b c → leL cs a c
  | [], [], [], _, _ => trivial
  | x :: a, y :: b, z :: c, h, k => ⟨subT_trans hw h.1 k.1, leL_trans hw h.2 k.2⟩
  | [], _ :: _, _, h, _ => h.elim
  | _ :: _, [], _, h, _ => h.elim
  | [], [], _ :: _, _, k => k.elim
  | _ :: _, _ :: _, [], _, k => k.elim
theorem leL_anti {cs : List Cls} (hw : WfC cs) : ∀ {a b : List UInt8}, leL cs a b → leL cs b a → a = b
  | [], [], _, _ => rfl
  | x :: a, y :: b, h, k => by rw [subT_anti hw h.1 k.1, leL_anti hw h.2 k.2]
  | [], _ :: _, h, _ => h.elim
  | _ :: _, [], h, _ => h.elim
theorem leL_append {cs : List Cls} : ∀ {a b c d : List UInt8}, leL cs a b → leL cs c d → leL cs (a ++ c) (b ++ d)
  | [], [], _, _, _, k => k
  | x :: a, y :: b, _, _, h, k => ⟨h.1, leL_append h.2 k⟩
  | [], _ :: _, _, _, h, _ => h.elim
  | _ :: _, [], _, _, h, _ => h.elim
theorem leL_take {cs : List Cls} : ∀ {a b : List UInt8} (k : Nat), leL cs a b → leL cs (a.take k) (b.take k)
  | [], [], k, _ => by simp [leL]
  | x :: a, y :: b, 0, h => trivial
  | x :: a, y :: b, k + 1, h => ⟨h.1, leL_take k h.2⟩
  | [], _ :: _, _, h => h.elim
  | _ :: _, [], _, h => h.elim
theorem leL_getD {cs : List Cls} : ∀ {a b : List UInt8} (k : Nat), leL cs a b → subT cs (a.getD k 0) (b.getD k 0) = true
  | [], [], k, _ => by simp [subT_refl]
  | x :: a, y :: b, 0, h => by simpa using h.1
  | x :: a, y :: b, k + 1, h => by simpa using leL_getD k h.2
  | [], _ :: _, _, h => h.elim
  | _ :: _, [], _, h => h.elim
theorem leL_set {cs : List Cls} : ∀ {a b : List UInt8} (k : Nat) {u v : UInt8}, leL cs a b → subT cs u v = true → leL cs (a.set k u) (b.set k v)
  | [], [], k, _, _, _, _ => by simp [leL]
  | x :: a, y :: b, 0, _, _, h, hu => ⟨hu, h.2⟩
  | x :: a, y :: b, k + 1, _, _, h, hu => ⟨h.1, leL_set k h.2 hu⟩
  | [], _ :: _, _, _, _, h, _ => h.elim
  | _ :: _, [], _, _, _, h, _ => h.elim

theorem bothT_lub {cs : List Cls} (hw : WfC cs) : ∀ {a b : List UInt8}, a.length = b.length → leL cs a (bothT cs a b) ∧ leL cs b (bothT cs a b) ∧ ∀ c, leL cs a c → leL cs b c → leL cs (bothT cs a b) c
  | [], [], _ => ⟨trivial, trivial, fun c h _ => h⟩
  | x :: a, y :: b, h => by
    have ih := bothT_lub hw (a := a) (b := b) (by simpa using h)
    have hj := joinT_lub hw x y
    refine ⟨⟨hj.1, ih.1⟩, ⟨hj.2.1, ih.2.1⟩, fun c h1 h2 => ?_⟩
    match c, h1, h2 with
    | z :: c, h1, h2 => exact ⟨hj.2.2 z h1.1 h2.1, ih.2.2 c h1.2 h2.2⟩
    | [], h1, _ => exact h1.elim
  | [], _ :: _, h => by simp at h
  | _ :: _, [], h => by simp at h

abbrev Sp2 := List UInt8 × List UInt8
def leS (cs : List Cls) (a b : Sp2) : Prop := leL cs a.1 b.1 ∧ leL cs a.2 b.2
def leO (cs : List Cls) : St → St → Prop
  | none, _ => True
  | some a, some b => leS cs a b
  | some _, none => False
def leTab (cs : List Cls) (t u : List St) : Prop := t.length = u.length ∧ ∀ k : Nat, leO cs (t.getD k none) (u.getD k none)

theorem leS_trans {cs : List Cls} (hw : WfC cs) {a b c : Sp2} (h : leS cs a b) (k : leS cs b c) : leS cs a c := ⟨leL_trans hw h.1 k.1, leL_trans hw h.2 k.2⟩
theorem leO_refl {cs : List Cls} (a : St) : leO cs a a := by
  cases a with
  | none => trivial
  | some a => exact ⟨leL_refl _, leL_refl _⟩
theorem leO_trans {cs : List Cls} (hw : WfC cs) {a b c : St} (h : leO cs a b) (k : leO cs b c) : leO cs a c := by
  cases a with
  | none => trivial
  | some a =>
    cases b with
    | none => exact h.elim
    | some b =>
      cases c with
      | none => exact k.elim
      | some c => exact leS_trans hw h k
theorem leO_anti {cs : List Cls} (hw : WfC cs) {a b : St} (h : leO cs a b) (k : leO cs b a) : a = b := by
  cases a with
  | none =>
    cases b with
    | none => rfl
    | some b => exact k.elim
  | some a =>
    cases b with
    | none => exact h.elim
    | some b =>
      obtain ⟨a1, a2⟩ := a
      obtain ⟨b1, b2⟩ := b
      have h1 : a1 = b1 := leL_anti hw h.1 k.1
      have h2 : a2 = b2 := leL_anti hw h.2 k.2
      rw [h1, h2]
theorem leTab_anti {cs : List Cls} (hw : WfC cs) {t u : List St} (h : leTab cs t u) (k : leTab cs u t) : t = u := by
  apply List.ext_getElem h.1
  intro i h1 h2
  have := leO_anti hw (h.2 i) (k.2 i)
  simpa [List.getD, h1, h2] using this
theorem leTab_refl {cs : List Cls} (t : List St) : leTab cs t t := ⟨rfl, fun _ => leO_refl _⟩
theorem leTab_trans {cs : List Cls} (hw : WfC cs) {t u v : List St} (h : leTab cs t u) (k : leTab cs u v) : leTab cs t v := ⟨h.1.trans k.1, fun i => leO_trans hw (h.2 i) (k.2 i)⟩

theorem isR_down {cs : List Cls} {a b : UInt8} (h : subT cs a b = true) (hb : isR b = true) : isR a = true := by
  rw [subT_iff] at h
  simp only [isR, Bool.or_eq_true, decide_eq_true_eq] at hb ⊢
  rcases h with rfl | h | ⟨_, h⟩ | ⟨h, _⟩
  · exact hb
  · rcases hb with hb | hb
    · omega
    · rw [isC_iff] at hb; omega
  · exact Or.inl h
  · exact Or.inr h

theorem looseT_down {cs : List Cls} {c : Nat} {s t : List UInt8} {k : Nat} (h : leL cs s t) (hk : looseT c t = some k) : looseT c s = some k := by
  have hl := leL_len h
  unfold looseT at hk ⊢
  have d1 := fun hb => isR_down (leL_getD (t.length - 1) h) hb
  have d2 := fun hb => isR_down (leL_getD (t.length - 2) h) hb
  rw [hl]
  split at hk
  · rename_i h101
    rw [if_pos h101]
    split at hk
    · cases hk
    · rename_i hn
      rw [if_neg]
      · exact hk
      · simp only [not_or, Bool.not_eq_false] at hn ⊢
        exact ⟨hn.1, d1 hn.2.1, d2 hn.2.2⟩
  · rename_i h101
    rw [if_neg h101]
    split at hk
    · cases hk
    · rename_i hn
      rw [if_neg]
      · exact hk
      · simp only [not_or, not_and, Bool.not_eq_false] at hn ⊢
        exact ⟨hn.1, fun h120 => d1 (hn.2 h120)⟩

theorem fitsT_down {cs : List Cls} (hw : WfC cs) {s t wa : List UInt8} (h : leL cs s t) (hf : fitsT cs t wa = true) : fitsT cs s wa = true := by
  have hl := leL_len h
  unfold fitsT at hf ⊢
  simp only [Bool.and_eq_true, decide_eq_true_eq, List.all_eq_true, List.mem_range] at hf ⊢
  rw [hl]
  exact ⟨hf.1, fun i hi => subT_trans hw (leL_getD _ h) (hf.2 i hi)⟩

/-- The state behind rises with the state ahead. -/
theorem effT_down {cs : List Cls} (hw : WfC cs) {gs : List Sig} {b : Bod} {x : Ins} {s l t m t' m' : List UInt8} (h1 : leL cs s t) (h2 : leL cs l m) (he : effT cs gs b x t m = some (t', m')) :
    ∃ s' l', effT cs gs b x s l = some (s', l') ∧ leL cs s' t' ∧ leL cs l' m' := by
  have hl := leL_len h1
  unfold effT at he ⊢
  split at he
  · rename_i hc
    rw [if_pos hc]
    split at he
    · cases he
    · rename_i k hk
      rw [looseT_down h1 hk]
      injection he with he
      injection he with e1 e2
      refine ⟨_, _, rfl, ?_, ?_⟩
      · rw [← e1, hl]; exact leL_append (leL_take _ h1) (leL_refl _)
      · rw [← e2, hl]
        split
        · exact leL_set _ h2 (leL_getD _ h1)
        · exact h2
  · rename_i hc
    rw [if_neg hc]
    split at he
    · rename_i h108
      rw [if_pos h108]
      split at he
      · cases he
      · rename_i h45
        injection he with he
        injection he with e1 e2
        have hd := leL_getD x.b h2
        have : ¬ (l.getD x.b 0).toNat = 45 := by
          intro h
          rw [subT_iff] at hd
          rcases hd with hd | hd | ⟨_, hd⟩ | ⟨hd, _⟩
          · rw [hd] at h; exact h45 h
          · exact h45 hd
          · omega
          · rw [isC_iff] at hd; omega
        rw [if_neg this]
        refine ⟨_, _, rfl, ?_, ?_⟩
        · rw [← e1]; exact leL_append h1 ⟨hd, trivial⟩
        · rw [← e2]; exact h2
    · rename_i h108
      rw [if_neg h108]
      split at he
      · rename_i hf
        rw [if_pos (fitsT_down hw h1 hf)]
        injection he with he
        injection he with e1 e2
        refine ⟨_, _, rfl, ?_, ?_⟩
        · rw [← e1, hl]; exact leL_append (leL_take _ h1) (leL_refl _)
        · rw [← e2]; exact h2
      · cases he

/-- A state is at least so high where number j is; j under nought: nowhere. -/
def Reach (cs : List Cls) (H : List St) (j : Int) (st : Sp2) : Prop := j < 0 ∨ ∃ st', H[j.toNat]? = some (some st') ∧ leS cs st st'

/-- A table holds. -/
structure Good (im : Img) (bd : Bod) (H : List St) : Prop where
  len : H.length = bd.code.length
  start : ∃ s0, H[0]? = some (some s0) ∧ leS im.classes ([], bd.locals) s0
  go : ∀ (i : Nat) (x : Ins) (s l : List UInt8), bd.code[i]? = some x → H[i]? = some (some (s, l)) → ∃ s' l', effT im.classes im.sigs bd x s l = some (s', l') ∧ Reach im.classes H (waysT x i).1 (s', l') ∧ Reach im.classes H (waysT x i).2 (s', l')

theorem getD_some {t : List St} {k : Nat} {p : Sp2} : t.getD k none = some p ↔ t[k]? = some (some p) := by
  simp only [List.getD]
  cases h : t[k]? with
  | none => simp
  | some o => simp

theorem mergeT_lub {cs : List Cls} (hw : WfC cs) {o : St} {sb lb : List UInt8} {m : Sp2} (hl : ∀ s l, o = some (s, l) → l.length = lb.length) (h : mergeT cs o sb lb = some m) : leO cs o (some m) ∧ leS cs (sb, lb) m ∧ ∀ c, leO cs o (some c) → leS cs (sb, lb) c → leS cs m c := by
  cases o with
  | none =>
    simp [mergeT] at h
    subst h
    exact ⟨trivial, ⟨leL_refl _, leL_refl _⟩, fun c _ h => h⟩
  | some p =>
    obtain ⟨sa, la⟩ := p
    simp only [mergeT] at h
    split at h
    · rename_i hlen
      injection h with h
      subst h
      have b1 := bothT_lub hw hlen
      have b2 := bothT_lub hw (hl sa la rfl)
      exact ⟨⟨b1.1, b2.1⟩, ⟨b1.2.1, b2.2.1⟩, fun c h k => ⟨b1.2.2 _ h.1 k.1, b2.2.2 _ h.2 k.2⟩⟩
    · cases h

/-- Below a table that holds, a state that comes in stays below. -/
theorem intoT_below {cs : List Cls} (hw : WfC cs) {T : Tn} {H : List St} {j : Int} {sb lb : List UInt8} (hb : T.2.2 = false) (h : leTab cs T.1 H) (hr : Reach cs H j (sb, lb)) :
    (intoT cs T j sb lb).2.2 = false ∧ leTab cs (intoT cs T j sb lb).1 H := by
  unfold intoT
  split
  · exact ⟨hb, h⟩
  rename_i hj
  simp only [hb, false_or, Bool.false_eq_true] at hj
  rcases hr with hr | ⟨st', hst, hle⟩
  · exact absurd hr hj
  have hjl : j.toNat < H.length := (List.getElem?_eq_some_iff.1 hst).1
  have hlen := h.1
  split
  · omega
  have ho := h.2 j.toNat
  rw [getD_some.2 hst] at ho
  have hms : ∃ m, mergeT cs (T.1.getD j.toNat none) sb lb = some m := by
    cases hh : T.1.getD j.toNat none with
    | none => exact ⟨_, rfl⟩
    | some p =>
      rw [hh] at ho
      have e1 := leL_len ho.1
      have e2 := leL_len hle.1
      simp only at e2
      exact ⟨_, by unfold mergeT; simp only; rw [if_pos (by omega)]⟩
  obtain ⟨m, hm⟩ := hms
  rw [hm]
  simp only
  split
  · exact ⟨hb, h⟩
  · refine ⟨rfl, ⟨by rw [List.length_set]; exact hlen, fun k => ?_⟩⟩
    by_cases hk : k = j.toNat
    · subst hk
      have hs : (T.1.set j.toNat (some m)).getD j.toNat none = some m := by simp [List.getD, show j.toNat < T.1.length by omega]
      rw [hs, getD_some.2 hst]
      have hl : ∀ s l, T.1.getD j.toNat none = some (s, l) → l.length = lb.length := fun s l hh => by
        rw [hh] at ho
        have e1 := leL_len ho.2
        have e2 := leL_len hle.2
        simp only at e1 e2
        omega
      exact (mergeT_lub hw hl hm).2.2 st' ho hle
    · have hs : (T.1.set j.toNat (some m)).getD k none = T.1.getD k none := by simp [List.getD, List.getElem?_set, show ¬ j.toNat = k from fun h => hk h.symm]
      rw [hs]
      exact h.2 k

theorem stepT_below {im : Img} (hw : WfC im.classes) {bd : Bod} {T : Tn} {H : List St} (hG : Good im bd H) (hb : T.2.2 = false) (h : leTab im.classes T.1 H) (i : Nat) :
    ∃ T', stepT im bd T i = some T' ∧ T'.2.2 = false ∧ leTab im.classes T'.1 H := by
  cases hx : bd.code[i]? with
  | none => exact ⟨T, by unfold stepT; rw [hx], hb, h⟩
  | some x =>
    cases ho : T.1.getD i none with
    | none => exact ⟨T, by unfold stepT; rw [hx, ho], hb, h⟩
    | some p =>
      obtain ⟨s, l⟩ := p
      have hH := h.2 i
      rw [ho] at hH
      cases hq : H.getD i none with
      | none => rw [hq] at hH; exact hH.elim
      | some q =>
        obtain ⟨t, m⟩ := q
        rw [hq] at hH
        obtain ⟨t', m', he, r1, r2⟩ := hG.go i x t m hx (getD_some.1 hq)
        obtain ⟨s', l', he', l1, l2⟩ := effT_down hw hH.1 hH.2 he
        refine ⟨_, stepT_some hx (getD_some.1 ho) he', ?_⟩
        have low : ∀ j, Reach im.classes H j (t', m') → Reach im.classes H j (s', l') := fun j hj => by
          rcases hj with hj | ⟨st, h1, h2⟩
          · exact Or.inl hj
          · exact Or.inr ⟨st, h1, leS_trans hw ⟨l1, l2⟩ h2⟩
        have i1 := intoT_below hw hb h (low _ r1)
        exact intoT_below hw i1.1 i1.2 (low _ r2)

theorem sweepT_below {im : Img} (hw : WfC im.classes) {bd : Bod} {H : List St} (hG : Good im bd H) : ∀ {f i : Nat} {T : Tn}, T.2.2 = false → leTab im.classes T.1 H → ∃ T', sweepT im bd f i T = some T' ∧ T'.2.2 = false ∧ leTab im.classes T'.1 H := by
  intro f
  induction f with
  | zero => intro i T hb h; exact ⟨T, rfl, hb, h⟩
  | succ f ih =>
    intro i T hb h
    obtain ⟨T1, h1, h2, h3⟩ := stepT_below hw hG hb h i
    obtain ⟨T2, h4, h5⟩ := ih (i := i + 1) h2 h3
    exact ⟨T2, by rw [sweepT_some hb h1]; exact h4, h5⟩

theorem roundsT_below {im : Img} (hw : WfC im.classes) {bd : Bod} {H : List St} (hG : Good im bd H) : ∀ {f : Nat} {tb : List St} {ch : Bool}, leTab im.classes tb H → ∃ t, roundsT im bd f (tb, ch, false) = some t ∧ leTab im.classes t H := by
  intro f
  induction f with
  | zero => intro tb ch h; exact ⟨tb, rfl, h⟩
  | succ f ih =>
    intro tb ch h
    cases ch with
    | false => exact ⟨tb, roundsT_stop im bd _ tb _, h⟩
    | true =>
      obtain ⟨T1, h1, h2, h3⟩ := sweepT_below hw hG (f := bd.code.length) (i := 0) (T := (tb, false, false)) rfl h
      obtain ⟨t1, c1, b1⟩ := T1
      simp only at h2 h3
      subst h2
      obtain ⟨t, h4, h5⟩ := ih (ch := c1) h3
      refine ⟨t, ?_, h5⟩
      rw [roundsT_go, h1]
      simp only [afterSweep]
      rw [if_neg (by simp)]
      exact h4

theorem startTab_below {im : Img} {bd : Bod} {H : List St} (hG : Good im bd H) : leTab im.classes (startTab bd) H := by
  obtain ⟨s0, h0, hs⟩ := hG.start
  refine ⟨by unfold startTab; simp [hG.len], fun k => ?_⟩
  unfold startTab
  have hlt : 0 < bd.code.length := by rw [← hG.len]; exact (List.getElem?_eq_some_iff.1 h0).1
  cases k with
  | zero =>
    have : ((List.replicate bd.code.length (none : St)).set 0 (some ([], bd.locals))).getD 0 none = some ([], bd.locals) := by simp [List.getD, hlt]
    rw [this, getD_some.2 h0]
    exact hs
  | succ k =>
    have : ((List.replicate bd.code.length (none : St)).set 0 (some ([], bd.locals))).getD (k + 1) none = none := by
      simp only [List.getD, List.getElem?_set]
      rw [if_neg (by omega)]
      rw [List.getElem?_replicate]
      split <;> rfl
    rw [this]
    trivial

/-- If a table holds, the working out comes to one that is below it. -/
theorem leastT_below {im : Img} (hw : WfC im.classes) {bd : Bod} {H : List St} (hG : Good im bd H) : ∃ t, leastT im bd = some t ∧ leTab im.classes t H :=
  roundsT_below hw hG (startTab_below hG)
end Go.Proofs.YtmfbojnnoonidaaGreatDoor
