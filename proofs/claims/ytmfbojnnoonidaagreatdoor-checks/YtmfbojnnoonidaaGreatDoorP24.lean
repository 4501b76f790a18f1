import Derived.Test.YtmfbojnnoonidaaGreatDoorP23
/- The program's reading of an instruction: the target; four cells. -/
namespace Go.Proofs.YtmfbojnnoonidaaGreatDoor
open Go Go.RowKit Sp
set_option linter.unusedSimpArgs false
set_option linter.unusedVariables false
attribute [local go_sem ↓] Go.wp_at_zero Go.wp_at_succ

def put4 (w : World) (g : Nat) (x0 x1 x2 x3 : Value) : World := (((w.setCell ⟨g, 0, none⟩ x0).setCell ⟨g, 1, none⟩ x1).setCell ⟨g, 2, none⟩ x2).setCell ⟨g, 3, none⟩ x3
theorem put4_heap {w : World} {g t : Nat} {a0 a1 a2 a3 : Value} (h : w.heap[g]? = some (.cells #[a0, a1, a2, a3] t)) (x0 x1 x2 x3 : Value) : (put4 w g x0 x1 x2 x3).heap[g]? = some (.cells #[x0, x1, x2, x3] t) := by
  have h1 := heap_setCell_same w g 0 _ _ x0 h
  have h2 := heap_setCell_same _ g 1 _ _ x1 h1
  have h3 := heap_setCell_same _ g 2 _ _ x2 h2
  exact heap_setCell_same _ g 3 _ _ x3 h3
theorem put4_but (w : World) (g : Nat) (x0 x1 x2 x3 : Value) : But (· = g) w (put4 w g x0 x1 x2 x3) :=
  (((But.setB w g 0 x0).trans (But.setB _ g 1 x1)).trans (But.setB _ g 2 x2)).trans (But.setB _ g 3 x3)
theorem row4 {w : World} {g t : Nat} {x0 x1 x2 x3 : Value} (h : w.heap[g]? = some (.cells #[x0, x1, x2, x3] t)) :
    w.cell? ⟨g, 0, none⟩ = some x0 ∧ w.cell? ⟨g, 1, none⟩ = some x1 ∧ w.cell? ⟨g, 2, none⟩ = some x2 ∧ w.cell? ⟨g, 3, none⟩ = some x3 := by
  refine ⟨?_, ?_, ?_, ?_⟩
  · rw [cell_of_row w g 0 _ _ (0, 0) h]; rfl
  · rw [cell_of_row w g 1 _ _ (0, 0) h]; rfl
  · rw [cell_of_row w g 2 _ _ (0, 0) h]; rfl
  · rw [cell_of_row w g 3 _ _ (0, 0) h]; rfl
theorem froz4 {w : World} {g t : Nat} {x0 x1 x2 x3 : Value} (h : w.heap[g]? = some (.cells #[x0, x1, x2, x3] t)) :
    w.frozen? ⟨g, 0, none⟩ = false ∧ w.frozen? ⟨g, 1, none⟩ = false ∧ w.frozen? ⟨g, 2, none⟩ = false ∧ w.frozen? ⟨g, 3, none⟩ = false :=
  ⟨frozen_of_row w g 0 _ _ h, frozen_of_row w g 1 _ _ h, frozen_of_row w g 2 _ _ h, frozen_of_row w g 3 _ _ h⟩

/-- Two digits. -/
def tgX (s : ByteArray) (i : Nat) (bad : Bool) : Nat × Nat × Bool :=
  (10 * (dgX s 10 i bad).1 + (dgX s 10 (dgX s 10 i bad).2.1 (dgX s 10 i bad).2.2).1, (dgX s 10 (dgX s 10 i bad).2.1 (dgX s 10 i bad).2.2).2.1, (dgX s 10 (dgX s 10 i bad).2.1 (dgX s 10 i bad).2.2).2.2)
theorem dgX_lt (s : ByteArray) (n i : Nat) (bad : Bool) : (dgX s n i bad).1 < 10 := by
  unfold dgX
  split
  · rename_i h
    have := h.2
    simp only [isDig, Bool.and_eq_true, decide_eq_true_eq] at this
    simp only
    omega
  · simp

set_option maxHeartbeats 800000 in
theorem xtarget_any (b : Nat) (s : ByteArray) (i : Nat) (bad : Bool) (v0 v1 v2 : Value) (w : World) (hs : s.size ≤ 2000) (hR : XrB w b s i bad v0 v1 v2) :
    Calls Tryz.prog 151 #[.pointer (some ⟨b, 0, none⟩)] w fun e w' => e = .returned (.int .i64 (tgX s i bad).1) ∧ But (· = b) w w' ∧ XrB w' b s (tgX s i bad).2.1 (tgX s i bad).2.2 v0 v1 v2 := by
  unfold tgX
  have hd1 := dgX_lt s 10 i bad
  have hd2 := dgX_lt s 10 (dgX s 10 i bad).2.1 (dgX s 10 i bad).2.2
  have hc1 := xtakeDigit_any b s i bad v0 v1 v2 w 10 (by omega) hs hR
  have hc2 := fun w1 h => xtakeDigit_any b s (dgX s 10 i bad).2.1 (dgX s 10 i bad).2.2 v0 v1 v2 w1 10 (by omega) hs h
  revert hd1 hd2 hc1 hc2
  generalize dgX s 10 (dgX s 10 i bad).2.1 (dgX s 10 i bad).2.2 = Y2
  generalize dgX s 10 i bad = Y1
  obtain ⟨d1, j1, b1⟩ := Y1
  obtain ⟨d2, j2, b2⟩ := Y2
  dsimp only
  intro hd1 hd2 hc1 hc2
  have HC1 := hid hc1
  have HC2 := hid hc2
  clear hc1 hc2
  go_enter Tryz.func151, Tryz.ntmps151
  go_wp2_with fail
  refine HC1.out.mono ?_
  rintro en w1 ⟨rfl, hB1, hR1⟩
  go_wp2_with fail
  refine (HC2.out w1 hR1).mono ?_
  rintro en w2 ⟨rfl, hB2, hR2⟩
  go_wp2_with fail
  go_ret
  refine ⟨?_, hB1.trans hB2, hR2⟩
  simp [go_sem]
end Go.Proofs.YtmfbojnnoonidaaGreatDoor
/- The program's reading of an instruction: what it comes to. -/
namespace Go.Proofs.YtmfbojnnoonidaaGreatDoor
open Go Go.RowKit Sp
set_option linter.unusedSimpArgs false
set_option linter.unusedVariables false

def insB (s : ByteArray) (cs : List Cls) (ns nl i : Nat) (bad : Bool) : Except Nat (Ins × Nat) := if bad = true then .error i else insP s cs ns nl i
def InsR (s : ByteArray) (cs : List Cls) (ns nl i : Nat) (bad : Bool) (x : XIt) (j : Nat) (bad' : Bool) : Prop :=
  (bad' = false ∧ ∃ y, insB s cs ns nl i bad = .ok (y, j) ∧ x = toXI y) ∨ (bad' = true ∧ insB s cs ns nl i bad = .error j)

section
variable {s : ByteArray} {cs : List Cls} {ns nl i : Nat}

theorem ins_end {bad : Bool} {x : XIt} (h : bad = true ∨ s.size ≤ i) : InsR s cs ns nl i bad x i true := by
  right
  refine ⟨rfl, ?_⟩
  unfold insB
  cases bad with
  | true => rfl
  | false =>
    rcases h with h | h
    · cases h
    · simp only [Bool.false_eq_true, if_false]
      unfold insP
      rw [pk_end h]
      rfl
theorem ins_no {x : XIt} (h : letters.contains (pk s i).toNat = false) : InsR s cs ns nl i false x i true := by
  right
  refine ⟨rfl, ?_⟩
  simp only [insB, Bool.false_eq_true, if_false, insP, h]
theorem ins_ok {c : UInt8} (hc : pk s i = c) (hl : letters.contains c.toNat = true) {a n j : Nat} (h : operP s cs ns nl c.toNat (i + 1) = .ok (a, n, j)) : InsR s cs ns nl i false (toXI ⟨c, a, n, i⟩) j false := by
  left
  refine ⟨rfl, _, ?_, rfl⟩
  simp only [insB, Bool.false_eq_true, if_false, insP, hc, hl, if_true, h]
theorem ins_bad {c : UInt8} (hc : pk s i = c) (hl : letters.contains c.toNat = true) {x : XIt} {j : Nat} (h : operP s cs ns nl c.toNat (i + 1) = .error j) : InsR s cs ns nl i false x j true := by
  right
  refine ⟨rfl, ?_⟩
  simp only [insB, Bool.false_eq_true, if_false, insP, hc, hl, if_true, h]

theorem ins_alone {c : UInt8} (hc : pk s i = c) (hl : letters.contains c.toNat = true) (h : operP s cs ns nl c.toNat (i + 1) = .ok (0, 0, i + 1)) (hn : ¬ (c.toNat = 110 ∨ c.toNat = 120 ∨ c.toNat = 103 ∨ c.toNat = 112 ∨ c.toNat = 99)) : InsR s cs ns nl i false ⟨i, c, 45, 0⟩ (i + 1) false := by
  have := ins_ok hc hl h
  rw [toXI] at this
  simp only at this
  rw [if_neg hn] at this
  exact this

theorem ins_dig {c : UInt8} {n : Nat} (hc : pk s i = c) (h : (c.toNat = 107 ∧ n = 10) ∨ ((c.toNat = 108 ∨ c.toNat = 115) ∧ n = nl)) {Y : Nat × Nat × Bool} (hY : dgX s n (i + 1) false = Y) : InsR s cs ns nl i false ⟨i, c, 45, Y.1⟩ Y.2.1 Y.2.2 := by
  have hl : letters.contains c.toNat = true := by rcases h with ⟨h, _⟩ | ⟨h | h, _⟩ <;> (rw [h]; decide)
  have ho : operP s cs ns nl c.toNat (i + 1) = match digP s n (i + 1) with
    | .ok (b, j) => .ok (0, b, j)
    | .error j => .error j := by
    unfold operP
    rcases h with ⟨h, rfl⟩ | ⟨h, rfl⟩
    · rw [if_neg (by omega), if_pos h]; rfl
    · rw [if_pos h]; rfl
  subst hY
  unfold digP at ho
  cases hd : isDig n (pk s (i + 1)) with
  | true =>
    rw [dgX_ok hd]
    rw [hd] at ho
    have := ins_ok hc hl ho
    rw [toXI] at this
    simp only at this
    rw [if_neg (by rcases h with ⟨h, _⟩ | ⟨h | h, _⟩ <;> omega)] at this
    exact this
  | false =>
    rw [dgX_no (Or.inr hd)]
    rw [hd] at ho
    exact ins_bad hc hl ho

theorem let_of {n : Nat} {c : UInt8} (h : isLet n c = true) (hn : n ≤ 4) : UInt8.ofNat (65 + (c.toNat - 65)) = c := by
  simp only [isLet, Bool.and_eq_true, decide_eq_true_eq] at h
  apply UInt8.toNat_inj.1
  have := c.toNat_lt
  simp
  omega

theorem ins_cls {c : UInt8} (hnc : cs.length ≤ 4) (hc : pk s i = c) (h : c.toNat = 110 ∨ c.toNat = 120) {Y : UInt8 × Nat × Bool} (hY : ltX s cs.length (i + 1) false = Y) : InsR s cs ns nl i false ⟨i, c, Y.1, 0⟩ Y.2.1 Y.2.2 := by
  have hl : letters.contains c.toNat = true := by rcases h with h | h <;> (rw [h]; decide)
  have ho : operP s cs ns nl c.toNat (i + 1) = match letP s cs.length (i + 1) with
    | .ok (a, j) => .ok (a, 0, j)
    | .error j => .error j := by
    unfold operP
    rw [if_neg (by omega), if_neg (by omega), if_pos h]
    rfl
  subst hY
  unfold letP at ho
  cases hd : isLet cs.length (pk s (i + 1)) with
  | true =>
    rw [ltX_ok hd]
    rw [hd] at ho
    have := ins_ok hc hl ho
    rw [toXI] at this
    simp only at this
    rw [if_pos (by omega), let_of hd hnc] at this
    exact this
  | false =>
    rw [ltX_no (Or.inr hd)]
    rw [hd] at ho
    exact ins_bad hc hl ho

theorem nFields_flds {a : Nat} {c : UInt8} (hd : isLet cs.length c = true) : nFields cs (c.toNat - 65) = (fldsX (cs.map toX) c).length := by
  unfold nFields fldsX
  rw [List.length_map, if_pos hd, List.getElem?_map]
  cases cs[c.toNat - 65]? <;> rfl

theorem ins_fld {c : UInt8} (hnc : cs.length ≤ 4) (hc : pk s i = c) (h : c.toNat = 103 ∨ c.toNat = 112) {Y : UInt8 × Nat × Bool} (hY : ltX s cs.length (i + 1) false = Y) {Z : Nat × Nat × Bool} (hZ : dgX s (fldsX (cs.map toX) Y.1).length Y.2.1 Y.2.2 = Z) : InsR s cs ns nl i false ⟨i, c, Y.1, Z.1⟩ Z.2.1 Z.2.2 := by
  have hl : letters.contains c.toNat = true := by rcases h with h | h <;> (rw [h]; decide)
  have ho : operP s cs ns nl c.toNat (i + 1) = match letP s cs.length (i + 1) with
    | .error j => .error j
    | .ok (a, j) =>
      match digP s (nFields cs a) j with
      | .ok (b, l) => .ok (a, b, l)
      | .error l => .error l := by
    unfold operP
    rw [if_neg (by omega), if_neg (by omega), if_neg (by omega), if_pos h]
    rfl
  subst hY
  subst hZ
  unfold letP at ho
  cases hd : isLet cs.length (pk s (i + 1)) with
  | true =>
    rw [ltX_ok hd]
    rw [hd] at ho
    simp only [if_true] at ho ⊢
    rw [nFields_flds (a := 0) hd] at ho
    unfold digP at ho
    cases he : isDig (fldsX (cs.map toX) (pk s (i + 1))).length (pk s (i + 1 + 1)) with
    | true =>
      rw [dgX_ok he]
      rw [he] at ho
      have := ins_ok hc hl ho
      rw [toXI] at this
      simp only at this
      rw [if_pos (by omega), let_of hd hnc] at this
      exact this
    | false =>
      rw [dgX_no (Or.inr he)]
      rw [he] at ho
      exact ins_bad hc hl ho
  | false =>
    rw [ltX_no (Or.inr hd)]
    simp only
    rw [dgX_no (Or.inl rfl)]
    rw [hd] at ho
    exact ins_bad hc hl ho

theorem ins_call {c : UInt8} (hnc : cs.length ≤ 4) (hc : pk s i = c) (h : c.toNat = 99) {Y : UInt8 × Nat × Bool} (hY : ltX s cs.length (i + 1) false = Y) {Z : Nat × Nat × Bool} (hZ : dgX s ns Y.2.1 Y.2.2 = Z) : InsR s cs ns nl i false ⟨i, c, Y.1, Z.1⟩ Z.2.1 Z.2.2 := by
  have hl : letters.contains c.toNat = true := by rw [h]; decide
  have ho : operP s cs ns nl c.toNat (i + 1) = match letP s cs.length (i + 1) with
    | .error j => .error j
    | .ok (a, j) =>
      match digP s ns j with
      | .ok (b, l) => .ok (a, b, l)
      | .error l => .error l := by
    unfold operP
    rw [if_neg (by omega), if_neg (by omega), if_neg (by omega), if_neg (by omega), if_pos h]
    rfl
  subst hY
  subst hZ
  unfold letP at ho
  cases hd : isLet cs.length (pk s (i + 1)) with
  | true =>
    rw [ltX_ok hd]
    rw [hd] at ho
    simp only [if_true] at ho ⊢
    unfold digP at ho
    cases he : isDig ns (pk s (i + 1 + 1)) with
    | true =>
      rw [dgX_ok he]
      rw [he] at ho
      have := ins_ok hc hl ho
      rw [toXI] at this
      simp only at this
      rw [if_pos (by omega), let_of hd hnc] at this
      exact this
    | false =>
      rw [dgX_no (Or.inr he)]
      rw [he] at ho
      exact ins_bad hc hl ho
  | false =>
    rw [ltX_no (Or.inr hd)]
    simp only
    rw [dgX_no (Or.inl rfl)]
    rw [hd] at ho
    exact ins_bad hc hl ho

theorem ins_tgt {c : UInt8} (hc : pk s i = c) (h : c.toNat = 106 ∨ c.toNat = 102) {Z : Nat × Nat × Bool} (hZ : tgX s (i + 1) false = Z) : InsR s cs ns nl i false ⟨i, c, 45, Z.1⟩ Z.2.1 Z.2.2 := by
  have hl : letters.contains c.toNat = true := by rcases h with h | h <;> (rw [h]; decide)
  have ho : operP s cs ns nl c.toNat (i + 1) = match digP s 10 (i + 1) with
    | .error j => .error j
    | .ok (a, j) =>
      match digP s 10 j with
      | .ok (b, l) => .ok (0, 10 * a + b, l)
      | .error l => .error l := by
    unfold operP
    rw [if_neg (by omega), if_neg (by omega), if_neg (by omega), if_neg (by omega), if_neg (by omega), if_pos h]
    rfl
  subst hZ
  unfold tgX
  unfold digP at ho
  cases hd : isDig 10 (pk s (i + 1)) with
  | true =>
    rw [dgX_ok hd]
    rw [hd] at ho
    simp only [if_true] at ho ⊢
    cases he : isDig 10 (pk s (i + 1 + 1)) with
    | true =>
      rw [dgX_ok he]
      rw [he] at ho
      have := ins_ok hc hl ho
      rw [toXI] at this
      simp only at this
      rw [if_neg (by omega)] at this
      exact this
    | false =>
      rw [dgX_no (Or.inr he)]
      rw [he] at ho
      exact ins_bad hc hl ho
  | false =>
    rw [dgX_no (Or.inr hd)]
    simp only
    rw [dgX_no (Or.inl rfl)]
    rw [hd] at ho
    exact ins_bad hc hl ho
end
end Go.Proofs.YtmfbojnnoonidaaGreatDoor
