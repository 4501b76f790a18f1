import Derived.Test.YtpfkkmacakjmbaaGreatDoorP00
import Derived.Deep.AppendLies
set_option maxRecDepth 100000
set_option maxHeartbeats 6400000
namespace Go.Proofs.YtpfkkmacakjmbaaGreatDoor
open Go Go.RowKit Sp
set_option linter.unusedSimpArgs false
set_option linter.unusedVariables false
structure RdV where
 bods : Value
 hc : Value
 hm : Value
 ha : Value
 hl : Value
 hi : Value
 main : Bool
def XrB (w : World) (b : Nat) (s : ByteArray) (i : Nat) (bad : Bool) (v0 v1 : Value) (v2 : RdV) : Prop :=
 w.heap[b]? = some (.cells #[v0, v1, v2.bods, v2.hc, v2.hm, v2.ha, v2.hl, v2.hi, .int .i64 i, .bool bad, .bool v2.main, .string s] 250)
section
variable {w : World} {b : Nat} {s : ByteArray} {i : Nat} {bad : Bool} {v0 v1 : Value} {v2 : RdV}
theorem XrB.lt (h : XrB w b s i bad v0 v1 v2) : b < w.heap.size := lt_of_block h
theorem XrB.c0 (h : XrB w b s i bad v0 v1 v2) : w.cell? ⟨b, 0, none⟩ = some v0 := by rw [cell_of_row w b 0 _ _ (0, 0) h]; rfl
theorem XrB.c1 (h : XrB w b s i bad v0 v1 v2) : w.cell? ⟨b, 1, none⟩ = some v1 := by rw [cell_of_row w b 1 _ _ (0, 0) h]; rfl
theorem XrB.c2 (h : XrB w b s i bad v0 v1 v2) : w.cell? ⟨b, 2, none⟩ = some v2.bods := by rw [cell_of_row w b 2 _ _ (0, 0) h]; rfl
theorem XrB.d0 (h : XrB w b s i bad v0 v1 v2) : w.cell? ⟨b, 3, none⟩ = some v2.hc := by rw [cell_of_row w b 3 _ _ (0, 0) h]; rfl
theorem XrB.d1 (h : XrB w b s i bad v0 v1 v2) : w.cell? ⟨b, 4, none⟩ = some v2.hm := by rw [cell_of_row w b 4 _ _ (0, 0) h]; rfl
theorem XrB.d2 (h : XrB w b s i bad v0 v1 v2) : w.cell? ⟨b, 5, none⟩ = some v2.ha := by rw [cell_of_row w b 5 _ _ (0, 0) h]; rfl
theorem XrB.d3 (h : XrB w b s i bad v0 v1 v2) : w.cell? ⟨b, 6, none⟩ = some v2.hl := by rw [cell_of_row w b 6 _ _ (0, 0) h]; rfl
theorem XrB.d4 (h : XrB w b s i bad v0 v1 v2) : w.cell? ⟨b, 7, none⟩ = some v2.hi := by rw [cell_of_row w b 7 _ _ (0, 0) h]; rfl
theorem XrB.c3 (h : XrB w b s i bad v0 v1 v2) : w.cell? ⟨b, 8, none⟩ = some (.int .i64 i) := by rw [cell_of_row w b 8 _ _ (0, 0) h]; rfl
theorem XrB.c4 (h : XrB w b s i bad v0 v1 v2) : w.cell? ⟨b, 9, none⟩ = some (.bool bad) := by rw [cell_of_row w b 9 _ _ (0, 0) h]; rfl
theorem XrB.d5 (h : XrB w b s i bad v0 v1 v2) : w.cell? ⟨b, 10, none⟩ = some (.bool v2.main) := by rw [cell_of_row w b 10 _ _ (0, 0) h]; rfl
theorem XrB.c5 (h : XrB w b s i bad v0 v1 v2) : w.cell? ⟨b, 11, none⟩ = some (.string s) := by rw [cell_of_row w b 11 _ _ (0, 0) h]; rfl
theorem XrB.fz (h : XrB w b s i bad v0 v1 v2) (j : Nat) : w.frozen? ⟨b, j, none⟩ = false := frozen_of_row w b j _ _ h
theorem XrB.but {F : Nat → Prop} {w' : World} (h : XrB w b s i bad v0 v1 v2) (hb : But F w w') (hf : ¬ F b) : XrB w' b s i bad v0 v1 v2 := (hb.block b h.lt hf).trans h
theorem XrB.set0 (h : XrB w b s i bad v0 v1 v2) (u : Value) : XrB (w.setCell ⟨b, 0, none⟩ u) b s i bad u v1 v2 := heap_setCell_same w b 0 _ _ _ h
theorem XrB.set1 (h : XrB w b s i bad v0 v1 v2) (u : Value) : XrB (w.setCell ⟨b, 1, none⟩ u) b s i bad v0 u v2 := heap_setCell_same w b 1 _ _ _ h
theorem XrB.set2 (h : XrB w b s i bad v0 v1 v2) (u : Value) : XrB (w.setCell ⟨b, 2, none⟩ u) b s i bad v0 v1 ⟨u, v2.hc, v2.hm, v2.ha, v2.hl, v2.hi, v2.main⟩ := heap_setCell_same w b 2 _ _ _ h
theorem XrB.setB (h : XrB w b s i bad v0 v1 v2) (x0 x1 x2 x3 x4 : Value) : XrB (((((w.setCell ⟨b, 3, none⟩ x0).setCell ⟨b, 4, none⟩ x1).setCell ⟨b, 5, none⟩ x2).setCell ⟨b, 6, none⟩ x3).setCell ⟨b, 7, none⟩ x4) b s i bad v0 v1 ⟨v2.bods, x0, x1, x2, x3, x4, v2.main⟩ :=
 heap_setCell_same _ b 7 _ _ _ (heap_setCell_same _ b 6 _ _ _ (heap_setCell_same _ b 5 _ _ _ (heap_setCell_same _ b 4 _ _ _ (heap_setCell_same w b 3 _ _ _ h))))
theorem XrB.setI (h : XrB w b s i bad v0 v1 v2) (u : Value) : XrB (w.setCell ⟨b, 7, none⟩ u) b s i bad v0 v1 ⟨v2.bods, v2.hc, v2.hm, v2.ha, v2.hl, u, v2.main⟩ := heap_setCell_same w b 7 _ _ _ h
theorem XrB.setM (h : XrB w b s i bad v0 v1 v2) (d : Bool) : XrB (w.setCell ⟨b, 10, none⟩ (.bool d)) b s i bad v0 v1 ⟨v2.bods, v2.hc, v2.hm, v2.ha, v2.hl, v2.hi, d⟩ := heap_setCell_same w b 10 _ _ _ h
theorem XrB.set3 (h : XrB w b s i bad v0 v1 v2) (j : Nat) : XrB (w.setCell ⟨b, 8, none⟩ (.int .i64 j)) b s j bad v0 v1 v2 := heap_setCell_same w b 8 _ _ _ h
theorem XrB.set4 (h : XrB w b s i bad v0 v1 v2) (d : Bool) : XrB (w.setCell ⟨b, 9, none⟩ (.bool d)) b s i d v0 v1 v2 := heap_setCell_same w b 9 _ _ _ h
theorem XrB.drewN (h : XrB w b s i bad v0 v1 v2) (n : Nat) : XrB (w.drewN n) b s i bad v0 v1 v2 := h
end
section
variable (b : Nat) (s : ByteArray) (i : Nat) (bad : Bool) (v0 v1 : Value) (v2 : RdV) (w : World)
theorem xnext_any (hR : XrB w b s i bad v0 v1 v2) :
  Calls Tryz.prog 214 #[.pointer (some ⟨b, 0, none⟩)] w fun e w' => e = .returned (.int .u8 (pk s i).toNat) ∧ ∃ n, w' = w.drewN n := by
 have h3 := hR.c3
 have h5 := hR.c5
 clear hR
 have h0 : ¬ (i : Int) < 0 := by omega
 by_cases hi : (i : Int) < (s.size : Int)
 ·have hp : pk s i = s[i]'(by omega) := by unfold pk; rw [dif_pos (by omega)]
  rw [hp]; clear hp
  go_enter Tryz.func214, Tryz.ntmps214
  go_wp2
  go_quiet (fail)
  go_wp2
  go_quiet (fail)
  go_wp2
  go_ret
  exact ⟨rfl, _, World.drewN_drewN _ _ _⟩
 ·have hp : pk s i = 0 := by unfold pk; rw [dif_neg (by omega)]
  rw [hp]; clear hp
  go_enter Tryz.func214, Tryz.ntmps214
  go_wp2
  go_quiet (fail)
  go_wp2
  go_ret
  exact ⟨rfl, _, rfl⟩
theorem xrefuse_bad (j : Nat) (hR : XrB w b s i true v0 v1 v2) :
  Calls Tryz.prog 201 #[.pointer (some ⟨b, 0, none⟩), .int .i64 j] w fun e w' => e = .returned (.tuple #[]) ∧ But (· = b) w w' ∧ XrB w' b s i true v0 v1 v2 := by
 have h4 := hR.c4
 go_enter Tryz.func201, Tryz.ntmps201
 go_wp2
 go_end0
 exact ⟨rfl, But.refl _ _, hR⟩
theorem xrefuse_ok (j : Nat) (hR : XrB w b s i false v0 v1 v2) :
  Calls Tryz.prog 201 #[.pointer (some ⟨b, 0, none⟩), .int .i64 j] w fun e w' => e = .returned (.tuple #[]) ∧ But (· = b) w w' ∧ XrB w' b s j true v0 v1 v2 := by
 have h4 := hR.c4
 have h3 := hR.c3
 have f3 := hR.fz 8
 have f4 := hR.fz 9
 go_enter Tryz.func201, Tryz.ntmps201
 go_wp2
 go_end0
 exact ⟨rfl, (But.setB _ _ _ _).trans (But.setB _ _ _ _), (hR.set4 true).set3 j⟩
theorem xbefore_any (c : UInt8) (hR : XrB w b s i bad v0 v1 v2) :
  Calls Tryz.prog 163 #[.pointer (some ⟨b, 0, none⟩), .int .u8 c.toNat] w fun e w' => e = .returned (.bool (!bad && !decide (pk s i = c))) ∧ ∃ n, w' = w.drewN n := by
 have h4 := hR.c4
 cases bad with
 | true =>
  go_enter Tryz.func163, Tryz.ntmps163
  go_wp2_with fail
  exact bodyPost_ret (v := .bool false) (by simp [results, Tryz.results163, go_sem]) rfl ⟨rfl, 0, rfl⟩
 | false =>
  by_cases hc : pk s i = c
  ·have e : (((pk s i).toNat : Int) == (c.toNat : Int)) = true := by rw [hc]; simp
   have e' : (((pk s i).toNat : Int) != (c.toNat : Int)) = false := by simp [bne, e]
   have ev : (!false && !decide (pk s i = c)) = false := by simp [hc]
   rw [ev]
   clear ev hc
   go_enter Tryz.func163, Tryz.ntmps163
   go_wp2_with fail
   refine (xnext_any b s i false v0 v1 v2 _ hR).mono ?_
   rintro en w' ⟨rfl, n, rfl⟩
   go_wp2_with fail
   exact bodyPost_ret (v := .bool false) (by simp [results, Tryz.results163, go_sem, e, e']) rfl ⟨rfl, n, rfl⟩
  ·have e : (((pk s i).toNat : Int) == (c.toNat : Int)) = false := by rw [beq_eq_false_iff_ne]; intro h; exact hc (UInt8.toNat_inj.1 (by omega))
   have e' : (((pk s i).toNat : Int) != (c.toNat : Int)) = true := by simp [bne, e]
   have ev : (!false && !decide (pk s i = c)) = true := by simp [hc]
   rw [ev]
   clear ev hc
   go_enter Tryz.func163, Tryz.ntmps163
   go_wp2_with fail
   refine (xnext_any b s i false v0 v1 v2 _ hR).mono ?_
   rintro en w' ⟨rfl, n, rfl⟩
   go_wp2_with fail
   exact bodyPost_ret (v := .bool true) (by simp [results, Tryz.results163, go_sem, e, e']) rfl ⟨rfl, n, rfl⟩
def tbP (s : ByteArray) (i : Nat) (bad : Bool) : UInt8 × Nat × Bool :=
 if bad = true ∨ s.size ≤ i then (0, i, true) else (pk s i, i + 1, false)
theorem xtakeByte_any (hs : s.size ≤ 2000) (hR : XrB w b s i bad v0 v1 v2) :
  Calls Tryz.prog 217 #[.pointer (some ⟨b, 0, none⟩)] w fun e w' => e = .returned (.int .u8 (tbP s i bad).1.toNat) ∧ But (· = b) w w' ∧ XrB w' b s (tbP s i bad).2.1 (tbP s i bad).2.2 v0 v1 v2 := by
 have h3 := hR.c3
 have h4 := hR.c4
 have h5 := hR.c5
 have f3 := hR.fz 8
 have f4 := hR.fz 9
 have blt := hR.lt
 by_cases hi : (i : Int) < (s.size : Int)
 ·cases bad with
  | true =>
   rw [show tbP s i true = (0, i, true) from by simp [tbP]]
   go_enter Tryz.func217, Tryz.ntmps217
   go_wp2
   go_quiet (fail)
   go_wp2
   go_ret
   exact ⟨rfl, But.drewN _ _ _, hR.drewN _⟩
  | false =>
   rw [show tbP s i false = (pk s i, i + 1, false) from by unfold tbP; rw [if_neg (by simp; omega)]]
   go_enter Tryz.func217, Tryz.ntmps217
   go_wp2
   go_quiet (fail)
   go_wp2_with fail
   refine (xnext_any b s i false v0 v1 v2 _ (hR.drewN _)).mono ?_
   rintro en w' ⟨rfl, n, rfl⟩
   go_wp2_with fail
   go_ret
   exact ⟨rfl, (But.drewN _ _ _).trans (But.setB _ _ _ _), by simpa using (hR.drewN _).set3 (i + 1)⟩
 ·rw [show tbP s i bad = (0, i, true) from by unfold tbP; rw [if_pos (by right; omega)]]
  go_enter Tryz.func217, Tryz.ntmps217
  go_wp2
  go_quiet (fail)
  go_wp2
  go_ret
  exact ⟨rfl, (But.drewN _ _ _).trans (But.setB _ _ _ _), (hR.drewN _).set4 true⟩
end
def tkP (s : ByteArray) (c : UInt8) (i : Nat) (bad : Bool) : Nat × Bool := if bad = false ∧ pk s i = c then (i + 1, false) else (i, true)
section
variable (b : Nat) (s : ByteArray) (i : Nat) (bad : Bool) (v0 v1 : Value) (v2 : RdV) (w : World)
theorem tbP_zero {s : ByteArray} {i : Nat} {bad : Bool} (h : bad = true ∨ s.size ≤ i) : tbP s i bad = (0, i, true) := by unfold tbP; rw [if_pos h]
theorem tbP_ok {s : ByteArray} {i : Nat} (h : i < s.size) : tbP s i false = (pk s i, i + 1, false) := by unfold tbP; rw [if_neg (by simp; omega)]
theorem pk_end {s : ByteArray} {i : Nat} (h : s.size ≤ i) : pk s i = 0 := by unfold pk; rw [dif_neg (by omega)]
theorem xtake_any (c : UInt8) (hc0 : 0 < c.toNat) (hs : s.size ≤ 2000) (hR : XrB w b s i bad v0 v1 v2) :
  Calls Tryz.prog 165 #[.pointer (some ⟨b, 0, none⟩), .int .u8 c.toNat] w fun e w' => e = .returned (.tuple #[]) ∧ But (· = b) w w' ∧ XrB w' b s (tkP s c i bad).1 (tkP s c i bad).2 v0 v1 v2 := by
 have h3 := hR.c3
 by_cases hz : bad = true ∨ s.size ≤ i
 ·have htk : tkP s c i bad = (i, true) := by
   unfold tkP
   rw [if_neg]
   rintro ⟨h1, h2⟩
   rcases hz with h | h
   ·rw [h] at h1; cases h1
   ·rw [pk_end h] at h2; subst h2; simp at hc0
  rw [htk]
  have hb := xtakeByte_any b s i bad v0 v1 v2 w hs hR
  rw [tbP_zero hz] at hb
  have HB := hid hb
  clear hb htk
  have e : ((0 : Int) == (c.toNat : Int)) = false := by rw [beq_eq_false_iff_ne]; omega
  have e' : ((0 : Int) != (c.toNat : Int)) = true := by simp [bne, e]
  have e2 : ¬ ((0 : Int) = (c.toNat : Int)) := by omega
  go_enter Tryz.func165, Tryz.ntmps165
  go_wp2_with fail
  refine HB.out.mono ?_
  rintro en w1 ⟨rfl, hB1, hR1⟩
  go_wp2_with fail
  refine (xrefuse_bad b s i v0 v1 v2 w1 i hR1).mono ?_
  rintro en w2 ⟨rfl, hB2, hR2⟩
  go_wp2_with fail
  go_end0
  exact ⟨rfl, hB1.trans hB2, hR2⟩
 ·have hz' := not_or.1 hz
  have hbf : bad = false := by simpa using hz'.1
  subst hbf
  have hb := xtakeByte_any b s i false v0 v1 v2 w hs hR
  rw [tbP_ok (by omega)] at hb
  have HB := hid hb
  clear hb
  by_cases hc : pk s i = c
  ·rw [show tkP s c i false = (i + 1, false) from by unfold tkP; rw [if_pos ⟨rfl, hc⟩]]
   have e : (((pk s i).toNat : Int) == (c.toNat : Int)) = true := by rw [hc]; simp
   have e' : (((pk s i).toNat : Int) != (c.toNat : Int)) = false := by simp [bne, e]
   have e2 : (((pk s i).toNat : Int) = (c.toNat : Int)) := by rw [hc]
   have E2 := hid e2
   clear hc e2 hz hz'
   go_enter Tryz.func165, Tryz.ntmps165
   go_wp2_with fail
   refine HB.out.mono ?_
   rintro en w1 ⟨rfl, hB1, hR1⟩
   go_wp2_with fail
   go_end0
   exact ⟨rfl, hB1, hR1⟩
  ·rw [show tkP s c i false = (i, true) from by unfold tkP; rw [if_neg (fun h => hc h.2)]]
   have e : (((pk s i).toNat : Int) == (c.toNat : Int)) = false := by rw [beq_eq_false_iff_ne]; intro h; exact hc (UInt8.toNat_inj.1 (by omega))
   have e' : (((pk s i).toNat : Int) != (c.toNat : Int)) = true := by simp [bne, e]
   have e2 : ¬ (((pk s i).toNat : Int) = (c.toNat : Int)) := by simpa using e
   clear hc hz hz'
   go_enter Tryz.func165, Tryz.ntmps165
   go_wp2_with fail
   refine HB.out.mono ?_
   rintro en w1 ⟨rfl, hB1, hR1⟩
   go_wp2_with fail
   refine (xrefuse_ok b s (i + 1) v0 v1 v2 w1 i hR1).mono ?_
   rintro en w2 ⟨rfl, hB2, hR2⟩
   go_wp2_with fail
   go_end0
   exact ⟨rfl, hB1.trans hB2, hR2⟩
def dgX (s : ByteArray) (n i : Nat) (bad : Bool) : Nat × Nat × Bool := if bad = false ∧ isDig n (pk s i) = true then ((pk s i).toNat - 48, i + 1, false) else (0, i, true)
theorem xtakeDigit_any (n : Nat) (hn : n ≤ 100) (hs : s.size ≤ 2000) (hR : XrB w b s i bad v0 v1 v2) :
  Calls Tryz.prog 220 #[.pointer (some ⟨b, 0, none⟩), .int .i64 n] w fun e w' => e = .returned (.int .i64 (dgX s n i bad).1) ∧ But (· = b) w w' ∧ XrB w' b s (dgX s n i bad).2.1 (dgX s n i bad).2.2 v0 v1 v2 := by
 have h3 := hR.c3
 by_cases hz : bad = true ∨ s.size ≤ i
 ·have htk : dgX s n i bad = (0, i, true) := by
   unfold dgX
   rw [if_neg]
   rintro ⟨h1, h2⟩
   rcases hz with h | h
   ·rw [h] at h1; cases h1
   ·rw [pk_end h] at h2; simp [isDig] at h2
  rw [htk]
  have hb := xtakeByte_any b s i bad v0 v1 v2 w hs hR
  rw [tbP_zero hz] at hb
  have HB := hid hb
  clear hb htk
  go_enter Tryz.func220, Tryz.ntmps220
  go_wp2_with fail
  refine HB.out.mono ?_
  rintro en w1 ⟨rfl, hB1, hR1⟩
  go_wp2_with fail
  refine (xrefuse_bad b s i v0 v1 v2 w1 i hR1).mono ?_
  rintro en w2 ⟨rfl, hB2, hR2⟩
  go_wp2_with fail
  go_ret
  exact ⟨rfl, hB1.trans hB2, hR2⟩
 ·have hz' := not_or.1 hz
  have hbf : bad = false := by simpa using hz'.1
  subst hbf
  have hb := xtakeByte_any b s i false v0 v1 v2 w hs hR
  rw [tbP_ok (by omega)] at hb
  have HB := hid hb
  clear hb
  by_cases hd : isDig n (pk s i) = true
  ·rw [show dgX s n i false = ((pk s i).toNat - 48, i + 1, false) from by unfold dgX; rw [if_pos ⟨rfl, hd⟩]]
   simp only [isDig, Bool.and_eq_true, decide_eq_true_eq] at hd
   revert HB
   generalize pk s i = c at *
   intro HB
   have a1 : ¬ ((c.toNat : Int) < 48) := by omega
   have a2 : ¬ (57 < (c.toNat : Int)) := by omega
   have hsub : IntKind.u8.wrap ((c.toNat : Int) - 48) = ((c.toNat - 48 : Nat) : Int) := by
    rw [IntWalk.u8_in _ (by omega)]; omega
   have a3 : ¬ ((n : Int) ≤ ((c.toNat - 48 : Nat) : Int)) := by omega
   clear hz hz' hd
   go_enter Tryz.func220, Tryz.ntmps220
   go_wp2_with fail
   refine HB.out.mono ?_
   rintro en w1 ⟨rfl, hB1, hR1⟩
   go_wp2_with fail
   go_ret
   exact ⟨rfl, hB1, hR1⟩
  ·rw [show dgX s n i false = (0, i, true) from by unfold dgX; rw [if_neg (fun h => hd h.2)]]
   simp only [isDig, Bool.and_eq_true, decide_eq_true_eq] at hd
   revert HB
   generalize pk s i = c at *
   intro HB
   clear hz hz'
   by_cases a1 : (c.toNat : Int) < 48
   ·clear hd
    go_enter Tryz.func220, Tryz.ntmps220
    go_wp2_with fail
    refine HB.out.mono ?_
    rintro en w1 ⟨rfl, hB1, hR1⟩
    go_wp2_with fail
    refine (xrefuse_ok b s (i + 1) v0 v1 v2 w1 i hR1).mono ?_
    rintro en w2 ⟨rfl, hB2, hR2⟩
    go_wp2_with fail
    go_ret
    exact ⟨rfl, hB1.trans hB2, hR2⟩
   ·by_cases a2 : 57 < (c.toNat : Int)
    ·clear hd
     go_enter Tryz.func220, Tryz.ntmps220
     go_wp2_with fail
     refine HB.out.mono ?_
     rintro en w1 ⟨rfl, hB1, hR1⟩
     go_wp2_with fail
     refine (xrefuse_ok b s (i + 1) v0 v1 v2 w1 i hR1).mono ?_
     rintro en w2 ⟨rfl, hB2, hR2⟩
     go_wp2_with fail
     go_ret
     exact ⟨rfl, hB1.trans hB2, hR2⟩
    ·have hsub : IntKind.u8.wrap ((c.toNat : Int) - 48) = ((c.toNat - 48 : Nat) : Int) := by
      rw [IntWalk.u8_in _ (by omega)]; omega
     have a3 : (n : Int) ≤ ((c.toNat - 48 : Nat) : Int) := by omega
     clear hd
     go_enter Tryz.func220, Tryz.ntmps220
     go_wp2_with fail
     refine HB.out.mono ?_
     rintro en w1 ⟨rfl, hB1, hR1⟩
     go_wp2_with fail
     refine (xrefuse_ok b s (i + 1) v0 v1 v2 w1 i hR1).mono ?_
     rintro en w2 ⟨rfl, hB2, hR2⟩
     go_wp2_with fail
     go_ret
     exact ⟨rfl, hB1.trans hB2, hR2⟩
end
def ltX (s : ByteArray) (n i : Nat) (bad : Bool) : UInt8 × Nat × Bool := if bad = false ∧ isLet n (pk s i) = true then (pk s i, i + 1, false) else (45, i, true)
def tyX (s : ByteArray) (n i : Nat) (bad : Bool) : UInt8 × Nat × Bool := if bad = false ∧ isTy n (pk s i) = true then (pk s i, i + 1, false) else (if (pk s i).toNat = 105 then 0 else 45, i, true)
def paX (s : ByteArray) (n i : Nat) (bad : Bool) : UInt8 × Nat × Bool := if bad = false ∧ ((pk s i).toNat = 45 ∨ isLet n (pk s i) = true) then (pk s i, i + 1, false) else (if (pk s i).toNat = 45 then 0 else 45, i, true)
section
variable (b : Nat) (s : ByteArray) (i : Nat) (bad : Bool) (v0 v1 : Value) (v2 : RdV) (w : World)
theorem xletter_any (n : Nat) (hn : n ≤ 100) (hs : s.size ≤ 2000) (hR : XrB w b s i bad v0 v1 v2) :
  Calls Tryz.prog 218 #[.pointer (some ⟨b, 0, none⟩), .int .i64 n] w fun e w' => e = .returned (.int .u8 (ltX s n i bad).1.toNat) ∧ But (· = b) w w' ∧ XrB w' b s (ltX s n i bad).2.1 (ltX s n i bad).2.2 v0 v1 v2 := by
 have h3 := hR.c3
 by_cases hz : bad = true ∨ s.size ≤ i
 ·have htk : ltX s n i bad = (45, i, true) := by
   unfold ltX
   rw [if_neg]
   rintro ⟨h1, h2⟩
   rcases hz with h | h
   ·rw [h] at h1; cases h1
   ·rw [pk_end h] at h2; simp [isLet] at h2
  rw [htk]
  have hb := xtakeByte_any b s i bad v0 v1 v2 w hs hR
  rw [tbP_zero hz] at hb
  have HB := hid hb
  clear hb htk
  go_enter Tryz.func218, Tryz.ntmps218
  go_wp2_with fail
  refine HB.out.mono ?_
  rintro en w1 ⟨rfl, hB1, hR1⟩
  go_wp2_with fail
  refine (xrefuse_bad b s i v0 v1 v2 w1 i hR1).mono ?_
  rintro en w2 ⟨rfl, hB2, hR2⟩
  go_wp2_with fail
  go_ret
  exact ⟨rfl, hB1.trans hB2, hR2⟩
 ·have hz' := not_or.1 hz
  have hbf : bad = false := by simpa using hz'.1
  subst hbf
  have hb := xtakeByte_any b s i false v0 v1 v2 w hs hR
  rw [tbP_ok (by omega)] at hb
  have HB := hid hb
  clear hb
  by_cases hd : isLet n (pk s i) = true
  ·rw [show ltX s n i false = (pk s i, i + 1, false) from by unfold ltX; rw [if_pos ⟨rfl, hd⟩]]
   simp only [isLet, Bool.and_eq_true, decide_eq_true_eq] at hd
   revert HB
   generalize pk s i = c at *
   intro HB
   have c255 : c.toNat < 256 := c.toNat_lt
   have a1 : ¬ ((c.toNat : Int) < 65) := by omega
   have hsub : IntKind.u8.wrap ((c.toNat : Int) - 65) = ((c.toNat - 65 : Nat) : Int) := by
    rw [IntWalk.u8_in _ (by omega)]; omega
   have a3 : ¬ ((n : Int) ≤ ((c.toNat - 65 : Nat) : Int)) := by omega
   clear hz hz' hd
   go_enter Tryz.func218, Tryz.ntmps218
   go_wp2_with fail
   refine HB.out.mono ?_
   rintro en w1 ⟨rfl, hB1, hR1⟩
   go_wp2_with fail
   go_ret
   exact ⟨rfl, hB1, hR1⟩
  ·rw [show ltX s n i false = (45, i, true) from by unfold ltX; rw [if_neg (fun h => hd h.2)]]
   simp only [isLet, Bool.and_eq_true, decide_eq_true_eq] at hd
   revert HB
   generalize pk s i = c at *
   intro HB
   have c255 : c.toNat < 256 := c.toNat_lt
   clear hz hz'
   by_cases a1 : (c.toNat : Int) < 65
   ·clear hd
    go_enter Tryz.func218, Tryz.ntmps218
    go_wp2_with fail
    refine HB.out.mono ?_
    rintro en w1 ⟨rfl, hB1, hR1⟩
    go_wp2_with fail
    refine (xrefuse_ok b s (i + 1) v0 v1 v2 w1 i hR1).mono ?_
    rintro en w2 ⟨rfl, hB2, hR2⟩
    go_wp2_with fail
    go_ret
    exact ⟨rfl, hB1.trans hB2, hR2⟩
   ·have hsub : IntKind.u8.wrap ((c.toNat : Int) - 65) = ((c.toNat - 65 : Nat) : Int) := by
     rw [IntWalk.u8_in _ (by omega)]; omega
    have a3 : (n : Int) ≤ ((c.toNat - 65 : Nat) : Int) := by omega
    clear hd
    go_enter Tryz.func218, Tryz.ntmps218
    go_wp2_with fail
    refine HB.out.mono ?_
    rintro en w1 ⟨rfl, hB1, hR1⟩
    go_wp2_with fail
    refine (xrefuse_ok b s (i + 1) v0 v1 v2 w1 i hR1).mono ?_
    rintro en w2 ⟨rfl, hB2, hR2⟩
    go_wp2_with fail
    go_ret
    exact ⟨rfl, hB1.trans hB2, hR2⟩
theorem xclass_any (n cap : Nat) (ao : Option Addr) (hn : n ≤ 100) (hs : s.size ≤ 2000) (hR : XrB w b s i bad (.slice ao n cap) v1 v2) :
  Calls Tryz.prog 219 #[.pointer (some ⟨b, 0, none⟩)] w fun e w' => e = .returned (.int .u8 (ltX s n i bad).1.toNat) ∧ But (· = b) w w' ∧ XrB w' b s (ltX s n i bad).2.1 (ltX s n i bad).2.2 (.slice ao n cap) v1 v2 := by
 have h0 := hR.c0
 go_enter Tryz.func219, Tryz.ntmps219
 go_wp2_with fail
 refine (xletter_any b s i bad (.slice ao n cap) v1 v2 w n hn hs hR).mono ?_
 rintro en w2 ⟨rfl, hB2, hR2⟩
 go_wp2_with fail
 go_ret
 exact ⟨rfl, hB2, hR2⟩
theorem xtype_any (n : Nat) (hn : n ≤ 4) (hs : s.size ≤ 2000) (hR : XrB w b s i bad v0 v1 v2) :
  Calls Tryz.prog 166 #[.pointer (some ⟨b, 0, none⟩), .int .i64 n] w fun e w' => e = .returned (.int .u8 (tyX s n i bad).1.toNat) ∧ But (· = b) w w' ∧ XrB w' b s (tyX s n i bad).2.1 (tyX s n i bad).2.2 v0 v1 v2 := by
 by_cases h105 : (pk s i).toNat = 105
 ·have e : (((pk s i).toNat : Int) == 105) = true := by rw [beq_iff_eq]; omega
  have hlt : i < s.size := pk_lt (by omega)
  have htb : tyX s n i bad = tbP s i bad := by
   unfold tyX tbP
   cases bad with
   | true => simp [h105]
   | false => rw [if_pos ⟨rfl, by simp [isTy, h105]⟩, if_neg (by simp; omega)]
  rw [htb]
  clear h105 htb
  go_enter Tryz.func166, Tryz.ntmps166
  go_wp2_with fail
  refine (xnext_any b s i bad v0 v1 v2 w hR).mono ?_
  rintro en w1 ⟨rfl, m, rfl⟩
  go_wp2_with fail
  refine (xtakeByte_any b s i bad v0 v1 v2 _ hs (hR.drewN m)).mono ?_
  rintro en w2 ⟨rfl, hB2, hR2⟩
  go_wp2_with fail
  go_ret
  exact ⟨rfl, (But.drewN _ _ _).trans hB2, hR2⟩
 ·have e : (((pk s i).toNat : Int) == 105) = false := by rw [beq_eq_false_iff_ne]; omega
  have htb : tyX s n i bad = ltX s n i bad := by
   unfold tyX ltX
   simp [isTy, h105]
  rw [htb]
  clear h105 htb
  go_enter Tryz.func166, Tryz.ntmps166
  go_wp2_with fail
  refine (xnext_any b s i bad v0 v1 v2 w hR).mono ?_
  rintro en w1 ⟨rfl, m, rfl⟩
  go_wp2_with fail
  refine (xletter_any b s i bad v0 v1 v2 _ n (by omega) hs (hR.drewN m)).mono ?_
  rintro en w2 ⟨rfl, hB2, hR2⟩
  go_wp2_with fail
  go_ret
  exact ⟨rfl, (But.drewN _ _ _).trans hB2, hR2⟩
theorem xparent_any (n cap : Nat) (ao : Option Addr) (hn : n ≤ 4) (hs : s.size ≤ 2000) (hR : XrB w b s i bad (.slice ao n cap) v1 v2) :
  Calls Tryz.prog 215 #[.pointer (some ⟨b, 0, none⟩)] w fun e w' => e = .returned (.int .u8 (paX s n i bad).1.toNat) ∧ But (· = b) w w' ∧ XrB w' b s (paX s n i bad).2.1 (paX s n i bad).2.2 (.slice ao n cap) v1 v2 := by
 by_cases h45 : (pk s i).toNat = 45
 ·have e : (((pk s i).toNat : Int) == 45) = true := by rw [beq_iff_eq]; omega
  have hlt : i < s.size := pk_lt (by omega)
  have htb : paX s n i bad = tbP s i bad := by
   unfold paX tbP
   cases bad with
   | true => simp [h45]
   | false => rw [if_pos ⟨rfl, Or.inl h45⟩, if_neg (by simp; omega)]
  rw [htb]
  clear h45 htb
  go_enter Tryz.func215, Tryz.ntmps215
  go_wp2_with fail
  refine (xnext_any b s i bad (.slice ao n cap) v1 v2 w hR).mono ?_
  rintro en w1 ⟨rfl, m, rfl⟩
  go_wp2_with fail
  refine (xtakeByte_any b s i bad (.slice ao n cap) v1 v2 _ hs (hR.drewN m)).mono ?_
  rintro en w2 ⟨rfl, hB2, hR2⟩
  go_wp2_with fail
  go_ret
  exact ⟨rfl, (But.drewN _ _ _).trans hB2, hR2⟩
 ·have e : (((pk s i).toNat : Int) == 45) = false := by rw [beq_eq_false_iff_ne]; omega
  have htb : paX s n i bad = ltX s n i bad := by
   unfold paX ltX
   simp [h45]
  rw [htb]
  clear h45 htb
  go_enter Tryz.func215, Tryz.ntmps215
  go_wp2_with fail
  refine (xnext_any b s i bad (.slice ao n cap) v1 v2 w hR).mono ?_
  rintro en w1 ⟨rfl, m, rfl⟩
  go_wp2_with fail
  refine (xclass_any b s i bad v1 v2 _ n cap ao (by omega) hs (hR.drewN m)).mono ?_
  rintro en w2 ⟨rfl, hB2, hR2⟩
  go_wp2_with fail
  go_ret
  exact ⟨rfl, (But.drewN _ _ _).trans hB2, hR2⟩
end
end Go.Proofs.YtpfkkmacakjmbaaGreatDoor
namespace Go.Proofs.YtpfkkmacakjmbaaGreatDoor
open Go Go.RowKit Sp
set_option linter.unusedSimpArgs false
set_option linter.unusedVariables false
attribute [local go_sem ↓] Go.wp_at_zero Go.wp_at_succ
def btCells (l : List UInt8) : List Value := l.map fun c => .int .u8 c.toNat
theorem info_u8 : (Tryz.prog.info? 5).map (fun i => (i.zero, i.size, i.bytes)) = some (some (.int .u8 0), 1, 1) := by kernel_rfl
def BtB (w : World) (base : Nat) (v : Value) (l : List UInt8) : Prop := w.ownsRow base 5 1 v l.length (btCells l)
theorem BtB.empty (w : World) : BtB (w.alloc (.cells #[] 5)) w.heap.size (.slice (some ⟨w.heap.size, 0, none⟩) 0 0) [] := by
 refine ⟨rfl, Or.inr ⟨w.heap.size, 0, #[], rfl, Nat.le_refl _, heap_alloc_new _ _, Nat.le_refl _, by unfold maxLen; omega, rfl, rfl⟩⟩
theorem BtB.but {F : Nat → Prop} {w w' : World} {base : Nat} {v : Value} {l : List UInt8} (h : BtB w base v l) (hb : But F w w') (hf : ∀ g, v.ownBlock = some g → ¬ F g) : BtB w' base v l := owns_but h hb hf
def TysC (s : ByteArray) (n : Nat) (e : UInt8) (most : Nat) (R : Except Nat (List UInt8 × Nat)) (mm : Nat) (t : List UInt8) (j : Nat) (bad : Bool) : Prop :=
 (bad = false ∧ t.length + mm = most ∧ tys s n e mm t j = R) ∨ (bad = true ∧ mm = 0 ∧ R = .error j)
theorem TysC.fin {s : ByteArray} {n : Nat} {e : UInt8} {most : Nat} {R : Except Nat (List UInt8 × Nat)} {mm : Nat} {t : List UInt8} {j : Nat} {bad : Bool} (h : TysC s n e most R mm t j bad) (hx : bad = true ∨ ¬ t.length < most ∨ pk s j = e) :
  ((tkP s e j bad).2 = false ∧ R = .ok (t, (tkP s e j bad).1)) ∨ ((tkP s e j bad).2 = true ∧ R = .error (tkP s e j bad).1) := by
 rcases h with ⟨rfl, h1, h2⟩ | ⟨rfl, h1, h2⟩
 ·by_cases hp : pk s j = e
  ·left
   rw [show tkP s e j false = (j + 1, false) from by unfold tkP; rw [if_pos ⟨rfl, hp⟩]]
   refine ⟨rfl, ?_⟩
   rw [← h2]
   cases mm <;> simp [tys, hp]
  ·right
   rw [show tkP s e j false = (j, true) from by unfold tkP; rw [if_neg (fun h => hp h.2)]]
   refine ⟨rfl, ?_⟩
   have : mm = 0 := by
    rcases hx with h | h | h
    ·cases h
    ·omega
    ·exact absurd h hp
   subst this
   rw [← h2]
   simp [tys, hp]
 ·right
  rw [show tkP s e j true = (j, true) from by unfold tkP; rw [if_neg (by simp)]]
  exact ⟨rfl, h2⟩
theorem TysC.next {s : ByteArray} {n : Nat} {e : UInt8} {most : Nat} {R : Except Nat (List UInt8 × Nat)} {mm : Nat} {t : List UInt8} {j : Nat} (h : TysC s n e most R mm t j false) (hl : t.length < most) (hp : pk s j ≠ e) :
  ∃ m', m' < mm ∧ TysC s n e most R m' (t ++ [(tyX s n j false).1]) (tyX s n j false).2.1 (tyX s n j false).2.2 := by
 rcases h with ⟨_, h1, h2⟩ | ⟨h, _⟩
 ·obtain ⟨f, rfl⟩ : ∃ f, mm = f + 1 := ⟨mm - 1, by omega⟩
  simp only [tys, if_neg hp] at h2
  by_cases ht : isTy n (pk s j) = true
  ·rw [show tyX s n j false = (pk s j, j + 1, false) from by unfold tyX; rw [if_pos ⟨rfl, ht⟩]]
   rw [if_pos ht] at h2
   exact ⟨f, by omega, Or.inl ⟨rfl, by simp; omega, h2⟩⟩
  ·rw [show tyX s n j false = (if (pk s j).toNat = 105 then 0 else 45, j, true) from by unfold tyX; rw [if_neg (fun h => ht h.2)]]
   rw [if_neg ht] at h2
   exact ⟨0, by omega, Or.inr ⟨rfl, rfl, h2.symm⟩⟩
 ·cases h
section
variable (b : Nat) (s : ByteArray) (i : Nat) (bad : Bool) (v0 v1 : Value) (v2 : RdV) (w : World)
theorem xtypes_any (most n : Nat) (e : UInt8) (he : 0 < e.toNat) (hm : most ≤ 10) (hn : n ≤ 4) (hs : s.size ≤ 2000) (hR : XrB w b s i false v0 v1 v2) :
  Calls Tryz.prog 216 #[.pointer (some ⟨b, 0, none⟩), .int .i64 most, .int .i64 n, .int .u8 e.toNat] w fun en w' => But (· = b) w w' ∧ ∃ v l j bad', en = .returned v ∧ XrB w' b s j bad' v0 v1 v2 ∧ BtB w' w.heap.size v l ∧ l.length ≤ most ∧
   ((bad' = false ∧ tys s n e most [] i = .ok (l, j)) ∨ (bad' = true ∧ tys s n e most [] i = .error j)) := by
 obtain ⟨R, hRR⟩ : ∃ R, tys s n e most [] i = R := ⟨_, rfl⟩
 rw [hRR]
 have HRR := hid hRR
 clear hRR
 obtain ⟨i0, hi0, hz0, hz1, hz2⟩ := info_parts info_u8
 go_enter Tryz.func216, Tryz.ntmps216
 go_wp2_with fail
 have hB0 : But (· = b) w (w.alloc (.cells #[] 5)) := But.alloc _ _ _
 have hR0 : XrB (w.alloc (.cells #[] 5)) b s i false v0 v1 v2 := hR.but (But.alloc (fun _ => False) _ _) (fun h => h)
 have hbw := hR.lt
 go_loopg [9] most (fun mm vs wr => ∃ (ao : Option Addr) (cap j : Nat) (bad' : Bool) (t : List UInt8), vs = .slice ao t.length cap ∧ t.length ≤ most ∧ But (· = b) w wr ∧ XrB wr b s j bad' v0 v1 v2 ∧ BtB wr w.heap.size (.slice ao t.length cap) t ∧
  Hid (TysC s n e most R mm t j bad'))
 case atStart => exact ⟨_, 0, i, false, [], rfl, by simp, hB0, hR0, BtB.empty w, Or.inl ⟨rfl, by simp, HRR.out⟩⟩
 case round =>
  obtain ⟨ao, cap, j, bad', t, rfl, htl, hBr, hRr, hBt, HC⟩ := hrel
  have hfin : ∀ (w1 : World), But (fun _ => False) wr w1 → (bad' = true ∨ ¬ t.length < most ∨ pk s j = e) → ∀ (w2 : World), But (· = b) w1 w2 → XrB w2 b s (tkP s e j bad').1 (tkP s e j bad').2 v0 v1 v2 →
    But (· = b) w w2 ∧ ∃ v l j bad', Ending.returned (Value.slice ao t.length cap) = .returned v ∧ XrB w2 b s j bad' v0 v1 v2 ∧ BtB w2 w.heap.size v l ∧ l.length ≤ most ∧ ((bad' = false ∧ R = .ok (l, j)) ∨ (bad' = true ∧ R = .error j)) := by
   intro w1 h1 h2 w2 h3 h4
   have hB12 : But (· = b) wr w2 := (h1.mono (fun _ _ h => h.elim)).trans h3
   exact ⟨hBr.trans hB12, _, t, _, _, rfl, h4, hBt.but hB12 (fun g hg h => by have := owns_ge hBt g hg; omega), htl, HC.out.fin h2⟩
  have HF := hid hfin
  clear hfin
  by_cases hlt : t.length < most
  ·have hlI : (t.length : Int) < (most : Int) := by omega
   by_cases hgo : bad' = false ∧ pk s j ≠ e
   ·obtain ⟨rfl, hne⟩ := hgo
    have hbv : (!false && !decide (pk s j = e)) = true := by simp [hne]
    obtain ⟨m', hm', hC'⟩ := HC.out.next hlt hne
    have HC' := hid hC'
    have hbef := xbefore_any b s j false v0 v1 v2 wr e hRr
    rw [hbv] at hbef
    have HBF := hid hbef
    clear hbv hC' hbef hne HC HF
    go_wp2_with fail
    refine HBF.out.mono ?_
    rintro en w1 ⟨rfl, m, rfl⟩
    go_wp2_with fail
    refine (xtype_any b s j false v0 v1 v2 _ n hn hs (hRr.drewN m)).mono ?_
    rintro en w1 ⟨rfl, hB1, hR1⟩
    revert HC' hR1
    generalize tyX s n j false = Y
    intro HC' hR1
    obtain ⟨c, j', bad2⟩ := Y
    have hBw1 : But (· = b) w w1 := (hBr.trans (But.drewN _ _ _)).trans hB1
    have hBt1 : BtB w1 w.heap.size (.slice ao t.length cap) t := (hBt.but (But.drewN (· = b) _ _) (fun g hg h => by have := owns_ge hBt g hg; omega)).but hB1 (fun g hg h => by have := owns_ge hBt g hg; omega)
    have hO1 : w1.ownsRow w.heap.size 5 1 (.slice ao t.length cap) t.length (btCells t) := hBt1
    have hsz := hBw1.size
    go_wp2_with (at_builtin; refine wpList_append_lies _ rfl _ _ _ rfl w.heap.size 5 i0 _ 1 1 (by kernel_rfl) hi0 hz0 hz1 hz2 rfl (by omega) _ t.length (btCells t) rfl (hO1.alloc _) ⟨w1.heap.size, 0, none⟩ 1 1 [.int .u8 c.toNat] rfl rfl (World.news_of_block (cs := #[.int .u8 c.toNat]) (t := 5) (fr := (0, 0)) (heap_alloc_new w1 _)) (by simp [Value.oneCell']) (by omega) (by unfold maxLen; omega) (by omega) (by simp; omega) (w1.heap.size + 1) (by simp) ?_)
    intro gg cap3 w2 hown2 hgrow hat hlt2
    have hSW : But (fun k' => (Value.slice ao t.length cap).ownBlock = some k') w1 w2 := (But.alloc _ _ _).trans (but_grown hgrow)
    have hBw2 : But (· = b) w w2 := hBw1.next hSW (fun k' hk' h => absurd (owns_ge hO1 k' h) (by omega))
    have hR2 := hR1.but hSW (fun h => by have := owns_ge hO1 _ h; omega)
    have hBt2 : BtB w2 w.heap.size (.slice (some ⟨gg, 0, none⟩) (t ++ [c]).length cap3) (t ++ [c]) := by
     unfold BtB
     rw [List.length_append, btCells, List.map_append]
     exact hown2
    go_wp2_with fail
    go_roundg m'
    case measure => omega
    case rel => exact ⟨_, cap3, j', bad2, t ++ [c], by simp, by simp; omega, hBw2, hR2, hBt2, HC'.out⟩
   ·have hbv : (!bad' && !decide (pk s j = e)) = false := by
     cases bad' with
     | true => rfl
     | false =>
      have : pk s j = e := by
       by_cases h : pk s j = e
       ·exact h
       ·exact absurd ⟨rfl, h⟩ hgo
      simp [this]
    have hx : bad' = true ∨ ¬ t.length < most ∨ pk s j = e := by
     cases bad' with
     | true => exact Or.inl rfl
     | false =>
      right; right
      by_cases h : pk s j = e
      ·exact h
      ·exact absurd ⟨rfl, h⟩ hgo
    have HX := hid hx
    have hbef := xbefore_any b s j bad' v0 v1 v2 wr e hRr
    rw [hbv] at hbef
    have HBF := hid hbef
    clear hbv hbef hx hgo HC
    go_wp2_with fail
    refine HBF.out.mono ?_
    rintro en w1 ⟨rfl, m, rfl⟩
    go_wp2_with fail
    refine (xtake_any b s j bad' v0 v1 v2 _ e he hs (hRr.drewN m)).mono ?_
    rintro en w2 ⟨rfl, hB2, hR2⟩
    go_wp2_with fail
    exact bodyPost_ret (v := .slice ao t.length cap) (by simp [results, Tryz.results216, go_sem]) rfl (HF.out _ (But.drewN _ _ _) HX.out w2 hB2 hR2)
  ·have hlI : ¬ (t.length : Int) < (most : Int) := by omega
   go_wp2_with fail
   refine (xtake_any b s j bad' v0 v1 v2 _ e he hs hRr).mono ?_
   rintro en w2 ⟨rfl, hB2, hR2⟩
   go_wp2_with fail
   exact bodyPost_ret (v := .slice ao t.length cap) (by simp [results, Tryz.results216, go_sem]) rfl (HF.out _ (But.refl _ _) (Or.inr (Or.inl hlt)) w2 hB2 hR2)
end
end Go.Proofs.YtpfkkmacakjmbaaGreatDoor
