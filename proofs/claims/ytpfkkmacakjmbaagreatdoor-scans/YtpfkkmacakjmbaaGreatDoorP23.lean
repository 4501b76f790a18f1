import Derived.Test.YtpfkkmacakjmbaaGreatDoorP21
import Derived.Test.YtpfkkmacakjmbaaGreatDoorP02
import Derived.Test.YtpfkkmacakjmbaaGreatDoorP09
set_option maxRecDepth 100000
set_option maxHeartbeats 6400000
namespace Go.Proofs.YtpfkkmacakjmbaaGreatDoor
open Go Go.RowKit Sp
set_option linter.unusedSimpArgs false
set_option linter.unusedVariables false
attribute [local go_sem ↓] Go.wp_at_zero Go.wp_at_succ
def toXN (x : Ins) : XIt := if isDigit x.op = true then ⟨x.pos, 107, 45, x.b, none, 0, 0⟩ else toXI x
def nodB (s : ByteArray) (cs : List Cls) (ns nl i : Nat) (bad : Bool) : Except Nat (Ins × Nat) := if bad = true then .error i else nodP s cs ns nl i
def NodR (s : ByteArray) (cs : List Cls) (ns nl i : Nat) (bad : Bool) (x : XIt) (j : Nat) (bad' : Bool) : Prop :=
 (bad' = false ∧ ∃ y, nodB s cs ns nl i bad = .ok (y, j) ∧ x = toXN y) ∨ (bad' = true ∧ nodB s cs ns nl i bad = .error j)
section
variable {s : ByteArray} {cs : List Cls} {ns nl i : Nat}
theorem nod_end {bad : Bool} {x : XIt} (h : bad = true ∨ s.size ≤ i) : NodR s cs ns nl i bad x i true := by
 right
 refine ⟨rfl, ?_⟩
 unfold nodB
 cases bad with
 | true => rfl
 | false =>
  rcases h with h | h
  ·cases h
  ·simp only [Bool.false_eq_true, if_false]
   unfold nodP
   rw [pk_end h]
   rfl
theorem nod_no {x : XIt} (h : nodeLetters.contains (pk s i).toNat = false) : NodR s cs ns nl i false x i true := by
 right
 refine ⟨rfl, ?_⟩
 simp only [nodB, Bool.false_eq_true, if_false, nodP, h]
theorem nod_alone {c : UInt8} (hc : pk s i = c) (hl : nodeLetters.contains c.toNat = true) (hd : isDigit c = false) (h : operP s cs ns nl c.toNat (i + 1) = .ok (0, 0, i + 1)) (hn : ¬ (c.toNat = 110 ∨ c.toNat = 120 ∨ c.toNat = 103 ∨ c.toNat = 112 ∨ c.toNat = 99)) : NodR s cs ns nl i false ⟨i, c, 45, 0, none, 0, 0⟩ (i + 1) false := by
 left
 refine ⟨rfl, ⟨c, 0, 0, i⟩, ?_, ?_⟩
 ·simp only [nodB, Bool.false_eq_true, if_false, nodP, hc, hl, if_true, h, hd]
 ·unfold toXN toXI
  simp only [hd, Bool.false_eq_true, if_false, if_neg hn]
theorem nod_digit {c : UInt8} (hc : pk s i = c) (hl : nodeLetters.contains c.toNat = true) (hd : isDigit c = true) (h : operP s cs ns nl c.toNat (i + 1) = .ok (0, 0, i + 1)) : NodR s cs ns nl i false ⟨i, 107, 45, c.toNat - 48, none, 0, 0⟩ (i + 1) false := by
 left
 refine ⟨rfl, ⟨c, 0, c.toNat - 48, i⟩, ?_, ?_⟩
 ·simp only [nodB, Bool.false_eq_true, if_false, nodP, hc, hl, if_true, h, hd]
 ·unfold toXN
  simp only [hd, if_true]
theorem nod_ins {c : UInt8} (hc : pk s i = c) (h : c.toNat = 108 ∨ c.toNat = 115 ∨ c.toNat = 110 ∨ c.toNat = 120 ∨ c.toNat = 103 ∨ c.toNat = 112 ∨ c.toNat = 99) {x : XIt} {j : Nat} {bad' : Bool} (hI : InsR s cs ns nl i false x j bad') : NodR s cs ns nl i false x j bad' := by
 have hl : letters.contains c.toNat = true := by rcases h with h | h | h | h | h | h | h <;> (rw [h]; decide)
 have hl2 : nodeLetters.contains c.toNat = true := by rcases h with h | h | h | h | h | h | h <;> (rw [h]; decide)
 have hd : isDigit c = false := by rcases h with h | h | h | h | h | h | h <;> simp [isDigit, h]
 unfold InsR insB insP at hI
 unfold NodR nodB nodP
 simp only [Bool.false_eq_true, if_false, hc, hl, hl2, if_true, hd] at hI ⊢
 rcases hI with ⟨h1, y, h2, h3⟩ | ⟨h1, h2⟩
 ·left
  refine ⟨h1, y, ?_, ?_⟩
  ·rw [← h2]
   cases operP s cs ns nl c.toNat (i + 1) <;> rfl
  ·rw [h3]
   have hy : y.op = c := by
    cases ho : operP s cs ns nl c.toNat (i + 1) with
    | error q => rw [ho] at h2; cases h2
    | ok q => rw [ho] at h2; cases h2; rfl
   unfold toXN
   rw [hy, hd]
   simp
 ·right
  refine ⟨h1, ?_⟩
  rw [← h2]
  cases operP s cs ns nl c.toNat (i + 1) <;> rfl
theorem nod_oper {c : UInt8} {x : XIt} {j : Nat} {bad' : Bool} (hnc : cs.length ≤ 4) (hpc : pk s i = c) (hn : ¬ (c.toNat = 114 ∨ c.toNat = 122 ∨ c.toNat = 43 ∨ c.toNat = 45 ∨ c.toNat = 42 ∨ c.toNat = 47 ∨ c.toNat = 60 ∨ c.toNat = 61 ∨ c.toNat = 101 ∨ c.toNat = 119 ∨ c.toNat = 44 ∨ c.toNat = 105 ∨ c.toNat = 111 ∨ c.toNat = 48 ∨ c.toNat = 49 ∨ c.toNat = 50 ∨ c.toNat = 51 ∨ c.toNat = 52 ∨ c.toNat = 53 ∨ c.toNat = 54 ∨ c.toNat = 55 ∨ c.toNat = 56 ∨ c.toNat = 57))
  (h : operX s cs ns nl i c (i + 1) false = (x, j, bad')) : NodR s cs ns nl i false x j bad' := by
 by_cases h1 : c.toNat = 108 ∨ c.toNat = 115 ∨ c.toNat = 110 ∨ c.toNat = 120 ∨ c.toNat = 103 ∨ c.toNat = 112 ∨ c.toNat = 99
 ·exact nod_ins hpc h1 (ins_oper hnc hpc (by omega) h)
 ·unfold operX at h
  rw [if_neg (by omega), if_neg (by omega), if_neg (by omega), if_neg (by omega)] at h
  obtain ⟨rfl, rfl, rfl⟩ := (by simpa using h : _ ∧ _ ∧ _)
  try simp only [Bool.false_eq_true, if_false]
  refine nod_no ?_
  rw [hpc]
  simp only [nodeLetters, List.contains_eq_mem, List.mem_cons, List.not_mem_nil, or_false, decide_eq_false_iff_not]
  omega
end
theorem countParts_any (c : UInt8) (w : World) :
  Calls Tryz.prog 200 #[.int .u8 c.toNat] w fun en w' => en = .returned (.int .i64 (arity c)) ∧ w' = w := by
 by_cases h : c.toNat = 103 ∨ c.toNat = 120 ∨ c.toNat = 115 ∨ c.toNat = 119 ∨ c.toNat = 43 ∨ c.toNat = 45 ∨ c.toNat = 42 ∨ c.toNat = 47 ∨ c.toNat = 60 ∨ c.toNat = 61 ∨ c.toNat = 101 ∨ c.toNat = 99 ∨ c.toNat = 112 ∨ c.toNat = 44 ∨ c.toNat = 111 ∨ c.toNat = 105
 ·rcases h with h | h | h | h | h | h | h | h | h | h | h | h | h | h | h | h
  all_goals
   have E : ∀ j : Int, ((c.toNat : Int) == j) = _ := fun j => congrArg (fun n : Nat => ((n : Int) == j)) h
   rw [show arity c = _ from by unfold arity; rw [h]]
   clear h
   go_enter Tryz.func200, Tryz.ntmps200
   go_wp2_with fail
   go_ret
   exact ⟨rfl, rfl⟩
 ·simp only [not_or] at h
  obtain ⟨h103, h120, h115, h119, h43, h45, h42, h47, h60, h61, h101, h99, h112, h44, h111, h105⟩ := h
  rw [show arity c = 0 from by simp [arity, h103, h120, h115, h119, h43, h45, h42, h47, h60, h61, h101, h99, h112, h44, h111, h105]]
  have E : ∀ j : Nat, c.toNat ≠ j → ((c.toNat : Int) == (j : Int)) = false := fun j h => by rw [beq_eq_false_iff_ne]; omega
  have e103 := E 103 h103
  have e120 := E 120 h120
  have e115 := E 115 h115
  have e119 := E 119 h119
  have e43 := E 43 h43
  have e45 := E 45 h45
  have e42 := E 42 h42
  have e47 := E 47 h47
  have e60 := E 60 h60
  have e61 := E 61 h61
  have e101 := E 101 h101
  have e99 := E 99 h99
  have e112 := E 112 h112
  have e44 := E 44 h44
  have e111 := E 111 h111
  have e105 := E 105 h105
  clear E h103 h120 h115 h119 h43 h45 h42 h47 h60 h61 h101 h99 h112 h44 h111 h105
  go_enter Tryz.func200, Tryz.ntmps200
  go_wp2_with fail
  go_ret
  exact ⟨rfl, rfl⟩
section
variable (b base : Nat) (s : ByteArray) (i : Nat) (SC : List Cls) (a0 a1 al : Option Addr) (ng nl cap0 cap1 capl : Nat) (v2 : RdV) (w : World)
theorem xnod_a (c : UInt8) (hc : c.toNat = 114 ∨ c.toNat = 122 ∨ c.toNat = 43 ∨ c.toNat = 45 ∨ c.toNat = 42 ∨ c.toNat = 47 ∨ c.toNat = 60 ∨ c.toNat = 61 ∨ c.toNat = 101 ∨ c.toNat = 119 ∨ c.toNat = 44 ∨ c.toNat = 105 ∨ c.toNat = 111) (hlt : i < s.size) (hpc : pk s i = c) (hnc : SC.length ≤ 4) (hng : ng ≤ 3) (hnl : nl ≤ 10) (hs : s.size ≤ 2000)
  (hR : XrB w b s i false (.slice a0 SC.length cap0) (.slice a1 ng cap1) v2) (hv : v2.hl = .slice al nl capl) :
  Calls Tryz.prog 199 #[.pointer (some ⟨b, 0, none⟩)] w fun en w' => But (· = b) w w' ∧ ∃ x j bad', en = .returned (itV x) ∧ XrB w' b s j bad' (.slice a0 SC.length cap0) (.slice a1 ng cap1) v2 ∧ NodR s SC ng nl i false x j bad' := by
 rcases hc with hc | hc | hc | hc | hc | hc | hc | hc | hc | hc | hc | hc | hc
 all_goals
  have HC := hid hc
  have E : ∀ j : Int, ((c.toNat : Int) == j) = _ := fun j => congrArg (fun n : Nat => ((n : Int) == j)) hc
  clear hc
  have hbw := hR.lt
  have p3 := hR.c3
  obtain ⟨hB0, hg0, hg1⟩ := two_boxes w b hbw #[.int .i64 0, .int .u8 0, .int .u8 0, .int .i64 0, .slice none 0 0] #[.int .i64 i, .int .u8 0, .int .u8 45, .int .i64 0, .slice none 0 0] 219
  have hR0 := hR.but ((But.alloc (fun _ => False) w (.cells #[.int .i64 0, .int .u8 0, .int .u8 0, .int .i64 0, .slice none 0 0] 219)).trans (But.alloc _ _ (.cells #[.int .i64 i, .int .u8 0, .int .u8 45, .int .i64 0, .slice none 0 0] 219))) (fun h => h)
  have HW0 := hid (InsW.mk hB0 hg0 hg1)
  have HB1 := hid (xtakeByte_any b s i false _ _ v2 _ hs hR0)
  rw [tbP_ok hlt, hpc] at HB1
  clear hB0 hR0 hg0 hg1
  go_enter Tryz.func199, Tryz.ntmps199
  go_wp2_with fail
  refine HB1.out.mono ?_
  rintro en w1 ⟨rfl, hB1, hR1⟩
  have hW1 := HW0.out.next (by omega) (by omega) hB1
  obtain ⟨q0, q1, q2, q3, q4⟩ := row5 hW1.item
  obtain ⟨f0, f1, f2, f3, f4⟩ := froz5 hW1.item
  obtain ⟨y0, y1, y2, y3, y4⟩ := row5 hW1.box
  obtain ⟨g0, g1, g2, g3, g4⟩ := froz5 hW1.box
  have hW2 := hW1.set1 (by omega) (by omega) (.int .u8 c.toNat)
  have hR2 := hR1.but (But.setB w1 (w.heap.size + 1) 1 (.int .u8 c.toNat)) (by omega)
  have HW2 := hid hW2
  clear hW1 hW2 HW0 HB1 p3
  have HWF := hid (HW2.out)
  have hRF := hR2
  go_wp2_with fail
  have h9b := put5_heap HWF.out.box (.int .i64 i) (.int .u8 c.toNat) (.int .u8 45) (.int .i64 0) (.slice none 0 0)
  have h9d := put5_but (w1.setCell ⟨w.heap.size + 1, 1, none⟩ (.int .u8 c.toNat)) w.heap.size (.int .i64 i) (.int .u8 c.toNat) (.int .u8 45) (.int .i64 0) (.slice none 0 0)
  unfold put5 at h9b h9d
  revert h9b h9d
  generalize (((((w1.setCell ⟨w.heap.size + 1, 1, none⟩ (.int .u8 c.toNat)).setCell ⟨w.heap.size, 0, none⟩ (.int .i64 i)).setCell ⟨w.heap.size, 1, none⟩ (.int .u8 c.toNat)).setCell ⟨w.heap.size, 2, none⟩ (.int .u8 45)).setCell ⟨w.heap.size, 3, none⟩ (.int .i64 0)).setCell ⟨w.heap.size, 4, none⟩ (.slice none 0 0) = w9
  intro h9b h9d
  obtain ⟨r0, r1, r2, r3, r4⟩ := row5 h9b
  exact bodyPost_ret (v := .agg #[(.int .i64 i), (.int .u8 c.toNat), (.int .u8 45), (.int .i64 0), (.slice none 0 0)]) (by simp [results, Tryz.results199, go_sem, r0, r1, r2, r3, r4]) rfl ⟨HWF.out.but.next h9d (fun k hk h => by omega), ⟨i, c, 45, 0, none, 0, 0⟩, i + 1, false, rfl, hRF.but h9d (by omega), nod_alone hpc (by rw [HC.out]; decide) (by simp [isDigit, HC.out]) (by rw [HC.out]; rfl) (by rw [HC.out]; decide)⟩
theorem xnod_d (c : UInt8) (d : Nat) (hc : d = 0 ∨ d = 1 ∨ d = 2 ∨ d = 3 ∨ d = 4 ∨ d = 5 ∨ d = 6 ∨ d = 7 ∨ d = 8 ∨ d = 9) (hcd : c.toNat = 48 + d) (hlt : i < s.size) (hpc : pk s i = c) (hnc : SC.length ≤ 4) (hng : ng ≤ 3) (hnl : nl ≤ 10) (hs : s.size ≤ 2000)
  (hR : XrB w b s i false (.slice a0 SC.length cap0) (.slice a1 ng cap1) v2) (hv : v2.hl = .slice al nl capl) :
  Calls Tryz.prog 199 #[.pointer (some ⟨b, 0, none⟩)] w fun en w' => But (· = b) w w' ∧ ∃ x j bad', en = .returned (itV x) ∧ XrB w' b s j bad' (.slice a0 SC.length cap0) (.slice a1 ng cap1) v2 ∧ NodR s SC ng nl i false x j bad' := by
 rcases hc with hc | hc | hc | hc | hc | hc | hc | hc | hc | hc
 all_goals
  have HC := hid (And.intro hcd hc)
  have E : ∀ j : Int, ((c.toNat : Int) == j) = _ := fun j => congrArg (fun n : Nat => ((n : Int) == j)) (hcd.trans (congrArg (48 + ·) hc))
  have hsub : (c.toNat : Int) - 48 = d := by omega
  have hd9 : (d : Int) ≤ 9 := by omega
  clear hc hcd
  have hbw := hR.lt
  have p3 := hR.c3
  obtain ⟨hB0, hg0, hg1⟩ := two_boxes w b hbw #[.int .i64 0, .int .u8 0, .int .u8 0, .int .i64 0, .slice none 0 0] #[.int .i64 i, .int .u8 0, .int .u8 45, .int .i64 0, .slice none 0 0] 219
  have hR0 := hR.but ((But.alloc (fun _ => False) w (.cells #[.int .i64 0, .int .u8 0, .int .u8 0, .int .i64 0, .slice none 0 0] 219)).trans (But.alloc _ _ (.cells #[.int .i64 i, .int .u8 0, .int .u8 45, .int .i64 0, .slice none 0 0] 219))) (fun h => h)
  have HW0 := hid (InsW.mk hB0 hg0 hg1)
  have HB1 := hid (xtakeByte_any b s i false _ _ v2 _ hs hR0)
  rw [tbP_ok hlt, hpc] at HB1
  clear hB0 hR0 hg0 hg1
  go_enter Tryz.func199, Tryz.ntmps199
  go_wp2_with fail
  refine HB1.out.mono ?_
  rintro en w1 ⟨rfl, hB1, hR1⟩
  have hW1 := HW0.out.next (by omega) (by omega) hB1
  obtain ⟨q0, q1, q2, q3, q4⟩ := row5 hW1.item
  obtain ⟨f0, f1, f2, f3, f4⟩ := froz5 hW1.item
  obtain ⟨y0, y1, y2, y3, y4⟩ := row5 hW1.box
  obtain ⟨g0, g1, g2, g3, g4⟩ := froz5 hW1.box
  have hW2 := hW1.set1 (by omega) (by omega) (.int .u8 c.toNat)
  have hR2 := hR1.but (But.setB w1 (w.heap.size + 1) 1 (.int .u8 c.toNat)) (by omega)
  have HW2 := hid hW2
  clear hW1 hW2 HW0 HB1 p3
  have hW4 := HW2.out.set3 (by omega) (by omega) (.int .i64 d)
  have hW5 := hW4.set1 (by omega) (by omega) (.int .u8 107)
  have hR5 := (hR2.but (But.setB _ (w.heap.size + 1) 3 (.int .i64 d)) (by omega)).but (But.setB _ (w.heap.size + 1) 1 (.int .u8 107)) (by omega)
  have HWF := hid hW5
  have hRF := hR5
  clear hW4 hW5
  go_wp2_with fail
  have h9b := put5_heap HWF.out.box (.int .i64 i) (.int .u8 107) (.int .u8 45) (.int .i64 d) (.slice none 0 0)
  have h9d := put5_but (((w1.setCell ⟨w.heap.size + 1, 1, none⟩ (.int .u8 c.toNat)).setCell ⟨w.heap.size + 1, 3, none⟩ (.int .i64 d)).setCell ⟨w.heap.size + 1, 1, none⟩ (.int .u8 107)) w.heap.size (.int .i64 i) (.int .u8 107) (.int .u8 45) (.int .i64 d) (.slice none 0 0)
  unfold put5 at h9b h9d
  revert h9b h9d
  generalize (((((((w1.setCell ⟨w.heap.size + 1, 1, none⟩ (.int .u8 c.toNat)).setCell ⟨w.heap.size + 1, 3, none⟩ (.int .i64 d)).setCell ⟨w.heap.size + 1, 1, none⟩ (.int .u8 107)).setCell ⟨w.heap.size, 0, none⟩ (.int .i64 i)).setCell ⟨w.heap.size, 1, none⟩ (.int .u8 107)).setCell ⟨w.heap.size, 2, none⟩ (.int .u8 45)).setCell ⟨w.heap.size, 3, none⟩ (.int .i64 d)).setCell ⟨w.heap.size, 4, none⟩ (.slice none 0 0) = w9
  intro h9b h9d
  obtain ⟨r0, r1, r2, r3, r4⟩ := row5 h9b
  exact bodyPost_ret (v := .agg #[(.int .i64 i), (.int .u8 107), (.int .u8 45), (.int .i64 d), (.slice none 0 0)]) (by simp [results, Tryz.results199, go_sem, r0, r1, r2, r3, r4]) rfl ⟨HWF.out.but.next h9d (fun k hk h => by omega), ⟨i, 107, 45, d, none, 0, 0⟩, i + 1, false, rfl, hRF.but h9d (by omega), (by have := nod_digit (cs := SC) (ns := ng) (nl := nl) hpc (by rw [HC.out.1, HC.out.2]; decide) (by simp [isDigit, HC.out.1, HC.out.2]) (by rw [HC.out.1, HC.out.2]; rfl); rw [HC.out.1, Nat.add_sub_cancel_left] at this; exact this)⟩
theorem xnod_other (bad : Bool) (c : UInt8) (j1 : Nat) (bad1 : Bool) (hT : tbP s i bad = (c, j1, bad1)) (hn : ¬ (c.toNat = 114 ∨ c.toNat = 122 ∨ c.toNat = 43 ∨ c.toNat = 45 ∨ c.toNat = 42 ∨ c.toNat = 47 ∨ c.toNat = 60 ∨ c.toNat = 61 ∨ c.toNat = 101 ∨ c.toNat = 119 ∨ c.toNat = 44 ∨ c.toNat = 105 ∨ c.toNat = 111 ∨ c.toNat = 48 ∨ c.toNat = 49 ∨ c.toNat = 50 ∨ c.toNat = 51 ∨ c.toNat = 52 ∨ c.toNat = 53 ∨ c.toNat = 54 ∨ c.toNat = 55 ∨ c.toNat = 56 ∨ c.toNat = 57)) (hI : ∀ x j bad', operX s SC ng nl i c j1 bad1 = (x, j, bad') → NodR s SC ng nl i bad x j bad') (hnc : SC.length ≤ 4) (hng : ng ≤ 3) (hnl : nl ≤ 10) (hs : s.size ≤ 2000)
  (hR : XrB w b s i bad (.slice a0 SC.length cap0) (.slice a1 ng cap1) v2) (hv : v2.hl = .slice al nl capl) (hG : c.toNat = 103 ∨ c.toNat = 112 → WfC SC ∧ TcV w base (.slice a0 SC.length cap0) (SC.map toX)) (hb : b < base) :
  Calls Tryz.prog 199 #[.pointer (some ⟨b, 0, none⟩)] w fun en w' => But (· = b) w w' ∧ ∃ x j bad', en = .returned (itV x) ∧ XrB w' b s j bad' (.slice a0 SC.length cap0) (.slice a1 ng cap1) v2 ∧ NodR s SC ng nl i bad x j bad' := by
 have hbw := hR.lt
 have p3 := hR.c3
 obtain ⟨hB0, hg0, hg1⟩ := two_boxes w b hbw #[.int .i64 0, .int .u8 0, .int .u8 0, .int .i64 0, .slice none 0 0] #[.int .i64 i, .int .u8 0, .int .u8 45, .int .i64 0, .slice none 0 0] 219
 have hR0 := hR.but ((But.alloc (fun _ => False) w (.cells #[.int .i64 0, .int .u8 0, .int .u8 0, .int .i64 0, .slice none 0 0] 219)).trans (But.alloc _ _ (.cells #[.int .i64 i, .int .u8 0, .int .u8 45, .int .i64 0, .slice none 0 0] 219))) (fun h => h)
 have HW0 := hid (InsW.mk hB0 hg0 hg1)
 have HB1 := hid (xtakeByte_any b s i bad _ _ v2 _ hs hR0)
 rw [hT] at HB1
 have e114 : ((c.toNat : Int) == 114) = false := by rw [beq_eq_false_iff_ne]; omega
 have e122 : ((c.toNat : Int) == 122) = false := by rw [beq_eq_false_iff_ne]; omega
 have e43 : ((c.toNat : Int) == 43) = false := by rw [beq_eq_false_iff_ne]; omega
 have e45 : ((c.toNat : Int) == 45) = false := by rw [beq_eq_false_iff_ne]; omega
 have e42 : ((c.toNat : Int) == 42) = false := by rw [beq_eq_false_iff_ne]; omega
 have e47 : ((c.toNat : Int) == 47) = false := by rw [beq_eq_false_iff_ne]; omega
 have e60 : ((c.toNat : Int) == 60) = false := by rw [beq_eq_false_iff_ne]; omega
 have e61 : ((c.toNat : Int) == 61) = false := by rw [beq_eq_false_iff_ne]; omega
 have e101 : ((c.toNat : Int) == 101) = false := by rw [beq_eq_false_iff_ne]; omega
 have e119 : ((c.toNat : Int) == 119) = false := by rw [beq_eq_false_iff_ne]; omega
 have e44 : ((c.toNat : Int) == 44) = false := by rw [beq_eq_false_iff_ne]; omega
 have e105 : ((c.toNat : Int) == 105) = false := by rw [beq_eq_false_iff_ne]; omega
 have e111 : ((c.toNat : Int) == 111) = false := by rw [beq_eq_false_iff_ne]; omega
 have e48 : ((c.toNat : Int) == 48) = false := by rw [beq_eq_false_iff_ne]; omega
 have e49 : ((c.toNat : Int) == 49) = false := by rw [beq_eq_false_iff_ne]; omega
 have e50 : ((c.toNat : Int) == 50) = false := by rw [beq_eq_false_iff_ne]; omega
 have e51 : ((c.toNat : Int) == 51) = false := by rw [beq_eq_false_iff_ne]; omega
 have e52 : ((c.toNat : Int) == 52) = false := by rw [beq_eq_false_iff_ne]; omega
 have e53 : ((c.toNat : Int) == 53) = false := by rw [beq_eq_false_iff_ne]; omega
 have e54 : ((c.toNat : Int) == 54) = false := by rw [beq_eq_false_iff_ne]; omega
 have e55 : ((c.toNat : Int) == 55) = false := by rw [beq_eq_false_iff_ne]; omega
 have e56 : ((c.toNat : Int) == 56) = false := by rw [beq_eq_false_iff_ne]; omega
 have e57 : ((c.toNat : Int) == 57) = false := by rw [beq_eq_false_iff_ne]; omega
 clear hn
 clear hB0 hR0 hg0 hg1
 go_enter Tryz.func199, Tryz.ntmps199
 go_wp2_with fail
 refine HB1.out.mono ?_
 rintro en w1 ⟨rfl, hB1, hR1⟩
 have hW1 := HW0.out.next (by omega) (by omega) hB1
 obtain ⟨q0, q1, q2, q3, q4⟩ := row5 hW1.item
 obtain ⟨f0, f1, f2, f3, f4⟩ := froz5 hW1.item
 obtain ⟨y0, y1, y2, y3, y4⟩ := row5 hW1.box
 obtain ⟨g0, g1, g2, g3, g4⟩ := froz5 hW1.box
 have hW2 := hW1.set1 (by omega) (by omega) (.int .u8 c.toNat)
 have hR2 := hR1.but (But.setB w1 (w.heap.size + 1) 1 (.int .u8 c.toNat)) (by omega)
 have HW2 := hid hW2
 clear hW1 hW2 HW0 HB1 p3
 have HGG := hid (fun h => hG h)
 have HII := hid hI
 clear hG hI
 have hop := xoper_any b base s j1 SC a0 a1 al ng nl cap0 cap1 capl v2 (w1.setCell ⟨w.heap.size + 1, 1, none⟩ (.int .u8 c.toNat)) i bad1 c hnc hng hnl hs hR2 hv (fun h => ⟨(HGG.out h).1, (HGG.out h).2.but HW2.out.but (fun g e cur _ _ hg he => by omega)⟩) hb
 unfold itV at hop
 have HOP := hid hop
 clear hop
 go_wp2_with fail
 refine HOP.out.mono ?_
 rintro en w3 ⟨hB3, x, j3, b3, rfl, hR3, hO3⟩
 clear q0 q1 q2 q3 q4 f0 f1 f2 f3 f4 y0 y1 y2 y3 y4 g0 g1 g2 g3 g4
 have hW3 := HW2.out.next (by omega) (by omega) hB3
 obtain ⟨q0, q1, q2, q3, q4⟩ := row5 hW3.item
 obtain ⟨f0, f1, f2, f3, f4⟩ := froz5 hW3.item
 obtain ⟨y0, y1, y2, y3, y4⟩ := row5 hW3.box
 obtain ⟨g0, g1, g2, g3, g4⟩ := froz5 hW3.box
 have HWF := hid (hW3)
 have hRF := hR3
 go_wp2_with fail
 have h9b := put5_heap HWF.out.box (.int .i64 x.place) (.int .u8 x.op.toNat) (.int .u8 x.cls.toNat) (.int .i64 x.num) (.slice x.pa x.pn x.pc)
 have h9d := put5_but w3 w.heap.size (.int .i64 x.place) (.int .u8 x.op.toNat) (.int .u8 x.cls.toNat) (.int .i64 x.num) (.slice x.pa x.pn x.pc)
 unfold put5 at h9b h9d
 revert h9b h9d
 generalize ((((w3.setCell ⟨w.heap.size, 0, none⟩ (.int .i64 x.place)).setCell ⟨w.heap.size, 1, none⟩ (.int .u8 x.op.toNat)).setCell ⟨w.heap.size, 2, none⟩ (.int .u8 x.cls.toNat)).setCell ⟨w.heap.size, 3, none⟩ (.int .i64 x.num)).setCell ⟨w.heap.size, 4, none⟩ (.slice x.pa x.pn x.pc) = w9
 intro h9b h9d
 obtain ⟨r0, r1, r2, r3, r4⟩ := row5 h9b
 exact bodyPost_ret (v := .agg #[(.int .i64 x.place), (.int .u8 x.op.toNat), (.int .u8 x.cls.toNat), (.int .i64 x.num), (.slice x.pa x.pn x.pc)]) (by simp [results, Tryz.results199, go_sem, r0, r1, r2, r3, r4]) rfl ⟨HWF.out.but.next h9d (fun k hk h => by omega), x, j3, b3, rfl, hRF.but h9d (by omega), HII.out _ _ _ hO3⟩
theorem xnode_all (bad : Bool) (hG : bad = true ∨ (WfC SC ∧ TcV w base (.slice a0 SC.length cap0) (SC.map toX))) (hnc : SC.length ≤ 4) (hng : ng ≤ 3) (hnl : nl ≤ 10) (hs : s.size ≤ 2000)
  (hR : XrB w b s i bad (.slice a0 SC.length cap0) (.slice a1 ng cap1) v2) (hv : v2.hl = .slice al nl capl) (hb : b < base) :
  Calls Tryz.prog 199 #[.pointer (some ⟨b, 0, none⟩)] w fun en w' => But (· = b) w w' ∧ ∃ x j bad', en = .returned (itV x) ∧ XrB w' b s j bad' (.slice a0 SC.length cap0) (.slice a1 ng cap1) v2 ∧ NodR s SC ng nl i bad x j bad' := by
 by_cases hz : bad = true ∨ s.size ≤ i
 ·refine xnod_other b base s i SC a0 a1 al ng nl cap0 cap1 capl v2 w bad 0 i true (tbP_zero hz) (by decide) (fun x j bad' h => ?_) hnc hng hnl hs hR hv (fun h => by simp at h) hb
  rw [oper_end] at h
  obtain ⟨rfl, rfl, rfl⟩ := (by simpa using h : _ ∧ _ ∧ _)
  exact nod_end hz
 have hz' := not_or.1 hz
 have hbf : bad = false := by simpa using hz'.1
 subst hbf
 have hlt : i < s.size := by omega
 have hG' : WfC SC ∧ TcV w base (.slice a0 SC.length cap0) (SC.map toX) := by rcases hG with h | h; cases h; exact h
 by_cases ha : (pk s i).toNat = 114 ∨ (pk s i).toNat = 122 ∨ (pk s i).toNat = 43 ∨ (pk s i).toNat = 45 ∨ (pk s i).toNat = 42 ∨ (pk s i).toNat = 47 ∨ (pk s i).toNat = 60 ∨ (pk s i).toNat = 61 ∨ (pk s i).toNat = 101 ∨ (pk s i).toNat = 119 ∨ (pk s i).toNat = 44 ∨ (pk s i).toNat = 105 ∨ (pk s i).toNat = 111
 ·exact xnod_a b s i SC a0 a1 al ng nl cap0 cap1 capl v2 w _ ha hlt rfl hnc hng hnl hs hR hv
 by_cases hd : 48 ≤ (pk s i).toNat ∧ (pk s i).toNat ≤ 57
 ·exact xnod_d b s i SC a0 a1 al ng nl cap0 cap1 capl v2 w _ ((pk s i).toNat - 48) (by omega) (by omega) hlt rfl hnc hng hnl hs hR hv
 exact xnod_other b base s i SC a0 a1 al ng nl cap0 cap1 capl v2 w false (pk s i) (i + 1) false (tbP_ok hlt) (by omega) (fun x j bad' h => nod_oper hnc rfl (by omega) h) hnc hng hnl hs hR hv (fun _ => hG') hb
end
def intC (l : List Nat) : List Value := l.map fun (k : Nat) => Value.int .i64 (k : Int)
def opsI (its : List XIt) : List Ins := its.map fun x => ⟨x.op, 0, 0, 0⟩
def ptsL (t : List Ins) : Nat → Nat → List Nat
 | 0, _ => []
 | n + 1, k => if k < t.length then k :: ptsL t n (endN t k) else []
def ptsN (t : List Ins) (k : Nat) : List Nat := match t[k]? with
 | some x => ptsL t (arity x.op) (k + 1)
 | none => []
theorem endN_cons {t : List Ins} {k : Nat} {x : Ins} (h : t[k]? = some x) : endN t k = k + 1 + sk (arity x.op) (t.drop (k + 1)) := by
 obtain ⟨hl, hg⟩ := List.getElem?_eq_some_iff.1 h
 unfold endN
 rw [List.drop_eq_getElem_cons hl, hg]
 simp [sk]
 omega
theorem sk_step {t : List Ins} {m p : Nat} : p + sk (m + 1) (t.drop p) = endN t p + sk m (t.drop (endN t p)) := by
 rw [Nat.add_comm m 1, sk_add, List.drop_drop]
 unfold endN
 omega
theorem sk_nil {m : Nat} : sk m [] = 0 := by cases m <;> rfl
theorem endN_le {t : List Ins} {k : Nat} (h : k ≤ t.length) : endN t k ≤ t.length := by
 unfold endN
 have := sk_le (t := t.drop k) (m := 1)
 rw [List.length_drop] at this
 omega
theorem endN_gt {t : List Ins} {k : Nat} (h : k < t.length) : k < endN t k := by
 rw [endN_cons (List.getElem?_eq_getElem h)]
 omega
theorem info_int : (Tryz.prog.info? 3).map (fun i => (i.zero, i.size, i.bytes)) = some (some (.int .i64 0), 1, 8) := by kernel_rfl
theorem made_int (n : Nat) : madeCells #[.int .i64 0] n = (intC (List.replicate n 0)).toArray := by
 apply Array.ext
 ·rw [size_madeCells]; simp [intC]
 ·intro k h1 h2
  have e : k % 1 = 0 := by omega
  simp [madeCells, e, intC]
theorem make_int (n : Nat) (hn : n ≤ 1000) (w : World) : (Instr.makeSlice 217 (.int .i64 (n : Int)) (.int .i64 (n : Int))).run Tryz.prog w = .ok (.slice (some ⟨w.heap.size, 0, none⟩) n n) (w.alloc (.cells (intC (List.replicate n 0)).toArray 3)) := by
 have hinf := info_int
 cases hi : Tryz.prog.info? 3 with
 | none => rw [hi] at hinf; cases hinf
 | some i =>
  rw [hi] at hinf
  simp only [Option.map_some, Option.some.injEq, Prod.mk.injEq] at hinf
  obtain ⟨hz, hs, hb⟩ := hinf
  have := run_make (P := Tryz.prog) w 217 3 i _ (by kernel_rfl) hi hz .i64 .i64 n n (by omega) (by omega) (by rw [hb]; omega) (by omega)
  rw [this, hs]
  simp only [Int.toNat_natCast, Value.cells, Nat.mul_one]
  rw [made_int]
structure WpI (w : World) (base : Nat) (its its' : List XIt) (bh : List Nat) (q : Nat) : Prop where
 len : its'.length = its.length
 blen : bh.length = its.length
 lo : ∀ k, k < q → its'[k]? = its[k]?
 hi : ∀ k, q ≤ k → k < its.length → bh[k]? = some (endN (opsI its) k)
 pt : ∀ k x x', q ≤ k → its[k]? = some x → its'[k]? = some x' → x'.place = x.place ∧ x'.op = x.op ∧ x'.cls = x.cls ∧ x'.num = x.num ∧ w.ownsRow base 3 1 (.slice x'.pa x'.pn x'.pc) (ptsN (opsI its) k).length (intC (ptsN (opsI its) k))
theorem itCells_set4 : ∀ {l : List XIt} {p : Nat} {x : XIt} (h : l[p]? = some x) (a : Option Addr) (n c : Nat), (itCells l).set (p * 5 + 4) (.slice a n c) = itCells (l.set p { x with pa := a, pn := n, pc := c }) := by
 intro l
 induction l with
 | nil => intro p x h; simp at h
 | cons y l ih =>
  intro p x h a n c
  cases p with
  | zero =>
   simp at h
   subst h
   simp [itCells]
  | succ p =>
   have h1 := ih (p := p) (x := x) (by simpa using h) a n c
   rw [show (p + 1) * 5 + 4 = (p * 5 + 4) + 5 from by omega]
   simp only [itCells, List.flatMap_cons, List.cons_append, List.nil_append, List.set_cons_succ] at h1 ⊢
   rw [h1]
theorem intC_at {l : List Nat} {k v : Nat} (h : l[k]? = some v) : (intC l)[k]? = some (.int .i64 v) := by simp [intC, h]
theorem intC_snoc (l : List Nat) (k : Nat) : intC (l ++ [k]) = intC l ++ [.int .i64 k] := by simp [intC]
theorem intC_set (l : List Nat) (p k : Nat) : (intC l).set p (.int .i64 k) = intC (l.set p k) := by simp [intC, List.map_set]
theorem opsI_len (its : List XIt) : (opsI its).length = its.length := by simp [opsI]
theorem opsI_at {its : List XIt} {k : Nat} {x : XIt} (h : its[k]? = some x) : (opsI its)[k]? = some ⟨x.op, 0, 0, 0⟩ := by simp [opsI, h]
structure PtI (t : List Ins) (p ar : Nat) (l : List Nat) (k : Nat) : Prop where
 pts : l ++ ptsL t (ar - l.length) k = ptsN t p
 fin : k + sk (ar - l.length) (t.drop k) = endN t p
 gt : p < k
 le : k ≤ t.length
theorem PtI.next {t : List Ins} {p ar : Nat} {l : List Nat} {k : Nat} (h : PtI t p ar l k) (hl : l.length < ar) (hk : k < t.length) : PtI t p ar (l ++ [k]) (endN t k) := by
 obtain ⟨d, hd⟩ : ∃ d, ar - l.length = d + 1 := ⟨ar - l.length - 1, by omega⟩
 have hd' : ar - (l ++ [k]).length = d := by simp; omega
 refine ⟨?_, ?_, ?_, endN_le (by omega)⟩
 ·rw [hd', ← h.pts, hd]
  simp [ptsL, hk]
 ·rw [hd', ← h.fin, hd, sk_step]
 ·have := h.gt
  have := endN_gt hk
  omega
theorem PtI.done {t : List Ins} {p ar : Nat} {l : List Nat} {k : Nat} (h : PtI t p ar l k) (hl : ¬ l.length < ar ∨ ¬ k < t.length) : l = ptsN t p ∧ k = endN t p := by
 rcases hl with hl | hl
 ·have h0 : ar - l.length = 0 := by omega
  have h1 := h.pts
  have h2 := h.fin
  rw [h0] at h1 h2
  simp [ptsL, sk_zero] at h1 h2
  exact ⟨h1, h2⟩
 ·have h1 := h.pts
  have h2 := h.fin
  rw [List.drop_eq_nil_of_le (by omega), sk_nil] at h2
  cases hd : ar - l.length with
  | zero => rw [hd] at h1; simp [ptsL] at h1; exact ⟨h1, by omega⟩
  | succ d => rw [hd] at h1; simp [ptsL, hl] at h1; exact ⟨h1, by omega⟩
theorem withParts_any (bx : Nat) (its : List XIt) (ai : Option Addr) (capi : Nat) (w : World) (hn : its.length ≤ 24) (hi : ItB w bx (.slice ai its.length capi) its) :
  Calls Tryz.prog 202 #[.slice ai its.length capi] w fun en w' => But (fun _ => False) w w' ∧ ∃ ao cap its' bh, en = .returned (.slice ao its'.length cap) ∧ ItB w' w.heap.size (.slice ao its'.length cap) its' ∧ WpI w' w.heap.size its its' bh 0 := by
 have hE := ItB.empty w
 have hmk := make_int its.length (by omega)
 go_enter Tryz.func202, Tryz.ntmps202
 go_wp2_with (at_builtin; refine wpList_copy_its rfl _ _ rfl w.heap.size bx _ _ its rfl rfl hE (owns_but hi (But.alloc (fun _ => False) _ _) (fun _ _ h => h)) (by omega) (by simp) ?_)
 intro ao cap w2 hI2 hB2
 have hB12 : But (fun _ => False) w w2 := (But.alloc (fun _ => False) _ _).next hB2 (fun k hk h => by simp [Value.ownBlock] at h; omega)
 clear hE hB2
 go_wp2_with fail
 have hW3 : (w2.alloc (.cells (intC (List.replicate its.length 0)).toArray 3)).ownsRow w2.heap.size 3 1 (.slice (some ⟨w2.heap.size, 0, none⟩) its.length its.length) its.length (intC (List.replicate its.length 0)) :=
  ⟨by simp [intC], Or.inr ⟨w2.heap.size, its.length, _, rfl, Nat.le_refl _, heap_alloc_new _ _, by simp [intC], by unfold maxLen; omega, by simp [intC], by simp [intC]⟩⟩
 have hB3 : But (fun _ => False) w (w2.alloc (.cells (intC (List.replicate its.length 0)).toArray 3)) := hB12.trans (But.alloc _ _ _)
 have hI3 : ItB (w2.alloc (.cells (intC (List.replicate its.length 0)).toArray 3)) w.heap.size (.slice ao its.length cap) its := owns_but hI2 (But.alloc (fun _ => False) _ _) (fun _ _ h => h)
 have hz3 : (w2.alloc (.cells (intC (List.replicate its.length 0)).toArray 3)).heap.size = w2.heap.size + 1 := by simp
 generalize (w2.alloc (.cells (intC (List.replicate its.length 0)).toArray 3)) = w3 at *
 have hz12 := hB12.size
 go_loopg [5] its.length (fun mm js wr => ∃ (v : Int) (q : Nat) (its' : List XIt) (bh : List Nat), js = .int .i64 v ∧ v = (q : Int) - 1 ∧ q ≤ its.length ∧ q ≤ mm ∧ mm ≤ q ∧ wr.ownsRow w.heap.size 219 5 (.slice ao its.length cap) its.length (itCells its') ∧ wr.ownsRow w2.heap.size 3 1 (.slice (some ⟨w2.heap.size, 0, none⟩) its.length its.length) its.length (intC bh) ∧ But (fun _ => False) w wr ∧ w2.heap.size < wr.heap.size ∧ Hid (WpI wr (w2.heap.size + 1) its its' bh q))
 case atStart => exact ⟨_, its.length, its, _, rfl, rfl, by omega, by omega, by omega, hI3, hW3, hB3, by omega, ⟨rfl, by simp, fun _ _ => rfl, fun k h1 h2 => absurd h1 (by omega), fun k x x' h1 h2 h3 => absurd (List.getElem?_eq_some_iff.1 h2).1 (by omega)⟩⟩
 case round =>
  obtain ⟨v, q, its', bh, rfl, hv, hq1, hq2, hq3, hIr, hWr, hBr, hzr, HI⟩ := hrel
  cases q with
  | zero =>
   have hneg : ¬ (0 : Int) ≤ v := by omega
   have HIL := hid HI.out.len
   go_wp2_with fail
   have hfin : WpI wr w.heap.size its its' bh 0 := by
    have h := HI.out
    exact ⟨h.len, h.blen, h.lo, h.hi, fun k x x' h1 h2 h3 => by
     obtain ⟨e1, e2, e3, e4, e5⟩ := h.pt k x x' h1 h2 h3
     exact ⟨e1, e2, e3, e4, World.ownsRow.mono e5 (by omega)⟩⟩
   have hfi : ItB wr w.heap.size (.slice ao its'.length cap) its' := by
    unfold ItB
    rw [HIL.out]
    exact hIr
   exact bodyPost_ret (v := .slice ao its.length cap) (by simp [results, Tryz.results202, go_sem]) rfl ⟨hBr, ao, cap, its', by rw [HIL.out], hfi, bh, hfin⟩
  | succ p =>
   obtain ⟨wo, hwo⟩ : ∃ wo, wo = wr := ⟨_, rfl⟩
   subst hwo
   have hvp : v = (p : Int) := by omega
   subst hvp
   clear hv
   obtain ⟨X, hX⟩ : ∃ X, its[p]? = some X := ⟨_, List.getElem?_eq_getElem (by omega)⟩
   have hX' : its'[p]? = some X := by rw [HI.out.lo p (by omega)]; exact hX
   have HX := hid hX
   have HX' := hid hX'
   obtain ⟨gw, rfl, hgw1, hgw2, hcw⟩ := owns_two hIr (by omega)
   have q1 : wo.cell? ⟨gw, p * 5 + 1, none⟩ = some (.int .u8 X.op.toNat) := hcw _ _ (itCells_at (k := 1) hX' (by omega))
   obtain ⟨ar, har⟩ : ∃ ar, arity X.op = ar := ⟨_, rfl⟩
   have har3 : ar ≤ 3 := by rw [← har]; unfold arity; split; omega; split; omega; split <;> omega
   have hPI : PtI (opsI its) p ar [] (p + 1) := by
    have h1 := opsI_at hX
    refine ⟨?_, ?_, by omega, by rw [opsI_len]; omega⟩
    ·simp only [ptsN, h1, List.nil_append, List.length_nil, Nat.sub_zero, har]
    ·rw [endN_cons h1]
     simp only [List.length_nil, Nat.sub_zero, har]
   have HPI := hid hPI
   have hCP := fun W => countParts_any X.op W
   rw [har] at hCP
   have HCP := hid hCP
   have hE0 : (wo.alloc (.cells #[] 3)).ownsRow wo.heap.size 3 1 (.slice (some ⟨wo.heap.size, 0, none⟩) 0 0) ([] : List Nat).length (intC []) := ⟨rfl, Or.inr ⟨wo.heap.size, 0, #[], rfl, Nat.le_refl _, heap_alloc_new wo _, by simp, by unfold maxLen; omega, rfl, rfl⟩⟩
   have hpn : (p : Int) < (its.length : Int) := by omega
   have hp0 : (0 : Int) ≤ (p : Int) := by omega
   clear hX hX' hPI hCP har hcw
   go_wp2_with fail
   go_loopg [6, 7] ar (fun mm ps pv wq => ∃ (al : Option Addr) (cl : Nat) (l : List Nat) (k : Nat), ps = .slice al l.length cl ∧ pv = .int .i64 k ∧ k ≤ its.length ∧ l.length ≤ ar ∧ l.length + mm ≤ ar ∧ ar ≤ l.length + mm ∧ wq.ownsRow wo.heap.size 3 1 (.slice al l.length cl) l.length (intC l) ∧ But (fun _ => False) wo wq ∧ wo.heap.size ≤ wq.heap.size ∧ Hid (PtI (opsI its) p ar l k))
   case atStart => exact ⟨_, 0, [], p + 1, rfl, by simp, by omega, by simp, by simp, by simp, hE0, But.alloc _ _ _, by simp, HPI⟩
   case round =>
    obtain ⟨al, cl, l, k, rfl, rfl, hk, hl1, hl2, hl3, hOq, hBq, hzq, HP⟩ := hrel
    have q1q := (hBq.cell (p := ⟨gw, p * 5 + 1, none⟩) hgw1 (fun h => h)).trans q1
    rcases (by omega : (l.length < ar ∧ k < its.length) ∨ (¬ l.length < ar) ∨ (l.length < ar ∧ ¬ k < its.length)) with ⟨hl, hkn⟩ | hl | ⟨hl, hkn⟩
    ·have hlI : (l.length : Int) < (ar : Int) := by omega
     have hknI : (k : Int) < (its.length : Int) := by omega
     have hpk := HP.out.gt
     have hbk := HI.out.hi k (by omega) hkn
     have hWq := owns_but hWr hBq (fun _ _ h => h)
     obtain ⟨gb', hgb', hb1, hb2, hcb⟩ := owns_two hWq (by omega)
     have hgbe : w2.heap.size = gb' := by injection hgb' with h; injection h with h
     subst hgbe
     have HNX := hid (HP.out.next hl (by rw [opsI_len]; exact hkn))
     have hen : endN (opsI its) k ≤ its.length := by have := endN_le (t := opsI its) (k := k) (by rw [opsI_len]; omega); rw [opsI_len] at this; exact this
     obtain ⟨e, he⟩ : ∃ e, endN (opsI its) k = e := ⟨_, rfl⟩
     rw [he] at hbk HNX hen
     have c1 := hcb _ _ (intC_at hbk)
     clear hcb he hbk hgb'
     go_wp2_with fail
     refine (HCP.out wr).mono ?_
     rintro en wx ⟨rfl, hwx⟩
     rw [hwx]
     clear hwx wx
     obtain ⟨i0, hi0, hz0, hz1, hz2⟩ := info_parts info_int
     go_wp2_with (at_builtin; refine wpList_append_lies _ rfl _ _ _ rfl wo.heap.size 3 i0 _ 1 8 (by kernel_rfl) hi0 hz0 hz1 hz2 rfl (by omega) _ l.length (intC l) rfl (hOq.alloc _) ⟨wr.heap.size, 0, none⟩ 1 1 [.int .i64 k] rfl rfl (World.news_of_block (cs := #[.int .i64 k]) (t := 3) (fr := (0, 0)) (heap_alloc_new wr _)) (by simp [Value.oneCell']) (by omega) (by unfold maxLen; omega) (by omega) (by simp; omega) (wr.heap.size + 1) (by simp) ?_)
     intro gg cap3 w5 hown2 hgrow hat hlt2
     have hSW : But (fun k' => (Value.slice al l.length cl).ownBlock = some k') wr w5 := (But.alloc _ _ _).trans (but_grown hgrow)
     have hBw5 : But (fun _ => False) wo w5 := hBq.next hSW (fun k' hk' h => absurd (owns_ge hOq k' h) (by omega))
     have c5 := (hBw5.cell (p := ⟨w2.heap.size, k, none⟩) (by omega) (fun h => h)).trans ((hBq.cell (p := ⟨w2.heap.size, k, none⟩) (by omega) (fun h => h)).symm.trans c1)
     have hz5 := hBw5.size
     clear c1
     go_wp2_with fail
     go_roundg (ar - (l.length + 1))
     case measure => omega
     case rel => exact ⟨some ⟨gg, 0, none⟩, cap3, l ++ [k], e, by simp, rfl, hen, by simp; omega, by simp; omega, by simp; omega, by rw [List.length_append, intC_snoc]; exact hown2, hBw5, hz5, HNX⟩
    ·have hlI : ¬ (l.length : Int) < (ar : Int) := by omega
     have hD := HP.out.done (Or.inl hl)
     have HD := hid hD
     have hIq : wr.ownsRow w.heap.size 219 5 (.slice (some ⟨gw, 0, none⟩) its.length cap) its.length (itCells its') := owns_but hIr hBq (fun _ _ h => h)
     have hWq := owns_but hWr hBq (fun _ _ h => h)
     have hgwl : gw < w2.heap.size := owns_lt hI2 gw rfl
     obtain ⟨gq, hgq, hq1, hq2, hcq⟩ := owns_two hIq (by omega)
     have hgqe : gw = gq := by injection hgq with h; injection h with h
     subst hgqe
     obtain ⟨gb', hgb', hb1, hb2, hcb⟩ := owns_two hWq (by omega)
     have hgbe : w2.heap.size = gb' := by injection hgb' with h; injection h with h
     subst hgbe
     have c4 : wr.cell? ⟨gw, p * 5 + 4, none⟩ = some (.slice X.pa X.pn X.pc) := hcq _ _ (itCells_at (k := 4) HX'.out (by omega))
     have f4 := owns_fz hIq (p * 5 + 4)
     obtain ⟨ob, hob⟩ : ∃ ob, bh[p]? = some ob := ⟨_, List.getElem?_eq_getElem (by rw [HI.out.blen]; omega)⟩
     have cb := hcb _ _ (intC_at hob)
     have fb := owns_fz hWq p
     have hI1 := owns_set hIq (p * 5 + 4) (.slice al l.length cl)
     rw [itCells_set4 HX'.out] at hI1
     have hI9 := owns_but hI1 (But.setB _ w2.heap.size p (.int .i64 k)) (fun g hg h => by simp [Value.ownBlock] at hg; omega)
     have hW1 := owns_but hWq (But.setB wr gw (p * 5 + 4) (.slice al l.length cl)) (fun g hg h => by simp [Value.ownBlock] at hg; omega)
     have hW9 := owns_set hW1 p (.int .i64 k)
     rw [intC_set] at hW9
     have hBs : But (fun j => j = gw ∨ j = w2.heap.size) wr ((wr.setCell ⟨gw, p * 5 + 4, none⟩ (.slice al l.length cl)).setCell ⟨w2.heap.size, p, none⟩ (.int .i64 k)) := ((But.setB _ _ _ _).mono (fun _ _ h => Or.inl h)).trans ((But.setB _ _ _ _).mono (fun _ _ h => Or.inr h))
     have hBn : But (fun _ => False) w ((wr.setCell ⟨gw, p * 5 + 4, none⟩ (.slice al l.length cl)).setCell ⟨w2.heap.size, p, none⟩ (.int .i64 k)) := (hBr.trans hBq).next hBs (fun j hj h => by omega)
     have hzs := hBs.size
     have HW9 : Hid (WpI ((wr.setCell ⟨gw, p * 5 + 4, none⟩ (.slice al l.length cl)).setCell ⟨w2.heap.size, p, none⟩ (.int .i64 k)) (w2.heap.size + 1) its (its'.set p { X with pa := al, pn := l.length, pc := cl }) (bh.set p k) p) := by
      have h := HI.out
      have hpl : p < its'.length := by rw [h.len]; omega
      refine ⟨by rw [List.length_set]; exact h.len, by rw [List.length_set]; exact h.blen, fun j hj => ?_, fun j hj1 hj2 => ?_, fun j x x' hj1 hj2 hj3 => ?_⟩
      ·rw [List.getElem?_set_ne (by omega)]
       exact h.lo j (by omega)
      ·by_cases hjp : p = j
       ·subst hjp
        rw [List.getElem?_set_self (by rw [h.blen]; omega), HD.out.2]
       ·rw [List.getElem?_set_ne hjp]
        exact h.hi j (by omega) hj2
      ·by_cases hjp : p = j
       ·subst hjp
        rw [HX.out] at hj2
        rw [List.getElem?_set_self hpl] at hj3
        cases hj2
        cases hj3
        refine ⟨rfl, rfl, rfl, rfl, ?_⟩
        have h1 := World.ownsRow.mono (owns_but hOq hBs (fun g hg h => by have := owns_ge hOq g hg; omega)) (show w2.heap.size + 1 ≤ wo.heap.size from by omega)
        rw [HD.out.1] at h1
        rw [← HD.out.1] at h1 ⊢
        exact h1
       ·rw [List.getElem?_set_ne hjp] at hj3
        obtain ⟨e1, e2, e3, e4, e5⟩ := h.pt j x x' (by omega) hj2 hj3
        have e6 := owns_but e5 hBq (fun _ _ h => h)
        exact ⟨e1, e2, e3, e4, owns_but e6 hBs (fun g hg h => by have := owns_ge e6 g hg; omega)⟩
     clear hcq hcb hgq hgb' hI1 hW1 hob hD
     go_wp2_with fail
     refine (HCP.out wr).mono ?_
     rintro en wx ⟨rfl, hwx⟩
     rw [hwx]
     clear hwx wx
     go_wp2_with fail
     go_roundg p
     case measure => omega
     case rel => exact ⟨_, p, _, _, rfl, rfl, by omega, by omega, by omega, hI9, hW9, hBn, by omega, HW9⟩
    ·have hlI : (l.length : Int) < (ar : Int) := by omega
     have hknI : ¬ (k : Int) < (its.length : Int) := by omega
     have hD := HP.out.done (Or.inr (by rw [opsI_len]; exact hkn))
     have HD := hid hD
     have hIq : wr.ownsRow w.heap.size 219 5 (.slice (some ⟨gw, 0, none⟩) its.length cap) its.length (itCells its') := owns_but hIr hBq (fun _ _ h => h)
     have hWq := owns_but hWr hBq (fun _ _ h => h)
     have hgwl : gw < w2.heap.size := owns_lt hI2 gw rfl
     obtain ⟨gq, hgq, hq1, hq2, hcq⟩ := owns_two hIq (by omega)
     have hgqe : gw = gq := by injection hgq with h; injection h with h
     subst hgqe
     obtain ⟨gb', hgb', hb1, hb2, hcb⟩ := owns_two hWq (by omega)
     have hgbe : w2.heap.size = gb' := by injection hgb' with h; injection h with h
     subst hgbe
     have c4 : wr.cell? ⟨gw, p * 5 + 4, none⟩ = some (.slice X.pa X.pn X.pc) := hcq _ _ (itCells_at (k := 4) HX'.out (by omega))
     have f4 := owns_fz hIq (p * 5 + 4)
     obtain ⟨ob, hob⟩ : ∃ ob, bh[p]? = some ob := ⟨_, List.getElem?_eq_getElem (by rw [HI.out.blen]; omega)⟩
     have cb := hcb _ _ (intC_at hob)
     have fb := owns_fz hWq p
     have hI1 := owns_set hIq (p * 5 + 4) (.slice al l.length cl)
     rw [itCells_set4 HX'.out] at hI1
     have hI9 := owns_but hI1 (But.setB _ w2.heap.size p (.int .i64 k)) (fun g hg h => by simp [Value.ownBlock] at hg; omega)
     have hW1 := owns_but hWq (But.setB wr gw (p * 5 + 4) (.slice al l.length cl)) (fun g hg h => by simp [Value.ownBlock] at hg; omega)
     have hW9 := owns_set hW1 p (.int .i64 k)
     rw [intC_set] at hW9
     have hBs : But (fun j => j = gw ∨ j = w2.heap.size) wr ((wr.setCell ⟨gw, p * 5 + 4, none⟩ (.slice al l.length cl)).setCell ⟨w2.heap.size, p, none⟩ (.int .i64 k)) := ((But.setB _ _ _ _).mono (fun _ _ h => Or.inl h)).trans ((But.setB _ _ _ _).mono (fun _ _ h => Or.inr h))
     have hBn : But (fun _ => False) w ((wr.setCell ⟨gw, p * 5 + 4, none⟩ (.slice al l.length cl)).setCell ⟨w2.heap.size, p, none⟩ (.int .i64 k)) := (hBr.trans hBq).next hBs (fun j hj h => by omega)
     have hzs := hBs.size
     have HW9 : Hid (WpI ((wr.setCell ⟨gw, p * 5 + 4, none⟩ (.slice al l.length cl)).setCell ⟨w2.heap.size, p, none⟩ (.int .i64 k)) (w2.heap.size + 1) its (its'.set p { X with pa := al, pn := l.length, pc := cl }) (bh.set p k) p) := by
      have h := HI.out
      have hpl : p < its'.length := by rw [h.len]; omega
      refine ⟨by rw [List.length_set]; exact h.len, by rw [List.length_set]; exact h.blen, fun j hj => ?_, fun j hj1 hj2 => ?_, fun j x x' hj1 hj2 hj3 => ?_⟩
      ·rw [List.getElem?_set_ne (by omega)]
       exact h.lo j (by omega)
      ·by_cases hjp : p = j
       ·subst hjp
        rw [List.getElem?_set_self (by rw [h.blen]; omega), HD.out.2]
       ·rw [List.getElem?_set_ne hjp]
        exact h.hi j (by omega) hj2
      ·by_cases hjp : p = j
       ·subst hjp
        rw [HX.out] at hj2
        rw [List.getElem?_set_self hpl] at hj3
        cases hj2
        cases hj3
        refine ⟨rfl, rfl, rfl, rfl, ?_⟩
        have h1 := World.ownsRow.mono (owns_but hOq hBs (fun g hg h => by have := owns_ge hOq g hg; omega)) (show w2.heap.size + 1 ≤ wo.heap.size from by omega)
        rw [HD.out.1] at h1
        rw [← HD.out.1] at h1 ⊢
        exact h1
       ·rw [List.getElem?_set_ne hjp] at hj3
        obtain ⟨e1, e2, e3, e4, e5⟩ := h.pt j x x' (by omega) hj2 hj3
        have e6 := owns_but e5 hBq (fun _ _ h => h)
        exact ⟨e1, e2, e3, e4, owns_but e6 hBs (fun g hg h => by have := owns_ge e6 g hg; omega)⟩
     clear hcq hcb hgq hgb' hI1 hW1 hob hD
     go_wp2_with fail
     refine (HCP.out wr).mono ?_
     rintro en wx ⟨rfl, hwx⟩
     rw [hwx]
     clear hwx wx
     go_wp2_with fail
     go_roundg p
     case measure => omega
     case rel => exact ⟨_, p, _, _, rfl, rfl, by omega, by omega, by omega, hI9, hW9, hBn, by omega, HW9⟩
end Go.Proofs.YtpfkkmacakjmbaaGreatDoor
