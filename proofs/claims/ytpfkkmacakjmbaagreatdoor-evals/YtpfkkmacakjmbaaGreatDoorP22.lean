import Derived.Test.YtpfkkmacakjmbaaGreatDoorP21
import Derived.Test.YtpfkkmacakjmbaaGreatDoorP04
import Derived.Test.YtpfkkmacakjmbaaGreatDoorP00
set_option maxRecDepth 100000
set_option maxHeartbeats 6400000
namespace Go.Proofs.YtpfkkmacakjmbaaGreatDoor
open Go Go.RowKit Sp
set_option linter.unusedSimpArgs false
set_option linter.unusedVariables false
attribute [local go_sem ↓] Go.wp_at_zero Go.wp_at_succ
theorem ins_oper {s : ByteArray} {SC : List Cls} {ng nl i : Nat} {c : UInt8} {x : XIt} {j : Nat} {bad' : Bool} (hnc : SC.length ≤ 4) (hpc : pk s i = c) (hn : ¬ (c.toNat = 114 ∨ c.toNat = 119 ∨ c.toNat = 43 ∨ c.toNat = 45 ∨ c.toNat = 42 ∨ c.toNat = 47 ∨ c.toNat = 60 ∨ c.toNat = 61 ∨ c.toNat = 101 ∨ c.toNat = 122 ∨ c.toNat = 100 ∨ c.toNat = 116 ∨ c.toNat = 107 ∨ c.toNat = 106 ∨ c.toNat = 102))
  (h : operX s SC ng nl i c (i + 1) false = (x, j, bad')) : InsR s SC ng nl i false x j bad' := by
 unfold operX at h
 by_cases h1 : c.toNat = 108 ∨ c.toNat = 115
 ·rw [if_pos h1] at h
  obtain ⟨rfl, rfl, rfl⟩ := (by simpa using h : _ ∧ _ ∧ _)
  exact ins_dig (n := nl) hpc (Or.inr ⟨h1, rfl⟩) rfl
 rw [if_neg h1] at h
 by_cases h2 : c.toNat = 110 ∨ c.toNat = 120
 ·rw [if_pos h2] at h
  obtain ⟨rfl, rfl, rfl⟩ := (by simpa using h : _ ∧ _ ∧ _)
  exact ins_cls hnc hpc h2 rfl
 rw [if_neg h2] at h
 by_cases h3 : c.toNat = 103 ∨ c.toNat = 112
 ·rw [if_pos h3] at h
  obtain ⟨rfl, rfl, rfl⟩ := (by simpa using h : _ ∧ _ ∧ _)
  exact ins_fld hnc hpc h3 rfl rfl
 rw [if_neg h3] at h
 by_cases h4 : c.toNat = 99
 ·rw [if_pos h4] at h
  obtain ⟨rfl, rfl, rfl⟩ := (by simpa using h : _ ∧ _ ∧ _)
  exact ins_call hnc hpc h4 rfl rfl
 rw [if_neg h4] at h
 obtain ⟨rfl, rfl, rfl⟩ := (by simpa using h : _ ∧ _ ∧ _)
 try simp only [Bool.false_eq_true, if_false]
 refine ins_no ?_
 rw [hpc]
 simp only [letters, List.contains_eq_mem, List.mem_cons, List.not_mem_nil, or_false, decide_eq_false_iff_not]
 omega
theorem oper_end {s : ByteArray} {SC : List Cls} {ng nl i : Nat} : operX s SC ng nl i 0 i true = (⟨i, 0, 45, 0, none, 0, 0⟩, i, true) := by
 unfold operX
 simp
section
variable (b base : Nat) (s : ByteArray) (i : Nat) (SC : List Cls) (a0 a1 al : Option Addr) (ng nl cap0 cap1 capl : Nat) (v2 : RdV) (w : World)
end
def toXN (x : Ins) : XIt := if isDigit x.op = true then ⟨x.pos, 107, 45, x.b, none, 0, 0⟩ else toXI x
def nodB (s : ByteArray) (cs : List Cls) (ns nl i : Nat) (bad : Bool) : Except Nat (Ins × Nat) := if bad = true then .error i else nodP s cs ns nl i
def NodR (s : ByteArray) (cs : List Cls) (ns nl i : Nat) (bad : Bool) (x : XIt) (j : Nat) (bad' : Bool) : Prop :=
 (bad' = false ∧ ∃ y, nodB s cs ns nl i bad = .ok (y, j) ∧ x = toXN y) ∨ (bad' = true ∧ nodB s cs ns nl i bad = .error j)
section
variable {s : ByteArray} {cs : List Cls} {ns nl i : Nat}
theorem nod_end {bad : Bool} {x : XIt} (h : bad = true ∨ s.size ≤ i) : NodR s cs ns nl i bad x i true := by
 right
 refine ⟨rfl, ?_⟩
 unfold nodB
 cases bad with
 | true => rfl
 | false =>
  rcases h with h | h
  ·cases h
  ·simp only [Bool.false_eq_true, if_false]
   unfold nodP
   rw [pk_end h]
   rfl
theorem nod_no {x : XIt} (h : nodeLetters.contains (pk s i).toNat = false) : NodR s cs ns nl i false x i true := by
 right
 refine ⟨rfl, ?_⟩
 simp only [nodB, Bool.false_eq_true, if_false, nodP, h]
theorem nod_alone {c : UInt8} (hc : pk s i = c) (hl : nodeLetters.contains c.toNat = true) (hd : isDigit c = false) (h : operP s cs ns nl c.toNat (i + 1) = .ok (0, 0, i + 1)) (hn : ¬ (c.toNat = 110 ∨ c.toNat = 120 ∨ c.toNat = 103 ∨ c.toNat = 112 ∨ c.toNat = 99)) : NodR s cs ns nl i false ⟨i, c, 45, 0, none, 0, 0⟩ (i + 1) false := by
 left
 refine ⟨rfl, ⟨c, 0, 0, i⟩, ?_, ?_⟩
 ·simp only [nodB, Bool.false_eq_true, if_false, nodP, hc, hl, if_true, h, hd]
 ·unfold toXN toXI
  simp only [hd, Bool.false_eq_true, if_false, if_neg hn]
theorem nod_digit {c : UInt8} (hc : pk s i = c) (hl : nodeLetters.contains c.toNat = true) (hd : isDigit c = true) (h : operP s cs ns nl c.toNat (i + 1) = .ok (0, 0, i + 1)) : NodR s cs ns nl i false ⟨i, 107, 45, c.toNat - 48, none, 0, 0⟩ (i + 1) false := by
 left
 refine ⟨rfl, ⟨c, 0, c.toNat - 48, i⟩, ?_, ?_⟩
 ·simp only [nodB, Bool.false_eq_true, if_false, nodP, hc, hl, if_true, h, hd]
 ·unfold toXN
  simp only [hd, if_true]
theorem nod_ins {c : UInt8} (hc : pk s i = c) (h : c.toNat = 108 ∨ c.toNat = 115 ∨ c.toNat = 110 ∨ c.toNat = 120 ∨ c.toNat = 103 ∨ c.toNat = 112 ∨ c.toNat = 99) {x : XIt} {j : Nat} {bad' : Bool} (hI : InsR s cs ns nl i false x j bad') : NodR s cs ns nl i false x j bad' := by
 have hl : letters.contains c.toNat = true := by rcases h with h | h | h | h | h | h | h <;> (rw [h]; decide)
 have hl2 : nodeLetters.contains c.toNat = true := by rcases h with h | h | h | h | h | h | h <;> (rw [h]; decide)
 have hd : isDigit c = false := by rcases h with h | h | h | h | h | h | h <;> simp [isDigit, h]
 unfold InsR insB insP at hI
 unfold NodR nodB nodP
 simp only [Bool.false_eq_true, if_false, hc, hl, hl2, if_true, hd] at hI ⊢
 rcases hI with ⟨h1, y, h2, h3⟩ | ⟨h1, h2⟩
 ·left
  refine ⟨h1, y, ?_, ?_⟩
  ·rw [← h2]
   cases operP s cs ns nl c.toNat (i + 1) <;> rfl
  ·rw [h3]
   have hy : y.op = c := by
    cases ho : operP s cs ns nl c.toNat (i + 1) with
    | error q => rw [ho] at h2; cases h2
    | ok q => rw [ho] at h2; cases h2; rfl
   unfold toXN
   rw [hy, hd]
   simp
 ·right
  refine ⟨h1, ?_⟩
  rw [← h2]
  cases operP s cs ns nl c.toNat (i + 1) <;> rfl
theorem nod_oper {c : UInt8} {x : XIt} {j : Nat} {bad' : Bool} (hnc : cs.length ≤ 4) (hpc : pk s i = c) (hn : ¬ (c.toNat = 114 ∨ c.toNat = 122 ∨ c.toNat = 43 ∨ c.toNat = 45 ∨ c.toNat = 42 ∨ c.toNat = 47 ∨ c.toNat = 60 ∨ c.toNat = 61 ∨ c.toNat = 101 ∨ c.toNat = 119 ∨ c.toNat = 44 ∨ c.toNat = 105 ∨ c.toNat = 111 ∨ c.toNat = 48 ∨ c.toNat = 49 ∨ c.toNat = 50 ∨ c.toNat = 51 ∨ c.toNat = 52 ∨ c.toNat = 53 ∨ c.toNat = 54 ∨ c.toNat = 55 ∨ c.toNat = 56 ∨ c.toNat = 57))
  (h : operX s cs ns nl i c (i + 1) false = (x, j, bad')) : NodR s cs ns nl i false x j bad' := by
 by_cases h1 : c.toNat = 108 ∨ c.toNat = 115 ∨ c.toNat = 110 ∨ c.toNat = 120 ∨ c.toNat = 103 ∨ c.toNat = 112 ∨ c.toNat = 99
 ·exact nod_ins hpc h1 (ins_oper hnc hpc (by omega) h)
 ·unfold operX at h
  rw [if_neg (by omega), if_neg (by omega), if_neg (by omega), if_neg (by omega)] at h
  obtain ⟨rfl, rfl, rfl⟩ := (by simpa using h : _ ∧ _ ∧ _)
  try simp only [Bool.false_eq_true, if_false]
  refine nod_no ?_
  rw [hpc]
  simp only [nodeLetters, List.contains_eq_mem, List.mem_cons, List.not_mem_nil, or_false, decide_eq_false_iff_not]
  omega
end
theorem countParts_any (c : UInt8) (w : World) :
  Calls Tryz.prog 200 #[.int .u8 c.toNat] w fun en w' => en = .returned (.int .i64 (arity c)) ∧ w' = w := by
 by_cases h : c.toNat = 103 ∨ c.toNat = 120 ∨ c.toNat = 115 ∨ c.toNat = 119 ∨ c.toNat = 43 ∨ c.toNat = 45 ∨ c.toNat = 42 ∨ c.toNat = 47 ∨ c.toNat = 60 ∨ c.toNat = 61 ∨ c.toNat = 101 ∨ c.toNat = 99 ∨ c.toNat = 112 ∨ c.toNat = 44 ∨ c.toNat = 111 ∨ c.toNat = 105
 ·rcases h with h | h | h | h | h | h | h | h | h | h | h | h | h | h | h | h
  all_goals
   have E : ∀ j : Int, ((c.toNat : Int) == j) = _ := fun j => congrArg (fun n : Nat => ((n : Int) == j)) h
   rw [show arity c = _ from by unfold arity; rw [h]]
   clear h
   go_enter Tryz.func200, Tryz.ntmps200
   go_wp2_with fail
   go_ret
   exact ⟨rfl, rfl⟩
 ·simp only [not_or] at h
  obtain ⟨h103, h120, h115, h119, h43, h45, h42, h47, h60, h61, h101, h99, h112, h44, h111, h105⟩ := h
  rw [show arity c = 0 from by simp [arity, h103, h120, h115, h119, h43, h45, h42, h47, h60, h61, h101, h99, h112, h44, h111, h105]]
  have E : ∀ j : Nat, c.toNat ≠ j → ((c.toNat : Int) == (j : Int)) = false := fun j h => by rw [beq_eq_false_iff_ne]; omega
  have e103 := E 103 h103
  have e120 := E 120 h120
  have e115 := E 115 h115
  have e119 := E 119 h119
  have e43 := E 43 h43
  have e45 := E 45 h45
  have e42 := E 42 h42
  have e47 := E 47 h47
  have e60 := E 60 h60
  have e61 := E 61 h61
  have e101 := E 101 h101
  have e99 := E 99 h99
  have e112 := E 112 h112
  have e44 := E 44 h44
  have e111 := E 111 h111
  have e105 := E 105 h105
  clear E h103 h120 h115 h119 h43 h45 h42 h47 h60 h61 h101 h99 h112 h44 h111 h105
  go_enter Tryz.func200, Tryz.ntmps200
  go_wp2_with fail
  go_ret
  exact ⟨rfl, rfl⟩
section
variable (b base : Nat) (s : ByteArray) (i : Nat) (SC : List Cls) (a0 a1 al : Option Addr) (ng nl cap0 cap1 capl : Nat) (v2 : RdV) (w : World)
theorem xnod_a (c : UInt8) (hc : c.toNat = 114 ∨ c.toNat = 122 ∨ c.toNat = 43 ∨ c.toNat = 45 ∨ c.toNat = 42 ∨ c.toNat = 47 ∨ c.toNat = 60 ∨ c.toNat = 61 ∨ c.toNat = 101 ∨ c.toNat = 119 ∨ c.toNat = 44 ∨ c.toNat = 105 ∨ c.toNat = 111) (hlt : i < s.size) (hpc : pk s i = c) (hnc : SC.length ≤ 4) (hng : ng ≤ 3) (hnl : nl ≤ 10) (hs : s.size ≤ 2000)
  (hR : XrB w b s i false (.slice a0 SC.length cap0) (.slice a1 ng cap1) v2) (hv : v2.hl = .slice al nl capl) :
  Calls Tryz.prog 199 #[.pointer (some ⟨b, 0, none⟩)] w fun en w' => But (· = b) w w' ∧ ∃ x j bad', en = .returned (itV x) ∧ XrB w' b s j bad' (.slice a0 SC.length cap0) (.slice a1 ng cap1) v2 ∧ NodR s SC ng nl i false x j bad' := by
 rcases hc with hc | hc | hc | hc | hc | hc | hc | hc | hc | hc | hc | hc | hc
 all_goals
  have HC := hid hc
  have E : ∀ j : Int, ((c.toNat : Int) == j) = _ := fun j => congrArg (fun n : Nat => ((n : Int) == j)) hc
  clear hc
  have hbw := hR.lt
  have p3 := hR.c3
  obtain ⟨hB0, hg0, hg1⟩ := two_boxes w b hbw #[.int .i64 0, .int .u8 0, .int .u8 0, .int .i64 0, .slice none 0 0] #[.int .i64 i, .int .u8 0, .int .u8 45, .int .i64 0, .slice none 0 0] 219
  have hR0 := hR.but ((But.alloc (fun _ => False) w (.cells #[.int .i64 0, .int .u8 0, .int .u8 0, .int .i64 0, .slice none 0 0] 219)).trans (But.alloc _ _ (.cells #[.int .i64 i, .int .u8 0, .int .u8 45, .int .i64 0, .slice none 0 0] 219))) (fun h => h)
  have HW0 := hid (InsW.mk hB0 hg0 hg1)
  have HB1 := hid (xtakeByte_any b s i false _ _ v2 _ hs hR0)
  rw [tbP_ok hlt, hpc] at HB1
  clear hB0 hR0 hg0 hg1
  go_enter Tryz.func199, Tryz.ntmps199
  go_wp2_with fail
  refine HB1.out.mono ?_
  rintro en w1 ⟨rfl, hB1, hR1⟩
  have hW1 := HW0.out.next (by omega) (by omega) hB1
  obtain ⟨q0, q1, q2, q3, q4⟩ := row5 hW1.item
  obtain ⟨f0, f1, f2, f3, f4⟩ := froz5 hW1.item
  obtain ⟨y0, y1, y2, y3, y4⟩ := row5 hW1.box
  obtain ⟨g0, g1, g2, g3, g4⟩ := froz5 hW1.box
  have hW2 := hW1.set1 (by omega) (by omega) (.int .u8 c.toNat)
  have hR2 := hR1.but (But.setB w1 (w.heap.size + 1) 1 (.int .u8 c.toNat)) (by omega)
  have HW2 := hid hW2
  clear hW1 hW2 HW0 HB1 p3
  have HWF := hid (HW2.out)
  have hRF := hR2
  go_wp2_with fail
  have h9b := put5_heap HWF.out.box (.int .i64 i) (.int .u8 c.toNat) (.int .u8 45) (.int .i64 0) (.slice none 0 0)
  have h9d := put5_but (w1.setCell ⟨w.heap.size + 1, 1, none⟩ (.int .u8 c.toNat)) w.heap.size (.int .i64 i) (.int .u8 c.toNat) (.int .u8 45) (.int .i64 0) (.slice none 0 0)
  unfold put5 at h9b h9d
  revert h9b h9d
  generalize (((((w1.setCell ⟨w.heap.size + 1, 1, none⟩ (.int .u8 c.toNat)).setCell ⟨w.heap.size, 0, none⟩ (.int .i64 i)).setCell ⟨w.heap.size, 1, none⟩ (.int .u8 c.toNat)).setCell ⟨w.heap.size, 2, none⟩ (.int .u8 45)).setCell ⟨w.heap.size, 3, none⟩ (.int .i64 0)).setCell ⟨w.heap.size, 4, none⟩ (.slice none 0 0) = w9
  intro h9b h9d
  obtain ⟨r0, r1, r2, r3, r4⟩ := row5 h9b
  exact bodyPost_ret (v := .agg #[(.int .i64 i), (.int .u8 c.toNat), (.int .u8 45), (.int .i64 0), (.slice none 0 0)]) (by simp [results, Tryz.results199, go_sem, r0, r1, r2, r3, r4]) rfl ⟨HWF.out.but.next h9d (fun k hk h => by omega), ⟨i, c, 45, 0, none, 0, 0⟩, i + 1, false, rfl, hRF.but h9d (by omega), nod_alone hpc (by rw [HC.out]; decide) (by simp [isDigit, HC.out]) (by rw [HC.out]; rfl) (by rw [HC.out]; decide)⟩
theorem xnod_d (c : UInt8) (d : Nat) (hc : d = 0 ∨ d = 1 ∨ d = 2 ∨ d = 3 ∨ d = 4 ∨ d = 5 ∨ d = 6 ∨ d = 7 ∨ d = 8 ∨ d = 9) (hcd : c.toNat = 48 + d) (hlt : i < s.size) (hpc : pk s i = c) (hnc : SC.length ≤ 4) (hng : ng ≤ 3) (hnl : nl ≤ 10) (hs : s.size ≤ 2000)
  (hR : XrB w b s i false (.slice a0 SC.length cap0) (.slice a1 ng cap1) v2) (hv : v2.hl = .slice al nl capl) :
  Calls Tryz.prog 199 #[.pointer (some ⟨b, 0, none⟩)] w fun en w' => But (· = b) w w' ∧ ∃ x j bad', en = .returned (itV x) ∧ XrB w' b s j bad' (.slice a0 SC.length cap0) (.slice a1 ng cap1) v2 ∧ NodR s SC ng nl i false x j bad' := by
 rcases hc with hc | hc | hc | hc | hc | hc | hc | hc | hc | hc
 all_goals
  have HC := hid (And.intro hcd hc)
  have E : ∀ j : Int, ((c.toNat : Int) == j) = _ := fun j => congrArg (fun n : Nat => ((n : Int) == j)) (hcd.trans (congrArg (48 + ·) hc))
  have hsub : (c.toNat : Int) - 48 = d := by omega
  have hd9 : (d : Int) ≤ 9 := by omega
  clear hc hcd
  have hbw := hR.lt
  have p3 := hR.c3
  obtain ⟨hB0, hg0, hg1⟩ := two_boxes w b hbw #[.int .i64 0, .int .u8 0, .int .u8 0, .int .i64 0, .slice none 0 0] #[.int .i64 i, .int .u8 0, .int .u8 45, .int .i64 0, .slice none 0 0] 219
  have hR0 := hR.but ((But.alloc (fun _ => False) w (.cells #[.int .i64 0, .int .u8 0, .int .u8 0, .int .i64 0, .slice none 0 0] 219)).trans (But.alloc _ _ (.cells #[.int .i64 i, .int .u8 0, .int .u8 45, .int .i64 0, .slice none 0 0] 219))) (fun h => h)
  have HW0 := hid (InsW.mk hB0 hg0 hg1)
  have HB1 := hid (xtakeByte_any b s i false _ _ v2 _ hs hR0)
  rw [tbP_ok hlt, hpc] at HB1
  clear hB0 hR0 hg0 hg1
  go_enter Tryz.func199, Tryz.ntmps199
  go_wp2_with fail
  refine HB1.out.mono ?_
  rintro en w1 ⟨rfl, hB1, hR1⟩
  have hW1 := HW0.out.next (by omega) (by omega) hB1
  obtain ⟨q0, q1, q2, q3, q4⟩ := row5 hW1.item
  obtain ⟨f0, f1, f2, f3, f4⟩ := froz5 hW1.item
  obtain ⟨y0, y1, y2, y3, y4⟩ := row5 hW1.box
  obtain ⟨g0, g1, g2, g3, g4⟩ := froz5 hW1.box
  have hW2 := hW1.set1 (by omega) (by omega) (.int .u8 c.toNat)
  have hR2 := hR1.but (But.setB w1 (w.heap.size + 1) 1 (.int .u8 c.toNat)) (by omega)
  have HW2 := hid hW2
  clear hW1 hW2 HW0 HB1 p3
  have hW4 := HW2.out.set3 (by omega) (by omega) (.int .i64 d)
  have hW5 := hW4.set1 (by omega) (by omega) (.int .u8 107)
  have hR5 := (hR2.but (But.setB _ (w.heap.size + 1) 3 (.int .i64 d)) (by omega)).but (But.setB _ (w.heap.size + 1) 1 (.int .u8 107)) (by omega)
  have HWF := hid hW5
  have hRF := hR5
  clear hW4 hW5
  go_wp2_with fail
  have h9b := put5_heap HWF.out.box (.int .i64 i) (.int .u8 107) (.int .u8 45) (.int .i64 d) (.slice none 0 0)
  have h9d := put5_but (((w1.setCell ⟨w.heap.size + 1, 1, none⟩ (.int .u8 c.toNat)).setCell ⟨w.heap.size + 1, 3, none⟩ (.int .i64 d)).setCell ⟨w.heap.size + 1, 1, none⟩ (.int .u8 107)) w.heap.size (.int .i64 i) (.int .u8 107) (.int .u8 45) (.int .i64 d) (.slice none 0 0)
  unfold put5 at h9b h9d
  revert h9b h9d
  generalize (((((((w1.setCell ⟨w.heap.size + 1, 1, none⟩ (.int .u8 c.toNat)).setCell ⟨w.heap.size + 1, 3, none⟩ (.int .i64 d)).setCell ⟨w.heap.size + 1, 1, none⟩ (.int .u8 107)).setCell ⟨w.heap.size, 0, none⟩ (.int .i64 i)).setCell ⟨w.heap.size, 1, none⟩ (.int .u8 107)).setCell ⟨w.heap.size, 2, none⟩ (.int .u8 45)).setCell ⟨w.heap.size, 3, none⟩ (.int .i64 d)).setCell ⟨w.heap.size, 4, none⟩ (.slice none 0 0) = w9
  intro h9b h9d
  obtain ⟨r0, r1, r2, r3, r4⟩ := row5 h9b
  exact bodyPost_ret (v := .agg #[(.int .i64 i), (.int .u8 107), (.int .u8 45), (.int .i64 d), (.slice none 0 0)]) (by simp [results, Tryz.results199, go_sem, r0, r1, r2, r3, r4]) rfl ⟨HWF.out.but.next h9d (fun k hk h => by omega), ⟨i, 107, 45, d, none, 0, 0⟩, i + 1, false, rfl, hRF.but h9d (by omega), (by have := nod_digit (cs := SC) (ns := ng) (nl := nl) hpc (by rw [HC.out.1, HC.out.2]; decide) (by simp [isDigit, HC.out.1, HC.out.2]) (by rw [HC.out.1, HC.out.2]; rfl); rw [HC.out.1, Nat.add_sub_cancel_left] at this; exact this)⟩
theorem xnod_other (bad : Bool) (c : UInt8) (j1 : Nat) (bad1 : Bool) (hT : tbP s i bad = (c, j1, bad1)) (hn : ¬ (c.toNat = 114 ∨ c.toNat = 122 ∨ c.toNat = 43 ∨ c.toNat = 45 ∨ c.toNat = 42 ∨ c.toNat = 47 ∨ c.toNat = 60 ∨ c.toNat = 61 ∨ c.toNat = 101 ∨ c.toNat = 119 ∨ c.toNat = 44 ∨ c.toNat = 105 ∨ c.toNat = 111 ∨ c.toNat = 48 ∨ c.toNat = 49 ∨ c.toNat = 50 ∨ c.toNat = 51 ∨ c.toNat = 52 ∨ c.toNat = 53 ∨ c.toNat = 54 ∨ c.toNat = 55 ∨ c.toNat = 56 ∨ c.toNat = 57)) (hI : ∀ x j bad', operX s SC ng nl i c j1 bad1 = (x, j, bad') → NodR s SC ng nl i bad x j bad') (hnc : SC.length ≤ 4) (hng : ng ≤ 3) (hnl : nl ≤ 10) (hs : s.size ≤ 2000)
  (hR : XrB w b s i bad (.slice a0 SC.length cap0) (.slice a1 ng cap1) v2) (hv : v2.hl = .slice al nl capl) (hG : c.toNat = 103 ∨ c.toNat = 112 → WfC SC ∧ TcV w base (.slice a0 SC.length cap0) (SC.map toX)) (hb : b < base) :
  Calls Tryz.prog 199 #[.pointer (some ⟨b, 0, none⟩)] w fun en w' => But (· = b) w w' ∧ ∃ x j bad', en = .returned (itV x) ∧ XrB w' b s j bad' (.slice a0 SC.length cap0) (.slice a1 ng cap1) v2 ∧ NodR s SC ng nl i bad x j bad' := by
 have hbw := hR.lt
 have p3 := hR.c3
 obtain ⟨hB0, hg0, hg1⟩ := two_boxes w b hbw #[.int .i64 0, .int .u8 0, .int .u8 0, .int .i64 0, .slice none 0 0] #[.int .i64 i, .int .u8 0, .int .u8 45, .int .i64 0, .slice none 0 0] 219
 have hR0 := hR.but ((But.alloc (fun _ => False) w (.cells #[.int .i64 0, .int .u8 0, .int .u8 0, .int .i64 0, .slice none 0 0] 219)).trans (But.alloc _ _ (.cells #[.int .i64 i, .int .u8 0, .int .u8 45, .int .i64 0, .slice none 0 0] 219))) (fun h => h)
 have HW0 := hid (InsW.mk hB0 hg0 hg1)
 have HB1 := hid (xtakeByte_any b s i bad _ _ v2 _ hs hR0)
 rw [hT] at HB1
 have e114 : ((c.toNat : Int) == 114) = false := by rw [beq_eq_false_iff_ne]; omega
 have e122 : ((c.toNat : Int) == 122) = false := by rw [beq_eq_false_iff_ne]; omega
 have e43 : ((c.toNat : Int) == 43) = false := by rw [beq_eq_false_iff_ne]; omega
 have e45 : ((c.toNat : Int) == 45) = false := by rw [beq_eq_false_iff_ne]; omega
 have e42 : ((c.toNat : Int) == 42) = false := by rw [beq_eq_false_iff_ne]; omega
 have e47 : ((c.toNat : Int) == 47) = false := by rw [beq_eq_false_iff_ne]; omega
 have e60 : ((c.toNat : Int) == 60) = false := by rw [beq_eq_false_iff_ne]; omega
 have e61 : ((c.toNat : Int) == 61) = false := by rw [beq_eq_false_iff_ne]; omega
 have e101 : ((c.toNat : Int) == 101) = false := by rw [beq_eq_false_iff_ne]; omega
 have e119 : ((c.toNat : Int) == 119) = false := by rw [beq_eq_false_iff_ne]; omega
 have e44 : ((c.toNat : Int) == 44) = false := by rw [beq_eq_false_iff_ne]; omega
 have e105 : ((c.toNat : Int) == 105) = false := by rw [beq_eq_false_iff_ne]; omega
 have e111 : ((c.toNat : Int) == 111) = false := by rw [beq_eq_false_iff_ne]; omega
 have e48 : ((c.toNat : Int) == 48) = false := by rw [beq_eq_false_iff_ne]; omega
 have e49 : ((c.toNat : Int) == 49) = false := by rw [beq_eq_false_iff_ne]; omega
 have e50 : ((c.toNat : Int) == 50) = false := by rw [beq_eq_false_iff_ne]; omega
 have e51 : ((c.toNat : Int) == 51) = false := by rw [beq_eq_false_iff_ne]; omega
 have e52 : ((c.toNat : Int) == 52) = false := by rw [beq_eq_false_iff_ne]; omega
 have e53 : ((c.toNat : Int) == 53) = false := by rw [beq_eq_false_iff_ne]; omega
 have e54 : ((c.toNat : Int) == 54) = false := by rw [beq_eq_false_iff_ne]; omega
 have e55 : ((c.toNat : Int) == 55) = false := by rw [beq_eq_false_iff_ne]; omega
 have e56 : ((c.toNat : Int) == 56) = false := by rw [beq_eq_false_iff_ne]; omega
 have e57 : ((c.toNat : Int) == 57) = false := by rw [beq_eq_false_iff_ne]; omega
 clear hn
 clear hB0 hR0 hg0 hg1
 go_enter Tryz.func199, Tryz.ntmps199
 go_wp2_with fail
 refine HB1.out.mono ?_
 rintro en w1 ⟨rfl, hB1, hR1⟩
 have hW1 := HW0.out.next (by omega) (by omega) hB1
 obtain ⟨q0, q1, q2, q3, q4⟩ := row5 hW1.item
 obtain ⟨f0, f1, f2, f3, f4⟩ := froz5 hW1.item
 obtain ⟨y0, y1, y2, y3, y4⟩ := row5 hW1.box
 obtain ⟨g0, g1, g2, g3, g4⟩ := froz5 hW1.box
 have hW2 := hW1.set1 (by omega) (by omega) (.int .u8 c.toNat)
 have hR2 := hR1.but (But.setB w1 (w.heap.size + 1) 1 (.int .u8 c.toNat)) (by omega)
 have HW2 := hid hW2
 clear hW1 hW2 HW0 HB1 p3
 have HGG := hid (fun h => hG h)
 have HII := hid hI
 clear hG hI
 have hop := xoper_any b base s j1 SC a0 a1 al ng nl cap0 cap1 capl v2 (w1.setCell ⟨w.heap.size + 1, 1, none⟩ (.int .u8 c.toNat)) i bad1 c hnc hng hnl hs hR2 hv (fun h => ⟨(HGG.out h).1, (HGG.out h).2.but HW2.out.but (fun g e cur _ _ hg he => by omega)⟩) hb
 unfold itV at hop
 have HOP := hid hop
 clear hop
 go_wp2_with fail
 refine HOP.out.mono ?_
 rintro en w3 ⟨hB3, x, j3, b3, rfl, hR3, hO3⟩
 clear q0 q1 q2 q3 q4 f0 f1 f2 f3 f4 y0 y1 y2 y3 y4 g0 g1 g2 g3 g4
 have hW3 := HW2.out.next (by omega) (by omega) hB3
 obtain ⟨q0, q1, q2, q3, q4⟩ := row5 hW3.item
 obtain ⟨f0, f1, f2, f3, f4⟩ := froz5 hW3.item
 obtain ⟨y0, y1, y2, y3, y4⟩ := row5 hW3.box
 obtain ⟨g0, g1, g2, g3, g4⟩ := froz5 hW3.box
 have HWF := hid (hW3)
 have hRF := hR3
 go_wp2_with fail
 have h9b := put5_heap HWF.out.box (.int .i64 x.place) (.int .u8 x.op.toNat) (.int .u8 x.cls.toNat) (.int .i64 x.num) (.slice x.pa x.pn x.pc)
 have h9d := put5_but w3 w.heap.size (.int .i64 x.place) (.int .u8 x.op.toNat) (.int .u8 x.cls.toNat) (.int .i64 x.num) (.slice x.pa x.pn x.pc)
 unfold put5 at h9b h9d
 revert h9b h9d
 generalize ((((w3.setCell ⟨w.heap.size, 0, none⟩ (.int .i64 x.place)).setCell ⟨w.heap.size, 1, none⟩ (.int .u8 x.op.toNat)).setCell ⟨w.heap.size, 2, none⟩ (.int .u8 x.cls.toNat)).setCell ⟨w.heap.size, 3, none⟩ (.int .i64 x.num)).setCell ⟨w.heap.size, 4, none⟩ (.slice x.pa x.pn x.pc) = w9
 intro h9b h9d
 obtain ⟨r0, r1, r2, r3, r4⟩ := row5 h9b
 exact bodyPost_ret (v := .agg #[(.int .i64 x.place), (.int .u8 x.op.toNat), (.int .u8 x.cls.toNat), (.int .i64 x.num), (.slice x.pa x.pn x.pc)]) (by simp [results, Tryz.results199, go_sem, r0, r1, r2, r3, r4]) rfl ⟨HWF.out.but.next h9d (fun k hk h => by omega), x, j3, b3, rfl, hRF.but h9d (by omega), HII.out _ _ _ hO3⟩
theorem xnode_all (bad : Bool) (hG : bad = true ∨ (WfC SC ∧ TcV w base (.slice a0 SC.length cap0) (SC.map toX))) (hnc : SC.length ≤ 4) (hng : ng ≤ 3) (hnl : nl ≤ 10) (hs : s.size ≤ 2000)
  (hR : XrB w b s i bad (.slice a0 SC.length cap0) (.slice a1 ng cap1) v2) (hv : v2.hl = .slice al nl capl) (hb : b < base) :
  Calls Tryz.prog 199 #[.pointer (some ⟨b, 0, none⟩)] w fun en w' => But (· = b) w w' ∧ ∃ x j bad', en = .returned (itV x) ∧ XrB w' b s j bad' (.slice a0 SC.length cap0) (.slice a1 ng cap1) v2 ∧ NodR s SC ng nl i bad x j bad' := by
 by_cases hz : bad = true ∨ s.size ≤ i
 ·refine xnod_other b base s i SC a0 a1 al ng nl cap0 cap1 capl v2 w bad 0 i true (tbP_zero hz) (by decide) (fun x j bad' h => ?_) hnc hng hnl hs hR hv (fun h => by simp at h) hb
  rw [oper_end] at h
  obtain ⟨rfl, rfl, rfl⟩ := (by simpa using h : _ ∧ _ ∧ _)
  exact nod_end hz
 have hz' := not_or.1 hz
 have hbf : bad = false := by simpa using hz'.1
 subst hbf
 have hlt : i < s.size := by omega
 have hG' : WfC SC ∧ TcV w base (.slice a0 SC.length cap0) (SC.map toX) := by rcases hG with h | h; cases h; exact h
 by_cases ha : (pk s i).toNat = 114 ∨ (pk s i).toNat = 122 ∨ (pk s i).toNat = 43 ∨ (pk s i).toNat = 45 ∨ (pk s i).toNat = 42 ∨ (pk s i).toNat = 47 ∨ (pk s i).toNat = 60 ∨ (pk s i).toNat = 61 ∨ (pk s i).toNat = 101 ∨ (pk s i).toNat = 119 ∨ (pk s i).toNat = 44 ∨ (pk s i).toNat = 105 ∨ (pk s i).toNat = 111
 ·exact xnod_a b s i SC a0 a1 al ng nl cap0 cap1 capl v2 w _ ha hlt rfl hnc hng hnl hs hR hv
 by_cases hd : 48 ≤ (pk s i).toNat ∧ (pk s i).toNat ≤ 57
 ·exact xnod_d b s i SC a0 a1 al ng nl cap0 cap1 capl v2 w _ ((pk s i).toNat - 48) (by omega) (by omega) hlt rfl hnc hng hnl hs hR hv
 exact xnod_other b base s i SC a0 a1 al ng nl cap0 cap1 capl v2 w false (pk s i) (i + 1) false (tbP_ok hlt) (by omega) (fun x j bad' h => nod_oper hnc rfl (by omega) h) hnc hng hnl hs hR hv (fun _ => hG') hb
end
end Go.Proofs.YtpfkkmacakjmbaaGreatDoor
namespace Go.Proofs.YtpfkkmacakjmbaaGreatDoor
open Go
section
variable {P : Program} {ops : Array Oper} {Q : Exit → Act → World → Prop} {S : World → Prop} {p : Nat}
def has (n : Nat) (L : List Nat) : Array Bool := ((List.range n).map fun i => L.contains i).toArray
theorem has_set (n k : Nat) (L : List Nat) : (has n L).setIfInBounds k true = has n (k :: L) := by
 unfold has
 apply Array.ext
 ·simp
 ·intro i h1 h2
  by_cases h : k = i
  ·subst h; simp
  ·rw [Array.getElem_setIfInBounds_ne (by simpa using h1) h]
   have h' : ¬ i = k := fun e => h e.symm
   simp [h']
theorem has_nil (n : Nat) : Array.replicate n false = has n [] := by
 unfold has
 apply Array.ext
 ·simp
 ·intro i h1 h2; simp
def takeOkL (ops : Array Oper) (p : Nat) (L : List Nat) (k : Nat) : Bool :=
 decide (k < p) && Region.noSelect ops && Region.free .any ops (has ops.size L) k && (Region.ready .any ops (has ops.size L)).contains k &&
 (List.range ops.size).all fun j => decide (j < p) || match ops[j]? with
  | some oj => oj.after.any fun e => Region.binds .any e && e.on == k
  | none => true
def wpP (P : Program) (ops : Array Oper) (Q : Exit → Act → World → Prop) (S : World → Prop) (p : Nat) (L : List Nat) (a : Act) (w : World) : Prop :=
 wpTL P ops Q S p (ops.size - L.length) (has ops.size L) a w
theorem wpP_begin {id : Nat} {a : Act} {w : World} (S : World → Prop) (p : Nat) (hm : P.follows .mixedOrders = true) (h : wpP P ops Q S p [] a w.drew) : (Code.region id ops true).wp P Q a w := by
 refine wp_region_any hm (wpAny_of_TL (S := S) (p := p) _ _ _ _ ?_)
 rw [has_nil]
 exact h
theorem wpP_take {k : Nat} {L : List Nat} {o : Oper} {v : Value} {a : Act} {w : World} (ho : ops[k]? = some o) (hl : L.length < ops.size) (hc : takeOkL ops p L k = true)
  (hQ : ∀ c a w, Q (.panic c) (a.put o.dst v) w → Q (.panic c) a w)
  (hw : Region.wanted o (yielded ops a.tmps) = true) (hS : S w) (hy : ∀ w, S w → (execOp a.eval o).run P w = .ok (.value v) w) (h : wpP P ops Q S p (k :: L) (a.put o.dst v) w) : wpP P ops Q S p L a w := by
 unfold takeOkL at hc
 simp only [Bool.and_eq_true, decide_eq_true_eq, List.all_eq_true, List.mem_range] at hc
 obtain ⟨⟨⟨⟨hkp, hns⟩, hfr⟩, hrd⟩, hwt⟩ := hc
 unfold wpP at *
 rw [show ops.size - L.length = (ops.size - (k :: L).length) + 1 from by simp; omega]
 refine wpTL_first ho hkp (Region.noSelect_spec hns) ?_ hQ _ _ a w (Region.free_spec ho hfr) (by simpa using hrd) (Or.inl ⟨hw, hy⟩) hS (by rw [has_set]; exact h)
 intro j oj hj hpj
 have hjs : j < ops.size := (Array.getElem?_eq_some_iff.1 hj).1
 have := hwt j hjs
 rw [hj] at this
 simp only [Bool.or_eq_true, decide_eq_true_eq, Array.any_eq_true, Bool.and_eq_true, beq_iff_eq] at this
 rcases this with h1 | ⟨i, hi, h1, h2⟩
 ·omega
 ·exact ⟨oj.after[i], Array.getElem_mem hi, h1, h2⟩
theorem wpP_step {k : Nat} {L : List Nat} {o : Oper} {a : Act} {w : World} (ho : ops[k]? = some o) (hl : L.length < ops.size) (hr : Region.ready .any ops (has ops.size L) = [k])
  (h : ∀ K' : Act → World → Prop, Go.Shut (∀ a w, (k < p → S w) → wpP P ops Q S p (k :: L) a w → K' a w) → if Region.wanted o (yielded ops a.tmps) = true then Oper.wp P o a w K' Q else K' (a.put o.dst undef) w) : wpP P ops Q S p L a w := by
 unfold wpP
 rw [show ops.size - L.length = (ops.size - (k :: L).length) + 1 from by simp; omega]
 refine ⟨fun h => (by rw [hr] at h; cases h), fun i hi => ?_⟩
 rw [hr] at hi
 simp at hi
 subst hi
 exact wpOp_step ho (fun K' hK => h K' (fun a w hS hW => hK a w ⟨hS, by rw [has_set]; exact hW⟩))
theorem wpP_done {L : List Nat} {a : Act} {w : World} (hl : L.length = ops.size) (hr : Region.ready .any ops (has ops.size L) = []) (h : Q .normal a w) : wpP P ops Q S p L a w := by
 unfold wpP
 rw [hl, Nat.sub_self]
 exact ⟨hr, h⟩
end
end Go.Proofs.YtpfkkmacakjmbaaGreatDoor
namespace Go.Proofs.YtpfkkmacakjmbaaGreatDoor
open Go Go.RowKit Sp
set_option linter.unusedSimpArgs false
set_option linter.unusedVariables false
attribute [local go_sem ↓] Go.wp_at_zero Go.wp_at_succ
theorem info_xbod : (Tryz.prog.info? 115).map (fun i => (i.zero, i.size, i.bytes)) = some (some (.agg #[.int .u8 0, .int .i64 0, .int .u8 0, .slice none 0 0, .slice none 0 0]), 5, 72) := by kernel_rfl
theorem info_xit : (Tryz.prog.info? 219).map (fun i => (i.zero, i.size, i.bytes)) = some (some (.agg #[.int .i64 0, .int .u8 0, .int .u8 0, .int .i64 0, .slice none 0 0]), 5, 48) := by kernel_rfl
theorem itCells_one (l : List XIt) : ∀ u ∈ itCells l, u.oneCell' = true := by
 intro u hu
 obtain ⟨x, _, hx⟩ := List.mem_flatMap.1 hu
 simp only [List.mem_cons, List.not_mem_nil, or_false] at hx
 rcases hx with h | h | h | h | h <;> (rw [h]; rfl)
theorem run_copy_its (w : World) (ty : TypeId) (base bx : Nat) (v xv : Value) (m : List XIt) (hown : ItB w base v []) (hx : ItB w bx xv m) (hlen : m.length ≤ 100000) (hbase : base ≤ w.heap.size) :
  ∃ v' w', (Builtin.append_ #[113, 113] ty #[v, xv]).run Tryz.prog w = .ok v' w' ∧ ItB w' base v' m ∧ But (fun k => v.ownBlock = some k) w w' ∧ (v'.ownBlock = v.ownBlock ∨ v'.ownBlock = some w.heap.size) := by
 obtain ⟨i0, hi0, hz0, hz1, hz2⟩ := info_parts info_xit
 have hu : Tryz.prog.underlying 113 = some (.slice 219) := by kernel_rfl
 obtain ⟨ax, cx, rfl⟩ := owns_len hx
 cases ax with
 | none =>
  have hm : m.length = 0 := by
   rcases Nat.eq_zero_or_pos m.length with h | h
   ·exact h
   ·obtain ⟨g, hg, _⟩ := owns_two hx h
    cases hg
  have hm0 : m = [] := List.length_eq_zero_iff.1 hm
  subst hm0
  have hc : ∃ ao cap, v = .slice ao 0 cap := by
   obtain ⟨ao, cap, h⟩ := owns_len hown
   exact ⟨ao, cap, h⟩
  obtain ⟨ao, cap, rfl⟩ := hc
  refine ⟨_, w, run_append_nothing w _ _ ty 219 i0 hu hi0 ao 0 cap (by omega) _ (by rw [hz1]; exact Src.ofNil w hu cx), hown, But.refl _ _, Or.inl rfl⟩
 | some ad =>
  have hcell : ∀ j u, (itCells m)[j]? = some u → w.cell? (ad.add j) = some u := by
   intro j u hj
   obtain ⟨g, cap', hv, hc, _⟩ := owns_cell hx hj
   have h1 : ad = ⟨g, 0, none⟩ := by
    have h2 := congrArg (fun v => match v with | Value.slice a _ _ => a | _ => none) hv
    exact Option.some.inj h2
   rw [h1]
   have e : (⟨g, 0, none⟩ : Addr).add j = ⟨g, j, none⟩ := by simp [Addr.add]; exact fun h => h.symm
   rw [e]
   exact hc
  obtain ⟨v', w', hr, h2, h3, _, h5⟩ := run_append_own_at (P := Tryz.prog) w base _ ty 219 i0 _ 5 48 hu hi0 hz0 hz1 hz2 rfl (by omega) v 0 (itCells []) hown ad m.length cx (itCells m) (itCells_len m) hcell (itCells_one m) (by unfold maxLen; omega) (by omega) hbase
  refine ⟨v', w', hr, ?_, but_grown h3, h5⟩
  unfold ItB
  rw [Nat.zero_add] at h2
  exact h2
theorem wpList_copy_its {w : World} {ops : Array Oper} {rest : List Oper} {o : Oper} {a : Act} {Q : Exit → Act → World → Prop} (hgd : o.guard = none) (s x : Operand)
  (ho : o.op = .call { callee := .builtin .append, args := #[s, x], argTypes := #[113, 113] }) (base bx : Nat) (v xv : Value) (m : List XIt) (hs : a.eval s = v) (hx : a.eval x = xv) (hown : ItB w base v []) (hxo : ItB w bx xv m) (hlen : m.length ≤ 100000) (hbase : base ≤ w.heap.size)
  (h : ∀ ao cap w', ItB w' base (.slice ao m.length cap) m → But (fun k => v.ownBlock = some k) w w' → wpList Tryz.prog ops Q rest (a.put o.dst (.slice ao m.length cap)) w') : wpList Tryz.prog ops Q (o :: rest) a w := by
 refine wpList_plain hgd fun K hK => ?_
 obtain ⟨v', w', hr, h1, h2, h3⟩ := run_copy_its w o.type base bx v xv m hown hxo hlen hbase
 obtain ⟨ao, cap, rfl⟩ := owns_len h1
 unfold Oper.wp execOp
 simp only [ho, resolve, invoke, builtin, Sem.run_bind, Sem.run_pure, Result.andThen_ok, List.map_toArray, List.map_cons, List.map_nil, hs, hx, hr]
 exact hK _ _ (h ao cap w' h1 h2)
theorem ItB.empty (w : World) : ItB (w.alloc (.cells #[] 219)) w.heap.size (.slice (some ⟨w.heap.size, 0, none⟩) 0 0) [] :=
 ⟨rfl, Or.inr ⟨w.heap.size, 0, #[], rfl, Nat.le_refl _, heap_alloc_new w _, by simp, by unfold maxLen; omega, rfl, rfl⟩⟩
theorem xendBody_any (b base bx : Nat) (s : ByteArray) (i : Nat) (bad mn : Bool) (v0 v1 vi : Value) (a2 : Option Addr) (cap2 : Nat) (bs : List XBod) (X : XBod) (al ai : Option Addr) (capl capi : Nat) (w : World) (hnb : bs.length ≤ 7) (hni : X.items.length ≤ 100) (hs : s.size ≤ 2000)
  (hR : XrB w b s i bad v0 v1 ⟨.slice a2 bs.length cap2, .int .u8 X.cls.toNat, .int .i64 X.meth, .int .u8 X.ans.toNat, .slice al X.locals.length capl, vi, mn⟩) (hT : TbV w base (.slice a2 bs.length cap2) bs) (hl : BtB w base (.slice al X.locals.length capl) X.locals) (hi : ItB w bx (.slice ai X.items.length capi) X.items) (hb : b < base) (hbx : b < bx) (hbase : base ≤ w.heap.size) :
  Calls Tryz.prog 102 #[.pointer (some ⟨b, 0, none⟩), .slice ai X.items.length capi] w fun en w' => en = .returned (.tuple #[]) ∧ But (fun k => k = b ∨ (Value.slice a2 bs.length cap2).ownBlock = some k) w w' ∧
   ∃ a2' cap2' vi', XrB w' b s (tkP s 46 i bad).1 (tkP s 46 i bad).2 v0 v1 ⟨.slice a2' (bs ++ [X]).length cap2', .int .u8 X.cls.toNat, .int .i64 X.meth, .int .u8 X.ans.toNat, .slice al X.locals.length capl, vi', mn⟩ ∧ TbV w' base (.slice a2' (bs ++ [X]).length cap2') (bs ++ [X]) := by
 obtain ⟨i0, hi0, hz0, hz1, hz2⟩ := info_parts info_xbod
 obtain ⟨l, hO, hm, hf⟩ := hT
 have hll : l.length = bs.length := by rw [← hm]; simp
 have HLL := hid hll
 rw [← hll] at hR hO hnb ⊢
 clear hll
 have hbw := hR.lt
 have htk := xtake_any b s i bad _ _ _ _ 46 (by decide) hs hR
 obtain ⟨TK, hTK⟩ : ∃ TK, tkP s 46 i bad = TK := ⟨_, rfl⟩
 rw [hTK] at htk ⊢
 clear hTK
 obtain ⟨j1, bad1⟩ := TK
 dsimp only at htk ⊢
 have HTK := hid htk
 clear htk
 go_enter Tryz.func102, Tryz.ntmps102
 go_wp2_with fail
 refine HTK.out.mono ?_
 rintro en w1 ⟨rfl, hB1, hR1⟩
 have hI1 : ItB w1 bx (.slice ai X.items.length capi) X.items := owns_but hi hB1 (fun g hg h => by have := owns_ge hi g hg; omega)
 have hz1' := hB1.size
 have hE := ItB.empty w1
 have hR1e := hR1.but (But.alloc (fun _ => False) w1 (.cells #[] 219)) (fun h => h)
 go_wp2_with (at_builtin; refine wpList_copy_its rfl _ _ rfl w1.heap.size bx _ _ X.items rfl rfl hE (owns_but hI1 (But.alloc (fun _ => False) _ _) (fun _ _ h => h)) (by omega) (by simp) ?_)
 intro ao cap w2 hI2 hB2
 have hB12 : But (fun _ => False) w1 w2 := (But.alloc (fun _ => False) _ _).next hB2 (fun k hk h => by simp [Value.ownBlock] at h; omega)
 have hR2 := hR1.but hB12 (fun h => h)
 have c7 := hR2.d4
 have g7 := hR2.fz 7
 have hz2' := hB12.size
 clear hI1 hE hR1e
 go_wp2_with fail
 have hR3 := hR2.setI (.slice ao X.items.length cap)
 have hB23 : But (· = b) w2 (w2.setCell ⟨b, 7, none⟩ (.slice ao X.items.length cap)) := But.setB _ _ _ _
 have hI3 : ItB (w2.setCell ⟨b, 7, none⟩ (.slice ao X.items.length cap)) w1.heap.size (.slice ao X.items.length cap) X.items := owns_but hI2 hB23 (fun g hg h => by have := owns_ge hI2 g hg; omega)
 have hBW : But (· = b) w (w2.setCell ⟨b, 7, none⟩ (.slice ao X.items.length cap)) := (hB1.next hB12 (fun _ _ h => h.elim)).trans hB23
 revert hR3 hI3 hBW
 generalize (w2.setCell ⟨b, 7, none⟩ (.slice ao X.items.length cap)) = W
 intro hRW hI3 hBW
 have hiW : ItB W base (.slice ao X.items.length cap) X.items := World.ownsRow.mono hI3 (by omega)
 clear hB23 hI3 hI2 hB2 c7 g7 hR2 hR1 hi
 dsimp only at hRW
 have hOW := owns_but hO hBW (fun g hg h => by have := owns_ge hO g hg; omega)
 have hlt := owns_lt hO
 have e2 := hRW.c2
 have e3 := hRW.d0
 have e4 := hRW.d1
 have e5 := hRW.d2
 have e6 := hRW.d3
 have e7 := hRW.d4
 have g2 := hRW.fz 2
 have bltW := hRW.lt
 dsimp only at e2 e3 e4 e5 e6 e7
 have ab : (Value.slice a2 l.length cap2).ownBlock ≠ some b := fun h => by have := owns_ge hO _ h; omega
 have hS0 : But (fun k => (Value.slice a2 l.length cap2).ownBlock = some k) W W.drew := But.drew _ _
 have hbW : base ≤ W.heap.size := by have := hBW.size; omega
 have HM := hid hm
 clear hm HTK
 refine wpTx_begin (But (fun k => (Value.slice a2 l.length cap2).ownBlock = some k) W) 12 (by kernel_rfl) ?_
 have fSA := hid (fun wS (h : (But (fun k => (Value.slice a2 l.length cap2).ownBlock = some k) W) wS) => (And.intro ((h.cell (p := ⟨b, 2, none⟩) bltW ab).trans e2) (And.intro ((h.cell (p := ⟨b, 3, none⟩) bltW ab).trans e3) (And.intro ((h.cell (p := ⟨b, 4, none⟩) bltW ab).trans e4) (And.intro ((h.cell (p := ⟨b, 5, none⟩) bltW ab).trans e5) (And.intro ((h.cell (p := ⟨b, 6, none⟩) bltW ab).trans e6) ((h.cell (p := ⟨b, 7, none⟩) bltW ab).trans e7)))))))
 iterate 10 (refine wpTx_take (v := ?_) rfl (by kernel_rfl) (fun _ _ _ h => h) rfl hS0 ?_ ?_; rotate_left; (focus (intro wS h; obtain ⟨q0, q1, q2, q3, q4, q5⟩ := fSA.out wS h; clear h; go_simp; try rfl)); dsimp only [Act.put]; try simp only [puts])
 try clear fSA
 refine wpTx_step rfl (by kernel_rfl) ?_
 intro KS hKS
 go_simp
 refine hKS.out _ _ (fun _ => (But.alloc _ _ _).trans (But.drew _ _)) ?_
 clear hKS KS
 refine wpTx_step rfl (by kernel_rfl) ?_
 intro KS hKS
 refine step_append_lies _ (by rfl) _ _ _ (by rfl) base 115 i0 _ 5 72 (by kernel_rfl) hi0 hz0 hz1 hz2 rfl (by omega) _ l.length (xbCells l) (by rfl) ((hOW.alloc _).drew)
    ⟨W.heap.size, 0, none⟩ 1 1 [.int .u8 X.cls.toNat, .int .i64 X.meth, .int .u8 X.ans.toNat, .slice al X.locals.length capl, .slice ao X.items.length cap] (by rfl) (by rfl) (World.news_of_block (cs := #[.int .u8 X.cls.toNat, .int .i64 X.meth, .int .u8 X.ans.toNat, .slice al X.locals.length capl, .slice ao X.items.length cap]) (t := 115) (fr := (0, 0)) (heap_alloc_new W _)) (by simp [Value.oneCell'])
    (by omega) (by unfold maxLen; omega) (by omega) (by simp; omega) (W.heap.size + 1) (by simp) ?_
 intro gg cap3 w4 hown2 hgrow hat hlt2
 have hSW : But (fun k => (Value.slice a2 l.length cap2).ownBlock = some k) W w4 := ((But.alloc _ _ _).trans (But.drew _ _)).trans (but_grown hgrow)
 refine hKS.out _ _ (fun _ => hSW) ?_
 clear hKS KS
 have y0 := (hSW.cell (p := ⟨b, 2, none⟩) bltW ab).trans e2
 have y1 := (hSW.frozen (p := ⟨b, 2, none⟩) bltW ab).trans g2
 refine wpTx_step rfl (by kernel_rfl) ?_
 intro KS hKS
 go_simp
 refine hKS.out _ _ (fun h => absurd h (by decide)) ?_
 clear hKS KS
 refine wpTx_step rfl (by kernel_rfl) ?_
 intro KS hKS
 go_simp
 refine hKS.out _ _ (fun h => absurd h (by decide)) ?_
 clear hKS KS
 refine wpTx_step rfl (by kernel_rfl) ?_
 intro KS hKS
 go_simp
 refine hKS.out _ _ (fun h => absurd h (by decide)) ?_
 clear hKS KS
 refine wpTx_step rfl (by kernel_rfl) ?_
 intro KS hKS
 go_simp
 refine hKS.out _ _ (fun h => absurd h (by decide)) ?_
 clear hKS KS
 refine wpTx_done rfl (by kernel_rfl) ?_
 have hgg := owns_ge hown2 gg rfl
 have hR3 := (hRW.but hSW ab).set2 (.slice (some ⟨gg, 0, none⟩) (l.length + 1) cap3)
 have hBW3 : But (fun k => k = b ∨ (Value.slice a2 l.length cap2).ownBlock = some k) W (w4.setCell ⟨b, 2, none⟩ (.slice (some ⟨gg, 0, none⟩) (l.length + 1) cap3)) := (hSW.mono (fun _ _ h => Or.inr h)).next (But.setB _ _ _ _) (fun _ _ h => Or.inl h)
 have hO3 := owns_but hown2 (But.setB w4 b 2 (.slice (some ⟨gg, 0, none⟩) (l.length + 1) cap3)) (fun g hg h => by have := owns_ge hown2 g hg; omega)
 have hF3 : ∀ x ∈ l ++ [(X, .slice al X.locals.length capl, .slice ao X.items.length cap)], BtB (w4.setCell ⟨b, 2, none⟩ (.slice (some ⟨gg, 0, none⟩) (l.length + 1) cap3)) base x.2.1 x.1.locals ∧ ItB (w4.setCell ⟨b, 2, none⟩ (.slice (some ⟨gg, 0, none⟩) (l.length + 1) cap3)) base x.2.2 x.1.items := by
  have hoff : ∀ g cur e, W.heap[g]? = some (.cells cur e) → e ≠ 115 → base ≤ g → ¬ (g = b ∨ (Value.slice a2 l.length cap2).ownBlock = some g) := by
   intro g cur e hh he hg h
   rcases h with h | h
   ·omega
   ·exact owns_apart hOW hh he h
  intro x hx
  rcases List.mem_append.1 hx with hx | hx
  ·have h1 := hf x hx
   exact ⟨owns_off (BtB.but h1.1 hBW (fun g hg h => by have := owns_ge h1.1 g hg; omega)) hBW3 (fun g cur hh hg => hoff g cur _ hh (by decide) hg), owns_off (owns_but h1.2 hBW (fun g hg h => by have := owns_ge h1.2 g hg; omega)) hBW3 (fun g cur hh hg => hoff g cur _ hh (by decide) hg)⟩
  ·simp at hx
   subst hx
   exact ⟨owns_off (hl.but hBW (fun g hg h => by have := owns_ge hl g hg; omega)) hBW3 (fun g cur hh hg => hoff g cur _ hh (by decide) hg), owns_off hiW hBW3 (fun g cur hh hg => hoff g cur _ hh (by decide) hg)⟩
 have hC3 : TbV (w4.setCell ⟨b, 2, none⟩ (.slice (some ⟨gg, 0, none⟩) (l.length + 1) cap3)) base (.slice (some ⟨gg, 0, none⟩) (l.length + 1) cap3) (bs ++ [X]) :=
  ⟨l ++ [(X, .slice al X.locals.length capl, .slice ao X.items.length cap)], by rw [xbCells_snoc, List.length_append]; exact hO3, by rw [List.map_append, HM.out]; rfl, hF3⟩
 have hB3 : But (fun k => k = b ∨ (Value.slice a2 l.length cap2).ownBlock = some k) w (w4.setCell ⟨b, 2, none⟩ (.slice (some ⟨gg, 0, none⟩) (l.length + 1) cap3)) := (hBW.mono (fun _ _ h => Or.inl h)).trans hBW3
 clear hF3 hBW3 hO3
 generalize (w4.setCell ⟨b, 2, none⟩ (.slice (some ⟨gg, 0, none⟩) (l.length + 1) cap3)) = W3 at *
 clear y0 y1 e2 e3 e4 e5 e6 e7 g2 hSW hgrow
 have hlen : (bs ++ [X]).length = l.length + 1 := by rw [List.length_append, ← HLL.out]; rfl
 have HLN := hid hlen
 clear hlen
 dsimp only at hR3
 go_wp2_with fail
 go_end0
 refine ⟨rfl, hB3, some ⟨gg, 0, none⟩, cap3, .slice ao X.items.length cap, ?_⟩
 rw [HLN.out]
 exact ⟨hR3, hC3⟩
end Go.Proofs.YtpfkkmacakjmbaaGreatDoor
