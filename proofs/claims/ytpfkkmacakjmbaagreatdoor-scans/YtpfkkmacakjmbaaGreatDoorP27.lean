import Derived.Test.YtpfkkmacakjmbaaGreatDoorP23
import Derived.Test.YtpfkkmacakjmbaaGreatDoorP02
/- The program's reading of a node. Laid by wip/mk/noa.py. -/
namespace Go.Proofs.YtpfkkmacakjmbaaGreatDoor
open Go Go.RowKit Sp
set_option linter.unusedSimpArgs false
set_option linter.unusedVariables false
attribute [local go_sem ↓] Go.wp_at_zero Go.wp_at_succ
/-- A node as the program holds it, before its parts are known: a digit is a k. -/
def toXN (x : Ins) : XIt := if isDigit x.op = true then ⟨x.pos, 107, 45, x.b, none, 0, 0⟩ else toXI x
def nodB (s : ByteArray) (cs : List Cls) (ns nl i : Nat) (bad : Bool) : Except Nat (Ins × Nat) := if bad = true then .error i else nodP s cs ns nl i
def NodR (s : ByteArray) (cs : List Cls) (ns nl i : Nat) (bad : Bool) (x : XIt) (j : Nat) (bad' : Bool) : Prop :=
 (bad' = false ∧ ∃ y, nodB s cs ns nl i bad = .ok (y, j) ∧ x = toXN y) ∨ (bad' = true ∧ nodB s cs ns nl i bad = .error j)
section
variable {s : ByteArray} {cs : List Cls} {ns nl i : Nat}
theorem nod_end {bad : Bool} {x : XIt} (h : bad = true ∨ s.size ≤ i) : NodR s cs ns nl i bad x i true := by
 right
 refine ⟨rfl, ?_⟩
 unfold nodB
 cases bad with
 | true => rfl
 | false =>
  rcases h with h | h
  ·cases h
  ·simp only [Bool.false_eq_true, if_false]
   unfold nodP
   rw [pk_end h]
   rfl
theorem nod_no {x : XIt} (h : nodeLetters.contains (pk s i).toNat = false) : NodR s cs ns nl i false x i true := by
 right
 refine ⟨rfl, ?_⟩
 simp only [nodB, Bool.false_eq_true, if_false, nodP, h]
theorem nod_alone {c : UInt8} (hc : pk s i = c) (hl : nodeLetters.contains c.toNat = true) (hd : isDigit c = false) (h : operP s cs ns nl c.toNat (i + 1) = .ok (0, 0, i + 1)) (hn : ¬ (c.toNat = 110 ∨ c.toNat = 120 ∨ c.toNat = 103 ∨ c.toNat = 112 ∨ c.toNat = 99)) : NodR s cs ns nl i false ⟨i, c, 45, 0, none, 0, 0⟩ (i + 1) false := by
 left
 refine ⟨rfl, ⟨c, 0, 0, i⟩, ?_, ?_⟩
 ·simp only [nodB, Bool.false_eq_true, if_false, nodP, hc, hl, if_true, h, hd]
 ·unfold toXN toXI
  simp only [hd, Bool.false_eq_true, if_false, if_neg hn]
theorem nod_digit {c : UInt8} (hc : pk s i = c) (hl : nodeLetters.contains c.toNat = true) (hd : isDigit c = true) (h : operP s cs ns nl c.toNat (i + 1) = .ok (0, 0, i + 1)) : NodR s cs ns nl i false ⟨i, 107, 45, c.toNat - 48, none, 0, 0⟩ (i + 1) false := by
 left
 refine ⟨rfl, ⟨c, 0, c.toNat - 48, i⟩, ?_, ?_⟩
 ·simp only [nodB, Bool.false_eq_true, if_false, nodP, hc, hl, if_true, h, hd]
 ·unfold toXN
  simp only [hd, if_true]
theorem nod_ins {c : UInt8} (hc : pk s i = c) (h : c.toNat = 108 ∨ c.toNat = 115 ∨ c.toNat = 110 ∨ c.toNat = 120 ∨ c.toNat = 103 ∨ c.toNat = 112 ∨ c.toNat = 99) {x : XIt} {j : Nat} {bad' : Bool} (hI : InsR s cs ns nl i false x j bad') : NodR s cs ns nl i false x j bad' := by
 have hl : letters.contains c.toNat = true := by rcases h with h | h | h | h | h | h | h <;> (rw [h]; decide)
 have hl2 : nodeLetters.contains c.toNat = true := by rcases h with h | h | h | h | h | h | h <;> (rw [h]; decide)
 have hd : isDigit c = false := by rcases h with h | h | h | h | h | h | h <;> simp [isDigit, h]
 unfold InsR insB insP at hI
 unfold NodR nodB nodP
 simp only [Bool.false_eq_true, if_false, hc, hl, hl2, if_true, hd] at hI ⊢
 rcases hI with ⟨h1, y, h2, h3⟩ | ⟨h1, h2⟩
 ·left
  refine ⟨h1, y, ?_, ?_⟩
  ·rw [← h2]
   cases operP s cs ns nl c.toNat (i + 1) <;> rfl
  ·rw [h3]
   have hy : y.op = c := by
    cases ho : operP s cs ns nl c.toNat (i + 1) with
    | error q => rw [ho] at h2; cases h2
    | ok q => rw [ho] at h2; cases h2; rfl
   unfold toXN
   rw [hy, hd]
   simp
 ·right
  refine ⟨h1, ?_⟩
  rw [← h2]
  cases operP s cs ns nl c.toNat (i + 1) <;> rfl
theorem nod_oper {c : UInt8} {x : XIt} {j : Nat} {bad' : Bool} (hnc : cs.length ≤ 4) (hpc : pk s i = c) (hn : ¬ (c.toNat = 114 ∨ c.toNat = 122 ∨ c.toNat = 43 ∨ c.toNat = 45 ∨ c.toNat = 42 ∨ c.toNat = 47 ∨ c.toNat = 60 ∨ c.toNat = 61 ∨ c.toNat = 101 ∨ c.toNat = 119 ∨ c.toNat = 44 ∨ c.toNat = 105 ∨ c.toNat = 111 ∨ c.toNat = 48 ∨ c.toNat = 49 ∨ c.toNat = 50 ∨ c.toNat = 51 ∨ c.toNat = 52 ∨ c.toNat = 53 ∨ c.toNat = 54 ∨ c.toNat = 55 ∨ c.toNat = 56 ∨ c.toNat = 57))
  (h : operX s cs ns nl i c (i + 1) false = (x, j, bad')) : NodR s cs ns nl i false x j bad' := by
 by_cases h1 : c.toNat = 108 ∨ c.toNat = 115 ∨ c.toNat = 110 ∨ c.toNat = 120 ∨ c.toNat = 103 ∨ c.toNat = 112 ∨ c.toNat = 99
 ·exact nod_ins hpc h1 (ins_oper hnc hpc (by omega) h)
 ·unfold operX at h
  rw [if_neg (by omega), if_neg (by omega), if_neg (by omega), if_neg (by omega)] at h
  obtain ⟨rfl, rfl, rfl⟩ := (by simpa using h : _ ∧ _ ∧ _)
  try simp only [Bool.false_eq_true, if_false]
  refine nod_no ?_
  rw [hpc]
  simp only [nodeLetters, List.contains_eq_mem, List.mem_cons, List.not_mem_nil, or_false, decide_eq_false_iff_not]
  omega
end
set_option maxHeartbeats 800000 in
theorem countParts_any (c : UInt8) (w : World) :
  Calls Tryz.prog 200 #[.int .u8 c.toNat] w fun en w' => en = .returned (.int .i64 (arity c)) ∧ w' = w := by
 by_cases h103 : c.toNat = 103
 ·rw [show arity c = 1 from by simp [arity, h103]]
  have e103 : ((c.toNat : Int) == 103) = true := by rw [beq_iff_eq]; omega
  clear h103
  go_enter Tryz.func200, Tryz.ntmps200
  go_wp2_with fail
  go_ret
  exact ⟨rfl, rfl⟩
 by_cases h120 : c.toNat = 120
 ·rw [show arity c = 1 from by simp [arity, h120]]
  have e103 : ((c.toNat : Int) == 103) = false := by rw [beq_eq_false_iff_ne]; omega
  have e120 : ((c.toNat : Int) == 120) = true := by rw [beq_iff_eq]; omega
  clear h103 h120
  go_enter Tryz.func200, Tryz.ntmps200
  go_wp2_with fail
  go_ret
  exact ⟨rfl, rfl⟩
 by_cases h115 : c.toNat = 115
 ·rw [show arity c = 1 from by simp [arity, h115]]
  have e103 : ((c.toNat : Int) == 103) = false := by rw [beq_eq_false_iff_ne]; omega
  have e120 : ((c.toNat : Int) == 120) = false := by rw [beq_eq_false_iff_ne]; omega
  have e115 : ((c.toNat : Int) == 115) = true := by rw [beq_iff_eq]; omega
  clear h103 h120 h115
  go_enter Tryz.func200, Tryz.ntmps200
  go_wp2_with fail
  go_ret
  exact ⟨rfl, rfl⟩
 by_cases h119 : c.toNat = 119
 ·rw [show arity c = 1 from by simp [arity, h119]]
  have e103 : ((c.toNat : Int) == 103) = false := by rw [beq_eq_false_iff_ne]; omega
  have e120 : ((c.toNat : Int) == 120) = false := by rw [beq_eq_false_iff_ne]; omega
  have e115 : ((c.toNat : Int) == 115) = false := by rw [beq_eq_false_iff_ne]; omega
  have e119 : ((c.toNat : Int) == 119) = true := by rw [beq_iff_eq]; omega
  clear h103 h120 h115 h119
  go_enter Tryz.func200, Tryz.ntmps200
  go_wp2_with fail
  go_ret
  exact ⟨rfl, rfl⟩
 by_cases h43 : c.toNat = 43
 ·rw [show arity c = 2 from by simp [arity, h43]]
  have e103 : ((c.toNat : Int) == 103) = false := by rw [beq_eq_false_iff_ne]; omega
  have e120 : ((c.toNat : Int) == 120) = false := by rw [beq_eq_false_iff_ne]; omega
  have e115 : ((c.toNat : Int) == 115) = false := by rw [beq_eq_false_iff_ne]; omega
  have e119 : ((c.toNat : Int) == 119) = false := by rw [beq_eq_false_iff_ne]; omega
  have e43 : ((c.toNat : Int) == 43) = true := by rw [beq_iff_eq]; omega
  clear h103 h120 h115 h119 h43
  go_enter Tryz.func200, Tryz.ntmps200
  go_wp2_with fail
  go_ret
  exact ⟨rfl, rfl⟩
 by_cases h45 : c.toNat = 45
 ·rw [show arity c = 2 from by simp [arity, h45]]
  have e103 : ((c.toNat : Int) == 103) = false := by rw [beq_eq_false_iff_ne]; omega
  have e120 : ((c.toNat : Int) == 120) = false := by rw [beq_eq_false_iff_ne]; omega
  have e115 : ((c.toNat : Int) == 115) = false := by rw [beq_eq_false_iff_ne]; omega
  have e119 : ((c.toNat : Int) == 119) = false := by rw [beq_eq_false_iff_ne]; omega
  have e43 : ((c.toNat : Int) == 43) = false := by rw [beq_eq_false_iff_ne]; omega
  have e45 : ((c.toNat : Int) == 45) = true := by rw [beq_iff_eq]; omega
  clear h103 h120 h115 h119 h43 h45
  go_enter Tryz.func200, Tryz.ntmps200
  go_wp2_with fail
  go_ret
  exact ⟨rfl, rfl⟩
 by_cases h42 : c.toNat = 42
 ·rw [show arity c = 2 from by simp [arity, h42]]
  have e103 : ((c.toNat : Int) == 103) = false := by rw [beq_eq_false_iff_ne]; omega
  have e120 : ((c.toNat : Int) == 120) = false := by rw [beq_eq_false_iff_ne]; omega
  have e115 : ((c.toNat : Int) == 115) = false := by rw [beq_eq_false_iff_ne]; omega
  have e119 : ((c.toNat : Int) == 119) = false := by rw [beq_eq_false_iff_ne]; omega
  have e43 : ((c.toNat : Int) == 43) = false := by rw [beq_eq_false_iff_ne]; omega
  have e45 : ((c.toNat : Int) == 45) = false := by rw [beq_eq_false_iff_ne]; omega
  have e42 : ((c.toNat : Int) == 42) = true := by rw [beq_iff_eq]; omega
  clear h103 h120 h115 h119 h43 h45 h42
  go_enter Tryz.func200, Tryz.ntmps200
  go_wp2_with fail
  go_ret
  exact ⟨rfl, rfl⟩
 by_cases h47 : c.toNat = 47
 ·rw [show arity c = 2 from by simp [arity, h47]]
  have e103 : ((c.toNat : Int) == 103) = false := by rw [beq_eq_false_iff_ne]; omega
  have e120 : ((c.toNat : Int) == 120) = false := by rw [beq_eq_false_iff_ne]; omega
  have e115 : ((c.toNat : Int) == 115) = false := by rw [beq_eq_false_iff_ne]; omega
  have e119 : ((c.toNat : Int) == 119) = false := by rw [beq_eq_false_iff_ne]; omega
  have e43 : ((c.toNat : Int) == 43) = false := by rw [beq_eq_false_iff_ne]; omega
  have e45 : ((c.toNat : Int) == 45) = false := by rw [beq_eq_false_iff_ne]; omega
  have e42 : ((c.toNat : Int) == 42) = false := by rw [beq_eq_false_iff_ne]; omega
  have e47 : ((c.toNat : Int) == 47) = true := by rw [beq_iff_eq]; omega
  clear h103 h120 h115 h119 h43 h45 h42 h47
  go_enter Tryz.func200, Tryz.ntmps200
  go_wp2_with fail
  go_ret
  exact ⟨rfl, rfl⟩
 by_cases h60 : c.toNat = 60
 ·rw [show arity c = 2 from by simp [arity, h60]]
  have e103 : ((c.toNat : Int) == 103) = false := by rw [beq_eq_false_iff_ne]; omega
  have e120 : ((c.toNat : Int) == 120) = false := by rw [beq_eq_false_iff_ne]; omega
  have e115 : ((c.toNat : Int) == 115) = false := by rw [beq_eq_false_iff_ne]; omega
  have e119 : ((c.toNat : Int) == 119) = false := by rw [beq_eq_false_iff_ne]; omega
  have e43 : ((c.toNat : Int) == 43) = false := by rw [beq_eq_false_iff_ne]; omega
  have e45 : ((c.toNat : Int) == 45) = false := by rw [beq_eq_false_iff_ne]; omega
  have e42 : ((c.toNat : Int) == 42) = false := by rw [beq_eq_false_iff_ne]; omega
  have e47 : ((c.toNat : Int) == 47) = false := by rw [beq_eq_false_iff_ne]; omega
  have e60 : ((c.toNat : Int) == 60) = true := by rw [beq_iff_eq]; omega
  clear h103 h120 h115 h119 h43 h45 h42 h47 h60
  go_enter Tryz.func200, Tryz.ntmps200
  go_wp2_with fail
  go_ret
  exact ⟨rfl, rfl⟩
 by_cases h61 : c.toNat = 61
 ·rw [show arity c = 2 from by simp [arity, h61]]
  have e103 : ((c.toNat : Int) == 103) = false := by rw [beq_eq_false_iff_ne]; omega
  have e120 : ((c.toNat : Int) == 120) = false := by rw [beq_eq_false_iff_ne]; omega
  have e115 : ((c.toNat : Int) == 115) = false := by rw [beq_eq_false_iff_ne]; omega
  have e119 : ((c.toNat : Int) == 119) = false := by rw [beq_eq_false_iff_ne]; omega
  have e43 : ((c.toNat : Int) == 43) = false := by rw [beq_eq_false_iff_ne]; omega
  have e45 : ((c.toNat : Int) == 45) = false := by rw [beq_eq_false_iff_ne]; omega
  have e42 : ((c.toNat : Int) == 42) = false := by rw [beq_eq_false_iff_ne]; omega
  have e47 : ((c.toNat : Int) == 47) = false := by rw [beq_eq_false_iff_ne]; omega
  have e60 : ((c.toNat : Int) == 60) = false := by rw [beq_eq_false_iff_ne]; omega
  have e61 : ((c.toNat : Int) == 61) = true := by rw [beq_iff_eq]; omega
  clear h103 h120 h115 h119 h43 h45 h42 h47 h60 h61
  go_enter Tryz.func200, Tryz.ntmps200
  go_wp2_with fail
  go_ret
  exact ⟨rfl, rfl⟩
 by_cases h101 : c.toNat = 101
 ·rw [show arity c = 2 from by simp [arity, h101]]
  have e103 : ((c.toNat : Int) == 103) = false := by rw [beq_eq_false_iff_ne]; omega
  have e120 : ((c.toNat : Int) == 120) = false := by rw [beq_eq_false_iff_ne]; omega
  have e115 : ((c.toNat : Int) == 115) = false := by rw [beq_eq_false_iff_ne]; omega
  have e119 : ((c.toNat : Int) == 119) = false := by rw [beq_eq_false_iff_ne]; omega
  have e43 : ((c.toNat : Int) == 43) = false := by rw [beq_eq_false_iff_ne]; omega
  have e45 : ((c.toNat : Int) == 45) = false := by rw [beq_eq_false_iff_ne]; omega
  have e42 : ((c.toNat : Int) == 42) = false := by rw [beq_eq_false_iff_ne]; omega
  have e47 : ((c.toNat : Int) == 47) = false := by rw [beq_eq_false_iff_ne]; omega
  have e60 : ((c.toNat : Int) == 60) = false := by rw [beq_eq_false_iff_ne]; omega
  have e61 : ((c.toNat : Int) == 61) = false := by rw [beq_eq_false_iff_ne]; omega
  have e101 : ((c.toNat : Int) == 101) = true := by rw [beq_iff_eq]; omega
  clear h103 h120 h115 h119 h43 h45 h42 h47 h60 h61 h101
  go_enter Tryz.func200, Tryz.ntmps200
  go_wp2_with fail
  go_ret
  exact ⟨rfl, rfl⟩
 by_cases h99 : c.toNat = 99
 ·rw [show arity c = 2 from by simp [arity, h99]]
  have e103 : ((c.toNat : Int) == 103) = false := by rw [beq_eq_false_iff_ne]; omega
  have e120 : ((c.toNat : Int) == 120) = false := by rw [beq_eq_false_iff_ne]; omega
  have e115 : ((c.toNat : Int) == 115) = false := by rw [beq_eq_false_iff_ne]; omega
  have e119 : ((c.toNat : Int) == 119) = false := by rw [beq_eq_false_iff_ne]; omega
  have e43 : ((c.toNat : Int) == 43) = false := by rw [beq_eq_false_iff_ne]; omega
  have e45 : ((c.toNat : Int) == 45) = false := by rw [beq_eq_false_iff_ne]; omega
  have e42 : ((c.toNat : Int) == 42) = false := by rw [beq_eq_false_iff_ne]; omega
  have e47 : ((c.toNat : Int) == 47) = false := by rw [beq_eq_false_iff_ne]; omega
  have e60 : ((c.toNat : Int) == 60) = false := by rw [beq_eq_false_iff_ne]; omega
  have e61 : ((c.toNat : Int) == 61) = false := by rw [beq_eq_false_iff_ne]; omega
  have e101 : ((c.toNat : Int) == 101) = false := by rw [beq_eq_false_iff_ne]; omega
  have e99 : ((c.toNat : Int) == 99) = true := by rw [beq_iff_eq]; omega
  clear h103 h120 h115 h119 h43 h45 h42 h47 h60 h61 h101 h99
  go_enter Tryz.func200, Tryz.ntmps200
  go_wp2_with fail
  go_ret
  exact ⟨rfl, rfl⟩
 by_cases h112 : c.toNat = 112
 ·rw [show arity c = 2 from by simp [arity, h112]]
  have e103 : ((c.toNat : Int) == 103) = false := by rw [beq_eq_false_iff_ne]; omega
  have e120 : ((c.toNat : Int) == 120) = false := by rw [beq_eq_false_iff_ne]; omega
  have e115 : ((c.toNat : Int) == 115) = false := by rw [beq_eq_false_iff_ne]; omega
  have e119 : ((c.toNat : Int) == 119) = false := by rw [beq_eq_false_iff_ne]; omega
  have e43 : ((c.toNat : Int) == 43) = false := by rw [beq_eq_false_iff_ne]; omega
  have e45 : ((c.toNat : Int) == 45) = false := by rw [beq_eq_false_iff_ne]; omega
  have e42 : ((c.toNat : Int) == 42) = false := by rw [beq_eq_false_iff_ne]; omega
  have e47 : ((c.toNat : Int) == 47) = false := by rw [beq_eq_false_iff_ne]; omega
  have e60 : ((c.toNat : Int) == 60) = false := by rw [beq_eq_false_iff_ne]; omega
  have e61 : ((c.toNat : Int) == 61) = false := by rw [beq_eq_false_iff_ne]; omega
  have e101 : ((c.toNat : Int) == 101) = false := by rw [beq_eq_false_iff_ne]; omega
  have e99 : ((c.toNat : Int) == 99) = false := by rw [beq_eq_false_iff_ne]; omega
  have e112 : ((c.toNat : Int) == 112) = true := by rw [beq_iff_eq]; omega
  clear h103 h120 h115 h119 h43 h45 h42 h47 h60 h61 h101 h99 h112
  go_enter Tryz.func200, Tryz.ntmps200
  go_wp2_with fail
  go_ret
  exact ⟨rfl, rfl⟩
 by_cases h44 : c.toNat = 44
 ·rw [show arity c = 2 from by simp [arity, h44]]
  have e103 : ((c.toNat : Int) == 103) = false := by rw [beq_eq_false_iff_ne]; omega
  have e120 : ((c.toNat : Int) == 120) = false := by rw [beq_eq_false_iff_ne]; omega
  have e115 : ((c.toNat : Int) == 115) = false := by rw [beq_eq_false_iff_ne]; omega
  have e119 : ((c.toNat : Int) == 119) = false := by rw [beq_eq_false_iff_ne]; omega
  have e43 : ((c.toNat : Int) == 43) = false := by rw [beq_eq_false_iff_ne]; omega
  have e45 : ((c.toNat : Int) == 45) = false := by rw [beq_eq_false_iff_ne]; omega
  have e42 : ((c.toNat : Int) == 42) = false := by rw [beq_eq_false_iff_ne]; omega
  have e47 : ((c.toNat : Int) == 47) = false := by rw [beq_eq_false_iff_ne]; omega
  have e60 : ((c.toNat : Int) == 60) = false := by rw [beq_eq_false_iff_ne]; omega
  have e61 : ((c.toNat : Int) == 61) = false := by rw [beq_eq_false_iff_ne]; omega
  have e101 : ((c.toNat : Int) == 101) = false := by rw [beq_eq_false_iff_ne]; omega
  have e99 : ((c.toNat : Int) == 99) = false := by rw [beq_eq_false_iff_ne]; omega
  have e112 : ((c.toNat : Int) == 112) = false := by rw [beq_eq_false_iff_ne]; omega
  have e44 : ((c.toNat : Int) == 44) = true := by rw [beq_iff_eq]; omega
  clear h103 h120 h115 h119 h43 h45 h42 h47 h60 h61 h101 h99 h112 h44
  go_enter Tryz.func200, Tryz.ntmps200
  go_wp2_with fail
  go_ret
  exact ⟨rfl, rfl⟩
 by_cases h111 : c.toNat = 111
 ·rw [show arity c = 2 from by simp [arity, h111]]
  have e103 : ((c.toNat : Int) == 103) = false := by rw [beq_eq_false_iff_ne]; omega
  have e120 : ((c.toNat : Int) == 120) = false := by rw [beq_eq_false_iff_ne]; omega
  have e115 : ((c.toNat : Int) == 115) = false := by rw [beq_eq_false_iff_ne]; omega
  have e119 : ((c.toNat : Int) == 119) = false := by rw [beq_eq_false_iff_ne]; omega
  have e43 : ((c.toNat : Int) == 43) = false := by rw [beq_eq_false_iff_ne]; omega
  have e45 : ((c.toNat : Int) == 45) = false := by rw [beq_eq_false_iff_ne]; omega
  have e42 : ((c.toNat : Int) == 42) = false := by rw [beq_eq_false_iff_ne]; omega
  have e47 : ((c.toNat : Int) == 47) = false := by rw [beq_eq_false_iff_ne]; omega
  have e60 : ((c.toNat : Int) == 60) = false := by rw [beq_eq_false_iff_ne]; omega
  have e61 : ((c.toNat : Int) == 61) = false := by rw [beq_eq_false_iff_ne]; omega
  have e101 : ((c.toNat : Int) == 101) = false := by rw [beq_eq_false_iff_ne]; omega
  have e99 : ((c.toNat : Int) == 99) = false := by rw [beq_eq_false_iff_ne]; omega
  have e112 : ((c.toNat : Int) == 112) = false := by rw [beq_eq_false_iff_ne]; omega
  have e44 : ((c.toNat : Int) == 44) = false := by rw [beq_eq_false_iff_ne]; omega
  have e111 : ((c.toNat : Int) == 111) = true := by rw [beq_iff_eq]; omega
  clear h103 h120 h115 h119 h43 h45 h42 h47 h60 h61 h101 h99 h112 h44 h111
  go_enter Tryz.func200, Tryz.ntmps200
  go_wp2_with fail
  go_ret
  exact ⟨rfl, rfl⟩
 by_cases h105 : c.toNat = 105
 ·rw [show arity c = 3 from by simp [arity, h105]]
  have e103 : ((c.toNat : Int) == 103) = false := by rw [beq_eq_false_iff_ne]; omega
  have e120 : ((c.toNat : Int) == 120) = false := by rw [beq_eq_false_iff_ne]; omega
  have e115 : ((c.toNat : Int) == 115) = false := by rw [beq_eq_false_iff_ne]; omega
  have e119 : ((c.toNat : Int) == 119) = false := by rw [beq_eq_false_iff_ne]; omega
  have e43 : ((c.toNat : Int) == 43) = false := by rw [beq_eq_false_iff_ne]; omega
  have e45 : ((c.toNat : Int) == 45) = false := by rw [beq_eq_false_iff_ne]; omega
  have e42 : ((c.toNat : Int) == 42) = false := by rw [beq_eq_false_iff_ne]; omega
  have e47 : ((c.toNat : Int) == 47) = false := by rw [beq_eq_false_iff_ne]; omega
  have e60 : ((c.toNat : Int) == 60) = false := by rw [beq_eq_false_iff_ne]; omega
  have e61 : ((c.toNat : Int) == 61) = false := by rw [beq_eq_false_iff_ne]; omega
  have e101 : ((c.toNat : Int) == 101) = false := by rw [beq_eq_false_iff_ne]; omega
  have e99 : ((c.toNat : Int) == 99) = false := by rw [beq_eq_false_iff_ne]; omega
  have e112 : ((c.toNat : Int) == 112) = false := by rw [beq_eq_false_iff_ne]; omega
  have e44 : ((c.toNat : Int) == 44) = false := by rw [beq_eq_false_iff_ne]; omega
  have e111 : ((c.toNat : Int) == 111) = false := by rw [beq_eq_false_iff_ne]; omega
  have e105 : ((c.toNat : Int) == 105) = true := by rw [beq_iff_eq]; omega
  clear h103 h120 h115 h119 h43 h45 h42 h47 h60 h61 h101 h99 h112 h44 h111 h105
  go_enter Tryz.func200, Tryz.ntmps200
  go_wp2_with fail
  go_ret
  exact ⟨rfl, rfl⟩
 rw [show arity c = 0 from by simp [arity, h103, h120, h115, h119, h43, h45, h42, h47, h60, h61, h101, h99, h112, h44, h111, h105]]
 have e103 : ((c.toNat : Int) == 103) = false := by rw [beq_eq_false_iff_ne]; omega
 have e120 : ((c.toNat : Int) == 120) = false := by rw [beq_eq_false_iff_ne]; omega
 have e115 : ((c.toNat : Int) == 115) = false := by rw [beq_eq_false_iff_ne]; omega
 have e119 : ((c.toNat : Int) == 119) = false := by rw [beq_eq_false_iff_ne]; omega
 have e43 : ((c.toNat : Int) == 43) = false := by rw [beq_eq_false_iff_ne]; omega
 have e45 : ((c.toNat : Int) == 45) = false := by rw [beq_eq_false_iff_ne]; omega
 have e42 : ((c.toNat : Int) == 42) = false := by rw [beq_eq_false_iff_ne]; omega
 have e47 : ((c.toNat : Int) == 47) = false := by rw [beq_eq_false_iff_ne]; omega
 have e60 : ((c.toNat : Int) == 60) = false := by rw [beq_eq_false_iff_ne]; omega
 have e61 : ((c.toNat : Int) == 61) = false := by rw [beq_eq_false_iff_ne]; omega
 have e101 : ((c.toNat : Int) == 101) = false := by rw [beq_eq_false_iff_ne]; omega
 have e99 : ((c.toNat : Int) == 99) = false := by rw [beq_eq_false_iff_ne]; omega
 have e112 : ((c.toNat : Int) == 112) = false := by rw [beq_eq_false_iff_ne]; omega
 have e44 : ((c.toNat : Int) == 44) = false := by rw [beq_eq_false_iff_ne]; omega
 have e111 : ((c.toNat : Int) == 111) = false := by rw [beq_eq_false_iff_ne]; omega
 have e105 : ((c.toNat : Int) == 105) = false := by rw [beq_eq_false_iff_ne]; omega
 clear h103 h120 h115 h119 h43 h45 h42 h47 h60 h61 h101 h99 h112 h44 h111 h105
 go_enter Tryz.func200, Tryz.ntmps200
 go_wp2_with fail
 go_ret
 exact ⟨rfl, rfl⟩
section
variable (b base : Nat) (s : ByteArray) (i : Nat) (SC : List Cls) (a0 a1 al : Option Addr) (ng nl cap0 cap1 capl : Nat) (v2 : RdV) (w : World)
set_option maxHeartbeats 3200000 in
set_option maxRecDepth 100000 in
theorem xnod_a114 (hlt : i < s.size) (hpc : pk s i = 114) (hnc : SC.length ≤ 4) (hng : ng ≤ 3) (hnl : nl ≤ 10) (hs : s.size ≤ 2000)
  (hR : XrB w b s i false (.slice a0 SC.length cap0) (.slice a1 ng cap1) v2) (hv : v2.hl = .slice al nl capl) :
  Calls Tryz.prog 199 #[.pointer (some ⟨b, 0, none⟩)] w fun en w' => But (· = b) w w' ∧ ∃ x j bad', en = .returned (itV x) ∧ XrB w' b s j bad' (.slice a0 SC.length cap0) (.slice a1 ng cap1) v2 ∧ NodR s SC ng nl i false x j bad' := by
 have hbw := hR.lt
 have p3 := hR.c3
 obtain ⟨hB0, hg0, hg1⟩ := two_boxes w b hbw #[.int .i64 0, .int .u8 0, .int .u8 0, .int .i64 0, .slice none 0 0] #[.int .i64 i, .int .u8 0, .int .u8 45, .int .i64 0, .slice none 0 0] 219
 have hR0 := hR.but ((But.alloc (fun _ => False) w (.cells #[.int .i64 0, .int .u8 0, .int .u8 0, .int .i64 0, .slice none 0 0] 219)).trans (But.alloc _ _ (.cells #[.int .i64 i, .int .u8 0, .int .u8 45, .int .i64 0, .slice none 0 0] 219))) (fun h => h)
 have HW0 := hid (InsW.mk hB0 hg0 hg1)
 have HB1 := hid (xtakeByte_any b s i false _ _ v2 _ hs hR0)
 rw [tbP_ok hlt, hpc] at HB1
 clear hB0 hR0 hg0 hg1
 go_enter Tryz.func199, Tryz.ntmps199
 go_wp2_with fail
 refine HB1.out.mono ?_
 rintro en w1 ⟨rfl, hB1, hR1⟩
 have hW1 := HW0.out.next (by omega) (by omega) hB1
 obtain ⟨q0, q1, q2, q3, q4⟩ := row5 hW1.item
 obtain ⟨f0, f1, f2, f3, f4⟩ := froz5 hW1.item
 obtain ⟨y0, y1, y2, y3, y4⟩ := row5 hW1.box
 obtain ⟨g0, g1, g2, g3, g4⟩ := froz5 hW1.box
 have hW2 := hW1.set1 (by omega) (by omega) (.int .u8 114)
 have hR2 := hR1.but (But.setB w1 (w.heap.size + 1) 1 (.int .u8 114)) (by omega)
 have HW2 := hid hW2
 clear hW1 hW2 HW0 HB1 p3
 have HWF := hid (HW2.out)
 have hRF := hR2
 go_wp2_with fail
 have h9b := put5_heap HWF.out.box (.int .i64 i) (.int .u8 114) (.int .u8 45) (.int .i64 0) (.slice none 0 0)
 have h9d := put5_but (w1.setCell ⟨w.heap.size + 1, 1, none⟩ (.int .u8 114)) w.heap.size (.int .i64 i) (.int .u8 114) (.int .u8 45) (.int .i64 0) (.slice none 0 0)
 unfold put5 at h9b h9d
 revert h9b h9d
 generalize (((((w1.setCell ⟨w.heap.size + 1, 1, none⟩ (.int .u8 114)).setCell ⟨w.heap.size, 0, none⟩ (.int .i64 i)).setCell ⟨w.heap.size, 1, none⟩ (.int .u8 114)).setCell ⟨w.heap.size, 2, none⟩ (.int .u8 45)).setCell ⟨w.heap.size, 3, none⟩ (.int .i64 0)).setCell ⟨w.heap.size, 4, none⟩ (.slice none 0 0) = w9
 intro h9b h9d
 obtain ⟨r0, r1, r2, r3, r4⟩ := row5 h9b
 exact bodyPost_ret (v := .agg #[(.int .i64 i), (.int .u8 114), (.int .u8 45), (.int .i64 0), (.slice none 0 0)]) (by simp [results, Tryz.results199, go_sem, r0, r1, r2, r3, r4]) rfl ⟨HWF.out.but.next h9d (fun k hk h => by omega), ⟨i, 114, 45, 0, none, 0, 0⟩, i + 1, false, rfl, hRF.but h9d (by omega), nod_alone hpc (by decide) (by decide) (by rfl) (by decide)⟩
set_option maxHeartbeats 3200000 in
set_option maxRecDepth 100000 in
theorem xnod_a122 (hlt : i < s.size) (hpc : pk s i = 122) (hnc : SC.length ≤ 4) (hng : ng ≤ 3) (hnl : nl ≤ 10) (hs : s.size ≤ 2000)
  (hR : XrB w b s i false (.slice a0 SC.length cap0) (.slice a1 ng cap1) v2) (hv : v2.hl = .slice al nl capl) :
  Calls Tryz.prog 199 #[.pointer (some ⟨b, 0, none⟩)] w fun en w' => But (· = b) w w' ∧ ∃ x j bad', en = .returned (itV x) ∧ XrB w' b s j bad' (.slice a0 SC.length cap0) (.slice a1 ng cap1) v2 ∧ NodR s SC ng nl i false x j bad' := by
 have hbw := hR.lt
 have p3 := hR.c3
 obtain ⟨hB0, hg0, hg1⟩ := two_boxes w b hbw #[.int .i64 0, .int .u8 0, .int .u8 0, .int .i64 0, .slice none 0 0] #[.int .i64 i, .int .u8 0, .int .u8 45, .int .i64 0, .slice none 0 0] 219
 have hR0 := hR.but ((But.alloc (fun _ => False) w (.cells #[.int .i64 0, .int .u8 0, .int .u8 0, .int .i64 0, .slice none 0 0] 219)).trans (But.alloc _ _ (.cells #[.int .i64 i, .int .u8 0, .int .u8 45, .int .i64 0, .slice none 0 0] 219))) (fun h => h)
 have HW0 := hid (InsW.mk hB0 hg0 hg1)
 have HB1 := hid (xtakeByte_any b s i false _ _ v2 _ hs hR0)
 rw [tbP_ok hlt, hpc] at HB1
 clear hB0 hR0 hg0 hg1
 go_enter Tryz.func199, Tryz.ntmps199
 go_wp2_with fail
 refine HB1.out.mono ?_
 rintro en w1 ⟨rfl, hB1, hR1⟩
 have hW1 := HW0.out.next (by omega) (by omega) hB1
 obtain ⟨q0, q1, q2, q3, q4⟩ := row5 hW1.item
 obtain ⟨f0, f1, f2, f3, f4⟩ := froz5 hW1.item
 obtain ⟨y0, y1, y2, y3, y4⟩ := row5 hW1.box
 obtain ⟨g0, g1, g2, g3, g4⟩ := froz5 hW1.box
 have hW2 := hW1.set1 (by omega) (by omega) (.int .u8 122)
 have hR2 := hR1.but (But.setB w1 (w.heap.size + 1) 1 (.int .u8 122)) (by omega)
 have HW2 := hid hW2
 clear hW1 hW2 HW0 HB1 p3
 have HWF := hid (HW2.out)
 have hRF := hR2
 go_wp2_with fail
 have h9b := put5_heap HWF.out.box (.int .i64 i) (.int .u8 122) (.int .u8 45) (.int .i64 0) (.slice none 0 0)
 have h9d := put5_but (w1.setCell ⟨w.heap.size + 1, 1, none⟩ (.int .u8 122)) w.heap.size (.int .i64 i) (.int .u8 122) (.int .u8 45) (.int .i64 0) (.slice none 0 0)
 unfold put5 at h9b h9d
 revert h9b h9d
 generalize (((((w1.setCell ⟨w.heap.size + 1, 1, none⟩ (.int .u8 122)).setCell ⟨w.heap.size, 0, none⟩ (.int .i64 i)).setCell ⟨w.heap.size, 1, none⟩ (.int .u8 122)).setCell ⟨w.heap.size, 2, none⟩ (.int .u8 45)).setCell ⟨w.heap.size, 3, none⟩ (.int .i64 0)).setCell ⟨w.heap.size, 4, none⟩ (.slice none 0 0) = w9
 intro h9b h9d
 obtain ⟨r0, r1, r2, r3, r4⟩ := row5 h9b
 exact bodyPost_ret (v := .agg #[(.int .i64 i), (.int .u8 122), (.int .u8 45), (.int .i64 0), (.slice none 0 0)]) (by simp [results, Tryz.results199, go_sem, r0, r1, r2, r3, r4]) rfl ⟨HWF.out.but.next h9d (fun k hk h => by omega), ⟨i, 122, 45, 0, none, 0, 0⟩, i + 1, false, rfl, hRF.but h9d (by omega), nod_alone hpc (by decide) (by decide) (by rfl) (by decide)⟩
set_option maxHeartbeats 3200000 in
set_option maxRecDepth 100000 in
theorem xnod_a43 (hlt : i < s.size) (hpc : pk s i = 43) (hnc : SC.length ≤ 4) (hng : ng ≤ 3) (hnl : nl ≤ 10) (hs : s.size ≤ 2000)
  (hR : XrB w b s i false (.slice a0 SC.length cap0) (.slice a1 ng cap1) v2) (hv : v2.hl = .slice al nl capl) :
  Calls Tryz.prog 199 #[.pointer (some ⟨b, 0, none⟩)] w fun en w' => But (· = b) w w' ∧ ∃ x j bad', en = .returned (itV x) ∧ XrB w' b s j bad' (.slice a0 SC.length cap0) (.slice a1 ng cap1) v2 ∧ NodR s SC ng nl i false x j bad' := by
 have hbw := hR.lt
 have p3 := hR.c3
 obtain ⟨hB0, hg0, hg1⟩ := two_boxes w b hbw #[.int .i64 0, .int .u8 0, .int .u8 0, .int .i64 0, .slice none 0 0] #[.int .i64 i, .int .u8 0, .int .u8 45, .int .i64 0, .slice none 0 0] 219
 have hR0 := hR.but ((But.alloc (fun _ => False) w (.cells #[.int .i64 0, .int .u8 0, .int .u8 0, .int .i64 0, .slice none 0 0] 219)).trans (But.alloc _ _ (.cells #[.int .i64 i, .int .u8 0, .int .u8 45, .int .i64 0, .slice none 0 0] 219))) (fun h => h)
 have HW0 := hid (InsW.mk hB0 hg0 hg1)
 have HB1 := hid (xtakeByte_any b s i false _ _ v2 _ hs hR0)
 rw [tbP_ok hlt, hpc] at HB1
 clear hB0 hR0 hg0 hg1
 go_enter Tryz.func199, Tryz.ntmps199
 go_wp2_with fail
 refine HB1.out.mono ?_
 rintro en w1 ⟨rfl, hB1, hR1⟩
 have hW1 := HW0.out.next (by omega) (by omega) hB1
 obtain ⟨q0, q1, q2, q3, q4⟩ := row5 hW1.item
 obtain ⟨f0, f1, f2, f3, f4⟩ := froz5 hW1.item
 obtain ⟨y0, y1, y2, y3, y4⟩ := row5 hW1.box
 obtain ⟨g0, g1, g2, g3, g4⟩ := froz5 hW1.box
 have hW2 := hW1.set1 (by omega) (by omega) (.int .u8 43)
 have hR2 := hR1.but (But.setB w1 (w.heap.size + 1) 1 (.int .u8 43)) (by omega)
 have HW2 := hid hW2
 clear hW1 hW2 HW0 HB1 p3
 have HWF := hid (HW2.out)
 have hRF := hR2
 go_wp2_with fail
 have h9b := put5_heap HWF.out.box (.int .i64 i) (.int .u8 43) (.int .u8 45) (.int .i64 0) (.slice none 0 0)
 have h9d := put5_but (w1.setCell ⟨w.heap.size + 1, 1, none⟩ (.int .u8 43)) w.heap.size (.int .i64 i) (.int .u8 43) (.int .u8 45) (.int .i64 0) (.slice none 0 0)
 unfold put5 at h9b h9d
 revert h9b h9d
 generalize (((((w1.setCell ⟨w.heap.size + 1, 1, none⟩ (.int .u8 43)).setCell ⟨w.heap.size, 0, none⟩ (.int .i64 i)).setCell ⟨w.heap.size, 1, none⟩ (.int .u8 43)).setCell ⟨w.heap.size, 2, none⟩ (.int .u8 45)).setCell ⟨w.heap.size, 3, none⟩ (.int .i64 0)).setCell ⟨w.heap.size, 4, none⟩ (.slice none 0 0) = w9
 intro h9b h9d
 obtain ⟨r0, r1, r2, r3, r4⟩ := row5 h9b
 exact bodyPost_ret (v := .agg #[(.int .i64 i), (.int .u8 43), (.int .u8 45), (.int .i64 0), (.slice none 0 0)]) (by simp [results, Tryz.results199, go_sem, r0, r1, r2, r3, r4]) rfl ⟨HWF.out.but.next h9d (fun k hk h => by omega), ⟨i, 43, 45, 0, none, 0, 0⟩, i + 1, false, rfl, hRF.but h9d (by omega), nod_alone hpc (by decide) (by decide) (by rfl) (by decide)⟩
set_option maxHeartbeats 3200000 in
set_option maxRecDepth 100000 in
theorem xnod_a45 (hlt : i < s.size) (hpc : pk s i = 45) (hnc : SC.length ≤ 4) (hng : ng ≤ 3) (hnl : nl ≤ 10) (hs : s.size ≤ 2000)
  (hR : XrB w b s i false (.slice a0 SC.length cap0) (.slice a1 ng cap1) v2) (hv : v2.hl = .slice al nl capl) :
  Calls Tryz.prog 199 #[.pointer (some ⟨b, 0, none⟩)] w fun en w' => But (· = b) w w' ∧ ∃ x j bad', en = .returned (itV x) ∧ XrB w' b s j bad' (.slice a0 SC.length cap0) (.slice a1 ng cap1) v2 ∧ NodR s SC ng nl i false x j bad' := by
 have hbw := hR.lt
 have p3 := hR.c3
 obtain ⟨hB0, hg0, hg1⟩ := two_boxes w b hbw #[.int .i64 0, .int .u8 0, .int .u8 0, .int .i64 0, .slice none 0 0] #[.int .i64 i, .int .u8 0, .int .u8 45, .int .i64 0, .slice none 0 0] 219
 have hR0 := hR.but ((But.alloc (fun _ => False) w (.cells #[.int .i64 0, .int .u8 0, .int .u8 0, .int .i64 0, .slice none 0 0] 219)).trans (But.alloc _ _ (.cells #[.int .i64 i, .int .u8 0, .int .u8 45, .int .i64 0, .slice none 0 0] 219))) (fun h => h)
 have HW0 := hid (InsW.mk hB0 hg0 hg1)
 have HB1 := hid (xtakeByte_any b s i false _ _ v2 _ hs hR0)
 rw [tbP_ok hlt, hpc] at HB1
 clear hB0 hR0 hg0 hg1
 go_enter Tryz.func199, Tryz.ntmps199
 go_wp2_with fail
 refine HB1.out.mono ?_
 rintro en w1 ⟨rfl, hB1, hR1⟩
 have hW1 := HW0.out.next (by omega) (by omega) hB1
 obtain ⟨q0, q1, q2, q3, q4⟩ := row5 hW1.item
 obtain ⟨f0, f1, f2, f3, f4⟩ := froz5 hW1.item
 obtain ⟨y0, y1, y2, y3, y4⟩ := row5 hW1.box
 obtain ⟨g0, g1, g2, g3, g4⟩ := froz5 hW1.box
 have hW2 := hW1.set1 (by omega) (by omega) (.int .u8 45)
 have hR2 := hR1.but (But.setB w1 (w.heap.size + 1) 1 (.int .u8 45)) (by omega)
 have HW2 := hid hW2
 clear hW1 hW2 HW0 HB1 p3
 have HWF := hid (HW2.out)
 have hRF := hR2
 go_wp2_with fail
 have h9b := put5_heap HWF.out.box (.int .i64 i) (.int .u8 45) (.int .u8 45) (.int .i64 0) (.slice none 0 0)
 have h9d := put5_but (w1.setCell ⟨w.heap.size + 1, 1, none⟩ (.int .u8 45)) w.heap.size (.int .i64 i) (.int .u8 45) (.int .u8 45) (.int .i64 0) (.slice none 0 0)
 unfold put5 at h9b h9d
 revert h9b h9d
 generalize (((((w1.setCell ⟨w.heap.size + 1, 1, none⟩ (.int .u8 45)).setCell ⟨w.heap.size, 0, none⟩ (.int .i64 i)).setCell ⟨w.heap.size, 1, none⟩ (.int .u8 45)).setCell ⟨w.heap.size, 2, none⟩ (.int .u8 45)).setCell ⟨w.heap.size, 3, none⟩ (.int .i64 0)).setCell ⟨w.heap.size, 4, none⟩ (.slice none 0 0) = w9
 intro h9b h9d
 obtain ⟨r0, r1, r2, r3, r4⟩ := row5 h9b
 exact bodyPost_ret (v := .agg #[(.int .i64 i), (.int .u8 45), (.int .u8 45), (.int .i64 0), (.slice none 0 0)]) (by simp [results, Tryz.results199, go_sem, r0, r1, r2, r3, r4]) rfl ⟨HWF.out.but.next h9d (fun k hk h => by omega), ⟨i, 45, 45, 0, none, 0, 0⟩, i + 1, false, rfl, hRF.but h9d (by omega), nod_alone hpc (by decide) (by decide) (by rfl) (by decide)⟩
set_option maxHeartbeats 3200000 in
set_option maxRecDepth 100000 in
theorem xnod_a42 (hlt : i < s.size) (hpc : pk s i = 42) (hnc : SC.length ≤ 4) (hng : ng ≤ 3) (hnl : nl ≤ 10) (hs : s.size ≤ 2000)
  (hR : XrB w b s i false (.slice a0 SC.length cap0) (.slice a1 ng cap1) v2) (hv : v2.hl = .slice al nl capl) :
  Calls Tryz.prog 199 #[.pointer (some ⟨b, 0, none⟩)] w fun en w' => But (· = b) w w' ∧ ∃ x j bad', en = .returned (itV x) ∧ XrB w' b s j bad' (.slice a0 SC.length cap0) (.slice a1 ng cap1) v2 ∧ NodR s SC ng nl i false x j bad' := by
 have hbw := hR.lt
 have p3 := hR.c3
 obtain ⟨hB0, hg0, hg1⟩ := two_boxes w b hbw #[.int .i64 0, .int .u8 0, .int .u8 0, .int .i64 0, .slice none 0 0] #[.int .i64 i, .int .u8 0, .int .u8 45, .int .i64 0, .slice none 0 0] 219
 have hR0 := hR.but ((But.alloc (fun _ => False) w (.cells #[.int .i64 0, .int .u8 0, .int .u8 0, .int .i64 0, .slice none 0 0] 219)).trans (But.alloc _ _ (.cells #[.int .i64 i, .int .u8 0, .int .u8 45, .int .i64 0, .slice none 0 0] 219))) (fun h => h)
 have HW0 := hid (InsW.mk hB0 hg0 hg1)
 have HB1 := hid (xtakeByte_any b s i false _ _ v2 _ hs hR0)
 rw [tbP_ok hlt, hpc] at HB1
 clear hB0 hR0 hg0 hg1
 go_enter Tryz.func199, Tryz.ntmps199
 go_wp2_with fail
 refine HB1.out.mono ?_
 rintro en w1 ⟨rfl, hB1, hR1⟩
 have hW1 := HW0.out.next (by omega) (by omega) hB1
 obtain ⟨q0, q1, q2, q3, q4⟩ := row5 hW1.item
 obtain ⟨f0, f1, f2, f3, f4⟩ := froz5 hW1.item
 obtain ⟨y0, y1, y2, y3, y4⟩ := row5 hW1.box
 obtain ⟨g0, g1, g2, g3, g4⟩ := froz5 hW1.box
 have hW2 := hW1.set1 (by omega) (by omega) (.int .u8 42)
 have hR2 := hR1.but (But.setB w1 (w.heap.size + 1) 1 (.int .u8 42)) (by omega)
 have HW2 := hid hW2
 clear hW1 hW2 HW0 HB1 p3
 have HWF := hid (HW2.out)
 have hRF := hR2
 go_wp2_with fail
 have h9b := put5_heap HWF.out.box (.int .i64 i) (.int .u8 42) (.int .u8 45) (.int .i64 0) (.slice none 0 0)
 have h9d := put5_but (w1.setCell ⟨w.heap.size + 1, 1, none⟩ (.int .u8 42)) w.heap.size (.int .i64 i) (.int .u8 42) (.int .u8 45) (.int .i64 0) (.slice none 0 0)
 unfold put5 at h9b h9d
 revert h9b h9d
 generalize (((((w1.setCell ⟨w.heap.size + 1, 1, none⟩ (.int .u8 42)).setCell ⟨w.heap.size, 0, none⟩ (.int .i64 i)).setCell ⟨w.heap.size, 1, none⟩ (.int .u8 42)).setCell ⟨w.heap.size, 2, none⟩ (.int .u8 45)).setCell ⟨w.heap.size, 3, none⟩ (.int .i64 0)).setCell ⟨w.heap.size, 4, none⟩ (.slice none 0 0) = w9
 intro h9b h9d
 obtain ⟨r0, r1, r2, r3, r4⟩ := row5 h9b
 exact bodyPost_ret (v := .agg #[(.int .i64 i), (.int .u8 42), (.int .u8 45), (.int .i64 0), (.slice none 0 0)]) (by simp [results, Tryz.results199, go_sem, r0, r1, r2, r3, r4]) rfl ⟨HWF.out.but.next h9d (fun k hk h => by omega), ⟨i, 42, 45, 0, none, 0, 0⟩, i + 1, false, rfl, hRF.but h9d (by omega), nod_alone hpc (by decide) (by decide) (by rfl) (by decide)⟩
set_option maxHeartbeats 3200000 in
set_option maxRecDepth 100000 in
theorem xnod_a47 (hlt : i < s.size) (hpc : pk s i = 47) (hnc : SC.length ≤ 4) (hng : ng ≤ 3) (hnl : nl ≤ 10) (hs : s.size ≤ 2000)
  (hR : XrB w b s i false (.slice a0 SC.length cap0) (.slice a1 ng cap1) v2) (hv : v2.hl = .slice al nl capl) :
  Calls Tryz.prog 199 #[.pointer (some ⟨b, 0, none⟩)] w fun en w' => But (· = b) w w' ∧ ∃ x j bad', en = .returned (itV x) ∧ XrB w' b s j bad' (.slice a0 SC.length cap0) (.slice a1 ng cap1) v2 ∧ NodR s SC ng nl i false x j bad' := by
 have hbw := hR.lt
 have p3 := hR.c3
 obtain ⟨hB0, hg0, hg1⟩ := two_boxes w b hbw #[.int .i64 0, .int .u8 0, .int .u8 0, .int .i64 0, .slice none 0 0] #[.int .i64 i, .int .u8 0, .int .u8 45, .int .i64 0, .slice none 0 0] 219
 have hR0 := hR.but ((But.alloc (fun _ => False) w (.cells #[.int .i64 0, .int .u8 0, .int .u8 0, .int .i64 0, .slice none 0 0] 219)).trans (But.alloc _ _ (.cells #[.int .i64 i, .int .u8 0, .int .u8 45, .int .i64 0, .slice none 0 0] 219))) (fun h => h)
 have HW0 := hid (InsW.mk hB0 hg0 hg1)
 have HB1 := hid (xtakeByte_any b s i false _ _ v2 _ hs hR0)
 rw [tbP_ok hlt, hpc] at HB1
 clear hB0 hR0 hg0 hg1
 go_enter Tryz.func199, Tryz.ntmps199
 go_wp2_with fail
 refine HB1.out.mono ?_
 rintro en w1 ⟨rfl, hB1, hR1⟩
 have hW1 := HW0.out.next (by omega) (by omega) hB1
 obtain ⟨q0, q1, q2, q3, q4⟩ := row5 hW1.item
 obtain ⟨f0, f1, f2, f3, f4⟩ := froz5 hW1.item
 obtain ⟨y0, y1, y2, y3, y4⟩ := row5 hW1.box
 obtain ⟨g0, g1, g2, g3, g4⟩ := froz5 hW1.box
 have hW2 := hW1.set1 (by omega) (by omega) (.int .u8 47)
 have hR2 := hR1.but (But.setB w1 (w.heap.size + 1) 1 (.int .u8 47)) (by omega)
 have HW2 := hid hW2
 clear hW1 hW2 HW0 HB1 p3
 have HWF := hid (HW2.out)
 have hRF := hR2
 go_wp2_with fail
 have h9b := put5_heap HWF.out.box (.int .i64 i) (.int .u8 47) (.int .u8 45) (.int .i64 0) (.slice none 0 0)
 have h9d := put5_but (w1.setCell ⟨w.heap.size + 1, 1, none⟩ (.int .u8 47)) w.heap.size (.int .i64 i) (.int .u8 47) (.int .u8 45) (.int .i64 0) (.slice none 0 0)
 unfold put5 at h9b h9d
 revert h9b h9d
 generalize (((((w1.setCell ⟨w.heap.size + 1, 1, none⟩ (.int .u8 47)).setCell ⟨w.heap.size, 0, none⟩ (.int .i64 i)).setCell ⟨w.heap.size, 1, none⟩ (.int .u8 47)).setCell ⟨w.heap.size, 2, none⟩ (.int .u8 45)).setCell ⟨w.heap.size, 3, none⟩ (.int .i64 0)).setCell ⟨w.heap.size, 4, none⟩ (.slice none 0 0) = w9
 intro h9b h9d
 obtain ⟨r0, r1, r2, r3, r4⟩ := row5 h9b
 exact bodyPost_ret (v := .agg #[(.int .i64 i), (.int .u8 47), (.int .u8 45), (.int .i64 0), (.slice none 0 0)]) (by simp [results, Tryz.results199, go_sem, r0, r1, r2, r3, r4]) rfl ⟨HWF.out.but.next h9d (fun k hk h => by omega), ⟨i, 47, 45, 0, none, 0, 0⟩, i + 1, false, rfl, hRF.but h9d (by omega), nod_alone hpc (by decide) (by decide) (by rfl) (by decide)⟩
set_option maxHeartbeats 3200000 in
set_option maxRecDepth 100000 in
theorem xnod_a60 (hlt : i < s.size) (hpc : pk s i = 60) (hnc : SC.length ≤ 4) (hng : ng ≤ 3) (hnl : nl ≤ 10) (hs : s.size ≤ 2000)
  (hR : XrB w b s i false (.slice a0 SC.length cap0) (.slice a1 ng cap1) v2) (hv : v2.hl = .slice al nl capl) :
  Calls Tryz.prog 199 #[.pointer (some ⟨b, 0, none⟩)] w fun en w' => But (· = b) w w' ∧ ∃ x j bad', en = .returned (itV x) ∧ XrB w' b s j bad' (.slice a0 SC.length cap0) (.slice a1 ng cap1) v2 ∧ NodR s SC ng nl i false x j bad' := by
 have hbw := hR.lt
 have p3 := hR.c3
 obtain ⟨hB0, hg0, hg1⟩ := two_boxes w b hbw #[.int .i64 0, .int .u8 0, .int .u8 0, .int .i64 0, .slice none 0 0] #[.int .i64 i, .int .u8 0, .int .u8 45, .int .i64 0, .slice none 0 0] 219
 have hR0 := hR.but ((But.alloc (fun _ => False) w (.cells #[.int .i64 0, .int .u8 0, .int .u8 0, .int .i64 0, .slice none 0 0] 219)).trans (But.alloc _ _ (.cells #[.int .i64 i, .int .u8 0, .int .u8 45, .int .i64 0, .slice none 0 0] 219))) (fun h => h)
 have HW0 := hid (InsW.mk hB0 hg0 hg1)
 have HB1 := hid (xtakeByte_any b s i false _ _ v2 _ hs hR0)
 rw [tbP_ok hlt, hpc] at HB1
 clear hB0 hR0 hg0 hg1
 go_enter Tryz.func199, Tryz.ntmps199
 go_wp2_with fail
 refine HB1.out.mono ?_
 rintro en w1 ⟨rfl, hB1, hR1⟩
 have hW1 := HW0.out.next (by omega) (by omega) hB1
 obtain ⟨q0, q1, q2, q3, q4⟩ := row5 hW1.item
 obtain ⟨f0, f1, f2, f3, f4⟩ := froz5 hW1.item
 obtain ⟨y0, y1, y2, y3, y4⟩ := row5 hW1.box
 obtain ⟨g0, g1, g2, g3, g4⟩ := froz5 hW1.box
 have hW2 := hW1.set1 (by omega) (by omega) (.int .u8 60)
 have hR2 := hR1.but (But.setB w1 (w.heap.size + 1) 1 (.int .u8 60)) (by omega)
 have HW2 := hid hW2
 clear hW1 hW2 HW0 HB1 p3
 have HWF := hid (HW2.out)
 have hRF := hR2
 go_wp2_with fail
 have h9b := put5_heap HWF.out.box (.int .i64 i) (.int .u8 60) (.int .u8 45) (.int .i64 0) (.slice none 0 0)
 have h9d := put5_but (w1.setCell ⟨w.heap.size + 1, 1, none⟩ (.int .u8 60)) w.heap.size (.int .i64 i) (.int .u8 60) (.int .u8 45) (.int .i64 0) (.slice none 0 0)
 unfold put5 at h9b h9d
 revert h9b h9d
 generalize (((((w1.setCell ⟨w.heap.size + 1, 1, none⟩ (.int .u8 60)).setCell ⟨w.heap.size, 0, none⟩ (.int .i64 i)).setCell ⟨w.heap.size, 1, none⟩ (.int .u8 60)).setCell ⟨w.heap.size, 2, none⟩ (.int .u8 45)).setCell ⟨w.heap.size, 3, none⟩ (.int .i64 0)).setCell ⟨w.heap.size, 4, none⟩ (.slice none 0 0) = w9
 intro h9b h9d
 obtain ⟨r0, r1, r2, r3, r4⟩ := row5 h9b
 exact bodyPost_ret (v := .agg #[(.int .i64 i), (.int .u8 60), (.int .u8 45), (.int .i64 0), (.slice none 0 0)]) (by simp [results, Tryz.results199, go_sem, r0, r1, r2, r3, r4]) rfl ⟨HWF.out.but.next h9d (fun k hk h => by omega), ⟨i, 60, 45, 0, none, 0, 0⟩, i + 1, false, rfl, hRF.but h9d (by omega), nod_alone hpc (by decide) (by decide) (by rfl) (by decide)⟩
set_option maxHeartbeats 3200000 in
set_option maxRecDepth 100000 in
theorem xnod_a61 (hlt : i < s.size) (hpc : pk s i = 61) (hnc : SC.length ≤ 4) (hng : ng ≤ 3) (hnl : nl ≤ 10) (hs : s.size ≤ 2000)
  (hR : XrB w b s i false (.slice a0 SC.length cap0) (.slice a1 ng cap1) v2) (hv : v2.hl = .slice al nl capl) :
  Calls Tryz.prog 199 #[.pointer (some ⟨b, 0, none⟩)] w fun en w' => But (· = b) w w' ∧ ∃ x j bad', en = .returned (itV x) ∧ XrB w' b s j bad' (.slice a0 SC.length cap0) (.slice a1 ng cap1) v2 ∧ NodR s SC ng nl i false x j bad' := by
 have hbw := hR.lt
 have p3 := hR.c3
 obtain ⟨hB0, hg0, hg1⟩ := two_boxes w b hbw #[.int .i64 0, .int .u8 0, .int .u8 0, .int .i64 0, .slice none 0 0] #[.int .i64 i, .int .u8 0, .int .u8 45, .int .i64 0, .slice none 0 0] 219
 have hR0 := hR.but ((But.alloc (fun _ => False) w (.cells #[.int .i64 0, .int .u8 0, .int .u8 0, .int .i64 0, .slice none 0 0] 219)).trans (But.alloc _ _ (.cells #[.int .i64 i, .int .u8 0, .int .u8 45, .int .i64 0, .slice none 0 0] 219))) (fun h => h)
 have HW0 := hid (InsW.mk hB0 hg0 hg1)
 have HB1 := hid (xtakeByte_any b s i false _ _ v2 _ hs hR0)
 rw [tbP_ok hlt, hpc] at HB1
 clear hB0 hR0 hg0 hg1
 go_enter Tryz.func199, Tryz.ntmps199
 go_wp2_with fail
 refine HB1.out.mono ?_
 rintro en w1 ⟨rfl, hB1, hR1⟩
 have hW1 := HW0.out.next (by omega) (by omega) hB1
 obtain ⟨q0, q1, q2, q3, q4⟩ := row5 hW1.item
 obtain ⟨f0, f1, f2, f3, f4⟩ := froz5 hW1.item
 obtain ⟨y0, y1, y2, y3, y4⟩ := row5 hW1.box
 obtain ⟨g0, g1, g2, g3, g4⟩ := froz5 hW1.box
 have hW2 := hW1.set1 (by omega) (by omega) (.int .u8 61)
 have hR2 := hR1.but (But.setB w1 (w.heap.size + 1) 1 (.int .u8 61)) (by omega)
 have HW2 := hid hW2
 clear hW1 hW2 HW0 HB1 p3
 have HWF := hid (HW2.out)
 have hRF := hR2
 go_wp2_with fail
 have h9b := put5_heap HWF.out.box (.int .i64 i) (.int .u8 61) (.int .u8 45) (.int .i64 0) (.slice none 0 0)
 have h9d := put5_but (w1.setCell ⟨w.heap.size + 1, 1, none⟩ (.int .u8 61)) w.heap.size (.int .i64 i) (.int .u8 61) (.int .u8 45) (.int .i64 0) (.slice none 0 0)
 unfold put5 at h9b h9d
 revert h9b h9d
 generalize (((((w1.setCell ⟨w.heap.size + 1, 1, none⟩ (.int .u8 61)).setCell ⟨w.heap.size, 0, none⟩ (.int .i64 i)).setCell ⟨w.heap.size, 1, none⟩ (.int .u8 61)).setCell ⟨w.heap.size, 2, none⟩ (.int .u8 45)).setCell ⟨w.heap.size, 3, none⟩ (.int .i64 0)).setCell ⟨w.heap.size, 4, none⟩ (.slice none 0 0) = w9
 intro h9b h9d
 obtain ⟨r0, r1, r2, r3, r4⟩ := row5 h9b
 exact bodyPost_ret (v := .agg #[(.int .i64 i), (.int .u8 61), (.int .u8 45), (.int .i64 0), (.slice none 0 0)]) (by simp [results, Tryz.results199, go_sem, r0, r1, r2, r3, r4]) rfl ⟨HWF.out.but.next h9d (fun k hk h => by omega), ⟨i, 61, 45, 0, none, 0, 0⟩, i + 1, false, rfl, hRF.but h9d (by omega), nod_alone hpc (by decide) (by decide) (by rfl) (by decide)⟩
set_option maxHeartbeats 3200000 in
set_option maxRecDepth 100000 in
theorem xnod_a101 (hlt : i < s.size) (hpc : pk s i = 101) (hnc : SC.length ≤ 4) (hng : ng ≤ 3) (hnl : nl ≤ 10) (hs : s.size ≤ 2000)
  (hR : XrB w b s i false (.slice a0 SC.length cap0) (.slice a1 ng cap1) v2) (hv : v2.hl = .slice al nl capl) :
  Calls Tryz.prog 199 #[.pointer (some ⟨b, 0, none⟩)] w fun en w' => But (· = b) w w' ∧ ∃ x j bad', en = .returned (itV x) ∧ XrB w' b s j bad' (.slice a0 SC.length cap0) (.slice a1 ng cap1) v2 ∧ NodR s SC ng nl i false x j bad' := by
 have hbw := hR.lt
 have p3 := hR.c3
 obtain ⟨hB0, hg0, hg1⟩ := two_boxes w b hbw #[.int .i64 0, .int .u8 0, .int .u8 0, .int .i64 0, .slice none 0 0] #[.int .i64 i, .int .u8 0, .int .u8 45, .int .i64 0, .slice none 0 0] 219
 have hR0 := hR.but ((But.alloc (fun _ => False) w (.cells #[.int .i64 0, .int .u8 0, .int .u8 0, .int .i64 0, .slice none 0 0] 219)).trans (But.alloc _ _ (.cells #[.int .i64 i, .int .u8 0, .int .u8 45, .int .i64 0, .slice none 0 0] 219))) (fun h => h)
 have HW0 := hid (InsW.mk hB0 hg0 hg1)
 have HB1 := hid (xtakeByte_any b s i false _ _ v2 _ hs hR0)
 rw [tbP_ok hlt, hpc] at HB1
 clear hB0 hR0 hg0 hg1
 go_enter Tryz.func199, Tryz.ntmps199
 go_wp2_with fail
 refine HB1.out.mono ?_
 rintro en w1 ⟨rfl, hB1, hR1⟩
 have hW1 := HW0.out.next (by omega) (by omega) hB1
 obtain ⟨q0, q1, q2, q3, q4⟩ := row5 hW1.item
 obtain ⟨f0, f1, f2, f3, f4⟩ := froz5 hW1.item
 obtain ⟨y0, y1, y2, y3, y4⟩ := row5 hW1.box
 obtain ⟨g0, g1, g2, g3, g4⟩ := froz5 hW1.box
 have hW2 := hW1.set1 (by omega) (by omega) (.int .u8 101)
 have hR2 := hR1.but (But.setB w1 (w.heap.size + 1) 1 (.int .u8 101)) (by omega)
 have HW2 := hid hW2
 clear hW1 hW2 HW0 HB1 p3
 have HWF := hid (HW2.out)
 have hRF := hR2
 go_wp2_with fail
 have h9b := put5_heap HWF.out.box (.int .i64 i) (.int .u8 101) (.int .u8 45) (.int .i64 0) (.slice none 0 0)
 have h9d := put5_but (w1.setCell ⟨w.heap.size + 1, 1, none⟩ (.int .u8 101)) w.heap.size (.int .i64 i) (.int .u8 101) (.int .u8 45) (.int .i64 0) (.slice none 0 0)
 unfold put5 at h9b h9d
 revert h9b h9d
 generalize (((((w1.setCell ⟨w.heap.size + 1, 1, none⟩ (.int .u8 101)).setCell ⟨w.heap.size, 0, none⟩ (.int .i64 i)).setCell ⟨w.heap.size, 1, none⟩ (.int .u8 101)).setCell ⟨w.heap.size, 2, none⟩ (.int .u8 45)).setCell ⟨w.heap.size, 3, none⟩ (.int .i64 0)).setCell ⟨w.heap.size, 4, none⟩ (.slice none 0 0) = w9
 intro h9b h9d
 obtain ⟨r0, r1, r2, r3, r4⟩ := row5 h9b
 exact bodyPost_ret (v := .agg #[(.int .i64 i), (.int .u8 101), (.int .u8 45), (.int .i64 0), (.slice none 0 0)]) (by simp [results, Tryz.results199, go_sem, r0, r1, r2, r3, r4]) rfl ⟨HWF.out.but.next h9d (fun k hk h => by omega), ⟨i, 101, 45, 0, none, 0, 0⟩, i + 1, false, rfl, hRF.but h9d (by omega), nod_alone hpc (by decide) (by decide) (by rfl) (by decide)⟩
set_option maxHeartbeats 3200000 in
set_option maxRecDepth 100000 in
theorem xnod_a119 (hlt : i < s.size) (hpc : pk s i = 119) (hnc : SC.length ≤ 4) (hng : ng ≤ 3) (hnl : nl ≤ 10) (hs : s.size ≤ 2000)
  (hR : XrB w b s i false (.slice a0 SC.length cap0) (.slice a1 ng cap1) v2) (hv : v2.hl = .slice al nl capl) :
  Calls Tryz.prog 199 #[.pointer (some ⟨b, 0, none⟩)] w fun en w' => But (· = b) w w' ∧ ∃ x j bad', en = .returned (itV x) ∧ XrB w' b s j bad' (.slice a0 SC.length cap0) (.slice a1 ng cap1) v2 ∧ NodR s SC ng nl i false x j bad' := by
 have hbw := hR.lt
 have p3 := hR.c3
 obtain ⟨hB0, hg0, hg1⟩ := two_boxes w b hbw #[.int .i64 0, .int .u8 0, .int .u8 0, .int .i64 0, .slice none 0 0] #[.int .i64 i, .int .u8 0, .int .u8 45, .int .i64 0, .slice none 0 0] 219
 have hR0 := hR.but ((But.alloc (fun _ => False) w (.cells #[.int .i64 0, .int .u8 0, .int .u8 0, .int .i64 0, .slice none 0 0] 219)).trans (But.alloc _ _ (.cells #[.int .i64 i, .int .u8 0, .int .u8 45, .int .i64 0, .slice none 0 0] 219))) (fun h => h)
 have HW0 := hid (InsW.mk hB0 hg0 hg1)
 have HB1 := hid (xtakeByte_any b s i false _ _ v2 _ hs hR0)
 rw [tbP_ok hlt, hpc] at HB1
 clear hB0 hR0 hg0 hg1
 go_enter Tryz.func199, Tryz.ntmps199
 go_wp2_with fail
 refine HB1.out.mono ?_
 rintro en w1 ⟨rfl, hB1, hR1⟩
 have hW1 := HW0.out.next (by omega) (by omega) hB1
 obtain ⟨q0, q1, q2, q3, q4⟩ := row5 hW1.item
 obtain ⟨f0, f1, f2, f3, f4⟩ := froz5 hW1.item
 obtain ⟨y0, y1, y2, y3, y4⟩ := row5 hW1.box
 obtain ⟨g0, g1, g2, g3, g4⟩ := froz5 hW1.box
 have hW2 := hW1.set1 (by omega) (by omega) (.int .u8 119)
 have hR2 := hR1.but (But.setB w1 (w.heap.size + 1) 1 (.int .u8 119)) (by omega)
 have HW2 := hid hW2
 clear hW1 hW2 HW0 HB1 p3
 have HWF := hid (HW2.out)
 have hRF := hR2
 go_wp2_with fail
 have h9b := put5_heap HWF.out.box (.int .i64 i) (.int .u8 119) (.int .u8 45) (.int .i64 0) (.slice none 0 0)
 have h9d := put5_but (w1.setCell ⟨w.heap.size + 1, 1, none⟩ (.int .u8 119)) w.heap.size (.int .i64 i) (.int .u8 119) (.int .u8 45) (.int .i64 0) (.slice none 0 0)
 unfold put5 at h9b h9d
 revert h9b h9d
 generalize (((((w1.setCell ⟨w.heap.size + 1, 1, none⟩ (.int .u8 119)).setCell ⟨w.heap.size, 0, none⟩ (.int .i64 i)).setCell ⟨w.heap.size, 1, none⟩ (.int .u8 119)).setCell ⟨w.heap.size, 2, none⟩ (.int .u8 45)).setCell ⟨w.heap.size, 3, none⟩ (.int .i64 0)).setCell ⟨w.heap.size, 4, none⟩ (.slice none 0 0) = w9
 intro h9b h9d
 obtain ⟨r0, r1, r2, r3, r4⟩ := row5 h9b
 exact bodyPost_ret (v := .agg #[(.int .i64 i), (.int .u8 119), (.int .u8 45), (.int .i64 0), (.slice none 0 0)]) (by simp [results, Tryz.results199, go_sem, r0, r1, r2, r3, r4]) rfl ⟨HWF.out.but.next h9d (fun k hk h => by omega), ⟨i, 119, 45, 0, none, 0, 0⟩, i + 1, false, rfl, hRF.but h9d (by omega), nod_alone hpc (by decide) (by decide) (by rfl) (by decide)⟩
set_option maxHeartbeats 3200000 in
set_option maxRecDepth 100000 in
theorem xnod_a44 (hlt : i < s.size) (hpc : pk s i = 44) (hnc : SC.length ≤ 4) (hng : ng ≤ 3) (hnl : nl ≤ 10) (hs : s.size ≤ 2000)
  (hR : XrB w b s i false (.slice a0 SC.length cap0) (.slice a1 ng cap1) v2) (hv : v2.hl = .slice al nl capl) :
  Calls Tryz.prog 199 #[.pointer (some ⟨b, 0, none⟩)] w fun en w' => But (· = b) w w' ∧ ∃ x j bad', en = .returned (itV x) ∧ XrB w' b s j bad' (.slice a0 SC.length cap0) (.slice a1 ng cap1) v2 ∧ NodR s SC ng nl i false x j bad' := by
 have hbw := hR.lt
 have p3 := hR.c3
 obtain ⟨hB0, hg0, hg1⟩ := two_boxes w b hbw #[.int .i64 0, .int .u8 0, .int .u8 0, .int .i64 0, .slice none 0 0] #[.int .i64 i, .int .u8 0, .int .u8 45, .int .i64 0, .slice none 0 0] 219
 have hR0 := hR.but ((But.alloc (fun _ => False) w (.cells #[.int .i64 0, .int .u8 0, .int .u8 0, .int .i64 0, .slice none 0 0] 219)).trans (But.alloc _ _ (.cells #[.int .i64 i, .int .u8 0, .int .u8 45, .int .i64 0, .slice none 0 0] 219))) (fun h => h)
 have HW0 := hid (InsW.mk hB0 hg0 hg1)
 have HB1 := hid (xtakeByte_any b s i false _ _ v2 _ hs hR0)
 rw [tbP_ok hlt, hpc] at HB1
 clear hB0 hR0 hg0 hg1
 go_enter Tryz.func199, Tryz.ntmps199
 go_wp2_with fail
 refine HB1.out.mono ?_
 rintro en w1 ⟨rfl, hB1, hR1⟩
 have hW1 := HW0.out.next (by omega) (by omega) hB1
 obtain ⟨q0, q1, q2, q3, q4⟩ := row5 hW1.item
 obtain ⟨f0, f1, f2, f3, f4⟩ := froz5 hW1.item
 obtain ⟨y0, y1, y2, y3, y4⟩ := row5 hW1.box
 obtain ⟨g0, g1, g2, g3, g4⟩ := froz5 hW1.box
 have hW2 := hW1.set1 (by omega) (by omega) (.int .u8 44)
 have hR2 := hR1.but (But.setB w1 (w.heap.size + 1) 1 (.int .u8 44)) (by omega)
 have HW2 := hid hW2
 clear hW1 hW2 HW0 HB1 p3
 have HWF := hid (HW2.out)
 have hRF := hR2
 go_wp2_with fail
 have h9b := put5_heap HWF.out.box (.int .i64 i) (.int .u8 44) (.int .u8 45) (.int .i64 0) (.slice none 0 0)
 have h9d := put5_but (w1.setCell ⟨w.heap.size + 1, 1, none⟩ (.int .u8 44)) w.heap.size (.int .i64 i) (.int .u8 44) (.int .u8 45) (.int .i64 0) (.slice none 0 0)
 unfold put5 at h9b h9d
 revert h9b h9d
 generalize (((((w1.setCell ⟨w.heap.size + 1, 1, none⟩ (.int .u8 44)).setCell ⟨w.heap.size, 0, none⟩ (.int .i64 i)).setCell ⟨w.heap.size, 1, none⟩ (.int .u8 44)).setCell ⟨w.heap.size, 2, none⟩ (.int .u8 45)).setCell ⟨w.heap.size, 3, none⟩ (.int .i64 0)).setCell ⟨w.heap.size, 4, none⟩ (.slice none 0 0) = w9
 intro h9b h9d
 obtain ⟨r0, r1, r2, r3, r4⟩ := row5 h9b
 exact bodyPost_ret (v := .agg #[(.int .i64 i), (.int .u8 44), (.int .u8 45), (.int .i64 0), (.slice none 0 0)]) (by simp [results, Tryz.results199, go_sem, r0, r1, r2, r3, r4]) rfl ⟨HWF.out.but.next h9d (fun k hk h => by omega), ⟨i, 44, 45, 0, none, 0, 0⟩, i + 1, false, rfl, hRF.but h9d (by omega), nod_alone hpc (by decide) (by decide) (by rfl) (by decide)⟩
set_option maxHeartbeats 3200000 in
set_option maxRecDepth 100000 in
theorem xnod_a105 (hlt : i < s.size) (hpc : pk s i = 105) (hnc : SC.length ≤ 4) (hng : ng ≤ 3) (hnl : nl ≤ 10) (hs : s.size ≤ 2000)
  (hR : XrB w b s i false (.slice a0 SC.length cap0) (.slice a1 ng cap1) v2) (hv : v2.hl = .slice al nl capl) :
  Calls Tryz.prog 199 #[.pointer (some ⟨b, 0, none⟩)] w fun en w' => But (· = b) w w' ∧ ∃ x j bad', en = .returned (itV x) ∧ XrB w' b s j bad' (.slice a0 SC.length cap0) (.slice a1 ng cap1) v2 ∧ NodR s SC ng nl i false x j bad' := by
 have hbw := hR.lt
 have p3 := hR.c3
 obtain ⟨hB0, hg0, hg1⟩ := two_boxes w b hbw #[.int .i64 0, .int .u8 0, .int .u8 0, .int .i64 0, .slice none 0 0] #[.int .i64 i, .int .u8 0, .int .u8 45, .int .i64 0, .slice none 0 0] 219
 have hR0 := hR.but ((But.alloc (fun _ => False) w (.cells #[.int .i64 0, .int .u8 0, .int .u8 0, .int .i64 0, .slice none 0 0] 219)).trans (But.alloc _ _ (.cells #[.int .i64 i, .int .u8 0, .int .u8 45, .int .i64 0, .slice none 0 0] 219))) (fun h => h)
 have HW0 := hid (InsW.mk hB0 hg0 hg1)
 have HB1 := hid (xtakeByte_any b s i false _ _ v2 _ hs hR0)
 rw [tbP_ok hlt, hpc] at HB1
 clear hB0 hR0 hg0 hg1
 go_enter Tryz.func199, Tryz.ntmps199
 go_wp2_with fail
 refine HB1.out.mono ?_
 rintro en w1 ⟨rfl, hB1, hR1⟩
 have hW1 := HW0.out.next (by omega) (by omega) hB1
 obtain ⟨q0, q1, q2, q3, q4⟩ := row5 hW1.item
 obtain ⟨f0, f1, f2, f3, f4⟩ := froz5 hW1.item
 obtain ⟨y0, y1, y2, y3, y4⟩ := row5 hW1.box
 obtain ⟨g0, g1, g2, g3, g4⟩ := froz5 hW1.box
 have hW2 := hW1.set1 (by omega) (by omega) (.int .u8 105)
 have hR2 := hR1.but (But.setB w1 (w.heap.size + 1) 1 (.int .u8 105)) (by omega)
 have HW2 := hid hW2
 clear hW1 hW2 HW0 HB1 p3
 have HWF := hid (HW2.out)
 have hRF := hR2
 go_wp2_with fail
 have h9b := put5_heap HWF.out.box (.int .i64 i) (.int .u8 105) (.int .u8 45) (.int .i64 0) (.slice none 0 0)
 have h9d := put5_but (w1.setCell ⟨w.heap.size + 1, 1, none⟩ (.int .u8 105)) w.heap.size (.int .i64 i) (.int .u8 105) (.int .u8 45) (.int .i64 0) (.slice none 0 0)
 unfold put5 at h9b h9d
 revert h9b h9d
 generalize (((((w1.setCell ⟨w.heap.size + 1, 1, none⟩ (.int .u8 105)).setCell ⟨w.heap.size, 0, none⟩ (.int .i64 i)).setCell ⟨w.heap.size, 1, none⟩ (.int .u8 105)).setCell ⟨w.heap.size, 2, none⟩ (.int .u8 45)).setCell ⟨w.heap.size, 3, none⟩ (.int .i64 0)).setCell ⟨w.heap.size, 4, none⟩ (.slice none 0 0) = w9
 intro h9b h9d
 obtain ⟨r0, r1, r2, r3, r4⟩ := row5 h9b
 exact bodyPost_ret (v := .agg #[(.int .i64 i), (.int .u8 105), (.int .u8 45), (.int .i64 0), (.slice none 0 0)]) (by simp [results, Tryz.results199, go_sem, r0, r1, r2, r3, r4]) rfl ⟨HWF.out.but.next h9d (fun k hk h => by omega), ⟨i, 105, 45, 0, none, 0, 0⟩, i + 1, false, rfl, hRF.but h9d (by omega), nod_alone hpc (by decide) (by decide) (by rfl) (by decide)⟩
set_option maxHeartbeats 3200000 in
set_option maxRecDepth 100000 in
theorem xnod_a111 (hlt : i < s.size) (hpc : pk s i = 111) (hnc : SC.length ≤ 4) (hng : ng ≤ 3) (hnl : nl ≤ 10) (hs : s.size ≤ 2000)
  (hR : XrB w b s i false (.slice a0 SC.length cap0) (.slice a1 ng cap1) v2) (hv : v2.hl = .slice al nl capl) :
  Calls Tryz.prog 199 #[.pointer (some ⟨b, 0, none⟩)] w fun en w' => But (· = b) w w' ∧ ∃ x j bad', en = .returned (itV x) ∧ XrB w' b s j bad' (.slice a0 SC.length cap0) (.slice a1 ng cap1) v2 ∧ NodR s SC ng nl i false x j bad' := by
 have hbw := hR.lt
 have p3 := hR.c3
 obtain ⟨hB0, hg0, hg1⟩ := two_boxes w b hbw #[.int .i64 0, .int .u8 0, .int .u8 0, .int .i64 0, .slice none 0 0] #[.int .i64 i, .int .u8 0, .int .u8 45, .int .i64 0, .slice none 0 0] 219
 have hR0 := hR.but ((But.alloc (fun _ => False) w (.cells #[.int .i64 0, .int .u8 0, .int .u8 0, .int .i64 0, .slice none 0 0] 219)).trans (But.alloc _ _ (.cells #[.int .i64 i, .int .u8 0, .int .u8 45, .int .i64 0, .slice none 0 0] 219))) (fun h => h)
 have HW0 := hid (InsW.mk hB0 hg0 hg1)
 have HB1 := hid (xtakeByte_any b s i false _ _ v2 _ hs hR0)
 rw [tbP_ok hlt, hpc] at HB1
 clear hB0 hR0 hg0 hg1
 go_enter Tryz.func199, Tryz.ntmps199
 go_wp2_with fail
 refine HB1.out.mono ?_
 rintro en w1 ⟨rfl, hB1, hR1⟩
 have hW1 := HW0.out.next (by omega) (by omega) hB1
 obtain ⟨q0, q1, q2, q3, q4⟩ := row5 hW1.item
 obtain ⟨f0, f1, f2, f3, f4⟩ := froz5 hW1.item
 obtain ⟨y0, y1, y2, y3, y4⟩ := row5 hW1.box
 obtain ⟨g0, g1, g2, g3, g4⟩ := froz5 hW1.box
 have hW2 := hW1.set1 (by omega) (by omega) (.int .u8 111)
 have hR2 := hR1.but (But.setB w1 (w.heap.size + 1) 1 (.int .u8 111)) (by omega)
 have HW2 := hid hW2
 clear hW1 hW2 HW0 HB1 p3
 have HWF := hid (HW2.out)
 have hRF := hR2
 go_wp2_with fail
 have h9b := put5_heap HWF.out.box (.int .i64 i) (.int .u8 111) (.int .u8 45) (.int .i64 0) (.slice none 0 0)
 have h9d := put5_but (w1.setCell ⟨w.heap.size + 1, 1, none⟩ (.int .u8 111)) w.heap.size (.int .i64 i) (.int .u8 111) (.int .u8 45) (.int .i64 0) (.slice none 0 0)
 unfold put5 at h9b h9d
 revert h9b h9d
 generalize (((((w1.setCell ⟨w.heap.size + 1, 1, none⟩ (.int .u8 111)).setCell ⟨w.heap.size, 0, none⟩ (.int .i64 i)).setCell ⟨w.heap.size, 1, none⟩ (.int .u8 111)).setCell ⟨w.heap.size, 2, none⟩ (.int .u8 45)).setCell ⟨w.heap.size, 3, none⟩ (.int .i64 0)).setCell ⟨w.heap.size, 4, none⟩ (.slice none 0 0) = w9
 intro h9b h9d
 obtain ⟨r0, r1, r2, r3, r4⟩ := row5 h9b
 exact bodyPost_ret (v := .agg #[(.int .i64 i), (.int .u8 111), (.int .u8 45), (.int .i64 0), (.slice none 0 0)]) (by simp [results, Tryz.results199, go_sem, r0, r1, r2, r3, r4]) rfl ⟨HWF.out.but.next h9d (fun k hk h => by omega), ⟨i, 111, 45, 0, none, 0, 0⟩, i + 1, false, rfl, hRF.but h9d (by omega), nod_alone hpc (by decide) (by decide) (by rfl) (by decide)⟩
set_option maxHeartbeats 3200000 in
set_option maxRecDepth 100000 in
theorem xnod_d48 (hlt : i < s.size) (hpc : pk s i = 48) (hnc : SC.length ≤ 4) (hng : ng ≤ 3) (hnl : nl ≤ 10) (hs : s.size ≤ 2000)
  (hR : XrB w b s i false (.slice a0 SC.length cap0) (.slice a1 ng cap1) v2) (hv : v2.hl = .slice al nl capl) :
  Calls Tryz.prog 199 #[.pointer (some ⟨b, 0, none⟩)] w fun en w' => But (· = b) w w' ∧ ∃ x j bad', en = .returned (itV x) ∧ XrB w' b s j bad' (.slice a0 SC.length cap0) (.slice a1 ng cap1) v2 ∧ NodR s SC ng nl i false x j bad' := by
 have hbw := hR.lt
 have p3 := hR.c3
 obtain ⟨hB0, hg0, hg1⟩ := two_boxes w b hbw #[.int .i64 0, .int .u8 0, .int .u8 0, .int .i64 0, .slice none 0 0] #[.int .i64 i, .int .u8 0, .int .u8 45, .int .i64 0, .slice none 0 0] 219
 have hR0 := hR.but ((But.alloc (fun _ => False) w (.cells #[.int .i64 0, .int .u8 0, .int .u8 0, .int .i64 0, .slice none 0 0] 219)).trans (But.alloc _ _ (.cells #[.int .i64 i, .int .u8 0, .int .u8 45, .int .i64 0, .slice none 0 0] 219))) (fun h => h)
 have HW0 := hid (InsW.mk hB0 hg0 hg1)
 have HB1 := hid (xtakeByte_any b s i false _ _ v2 _ hs hR0)
 rw [tbP_ok hlt, hpc] at HB1
 clear hB0 hR0 hg0 hg1
 go_enter Tryz.func199, Tryz.ntmps199
 go_wp2_with fail
 refine HB1.out.mono ?_
 rintro en w1 ⟨rfl, hB1, hR1⟩
 have hW1 := HW0.out.next (by omega) (by omega) hB1
 obtain ⟨q0, q1, q2, q3, q4⟩ := row5 hW1.item
 obtain ⟨f0, f1, f2, f3, f4⟩ := froz5 hW1.item
 obtain ⟨y0, y1, y2, y3, y4⟩ := row5 hW1.box
 obtain ⟨g0, g1, g2, g3, g4⟩ := froz5 hW1.box
 have hW2 := hW1.set1 (by omega) (by omega) (.int .u8 48)
 have hR2 := hR1.but (But.setB w1 (w.heap.size + 1) 1 (.int .u8 48)) (by omega)
 have HW2 := hid hW2
 clear hW1 hW2 HW0 HB1 p3
 have hW4 := HW2.out.set3 (by omega) (by omega) (.int .i64 0)
 have hW5 := hW4.set1 (by omega) (by omega) (.int .u8 107)
 have hR5 := (hR2.but (But.setB _ (w.heap.size + 1) 3 (.int .i64 0)) (by omega)).but (But.setB _ (w.heap.size + 1) 1 (.int .u8 107)) (by omega)
 have HWF := hid hW5
 have hRF := hR5
 clear hW4 hW5
 go_wp2_with fail
 have h9b := put5_heap HWF.out.box (.int .i64 i) (.int .u8 107) (.int .u8 45) (.int .i64 0) (.slice none 0 0)
 have h9d := put5_but (((w1.setCell ⟨w.heap.size + 1, 1, none⟩ (.int .u8 48)).setCell ⟨w.heap.size + 1, 3, none⟩ (.int .i64 0)).setCell ⟨w.heap.size + 1, 1, none⟩ (.int .u8 107)) w.heap.size (.int .i64 i) (.int .u8 107) (.int .u8 45) (.int .i64 0) (.slice none 0 0)
 unfold put5 at h9b h9d
 revert h9b h9d
 generalize (((((((w1.setCell ⟨w.heap.size + 1, 1, none⟩ (.int .u8 48)).setCell ⟨w.heap.size + 1, 3, none⟩ (.int .i64 0)).setCell ⟨w.heap.size + 1, 1, none⟩ (.int .u8 107)).setCell ⟨w.heap.size, 0, none⟩ (.int .i64 i)).setCell ⟨w.heap.size, 1, none⟩ (.int .u8 107)).setCell ⟨w.heap.size, 2, none⟩ (.int .u8 45)).setCell ⟨w.heap.size, 3, none⟩ (.int .i64 0)).setCell ⟨w.heap.size, 4, none⟩ (.slice none 0 0) = w9
 intro h9b h9d
 obtain ⟨r0, r1, r2, r3, r4⟩ := row5 h9b
 exact bodyPost_ret (v := .agg #[(.int .i64 i), (.int .u8 107), (.int .u8 45), (.int .i64 0), (.slice none 0 0)]) (by simp [results, Tryz.results199, go_sem, r0, r1, r2, r3, r4]) rfl ⟨HWF.out.but.next h9d (fun k hk h => by omega), ⟨i, 107, 45, 0, none, 0, 0⟩, i + 1, false, rfl, hRF.but h9d (by omega), nod_digit hpc (by decide) (by decide) (by rfl)⟩
set_option maxHeartbeats 3200000 in
set_option maxRecDepth 100000 in
theorem xnod_d49 (hlt : i < s.size) (hpc : pk s i = 49) (hnc : SC.length ≤ 4) (hng : ng ≤ 3) (hnl : nl ≤ 10) (hs : s.size ≤ 2000)
  (hR : XrB w b s i false (.slice a0 SC.length cap0) (.slice a1 ng cap1) v2) (hv : v2.hl = .slice al nl capl) :
  Calls Tryz.prog 199 #[.pointer (some ⟨b, 0, none⟩)] w fun en w' => But (· = b) w w' ∧ ∃ x j bad', en = .returned (itV x) ∧ XrB w' b s j bad' (.slice a0 SC.length cap0) (.slice a1 ng cap1) v2 ∧ NodR s SC ng nl i false x j bad' := by
 have hbw := hR.lt
 have p3 := hR.c3
 obtain ⟨hB0, hg0, hg1⟩ := two_boxes w b hbw #[.int .i64 0, .int .u8 0, .int .u8 0, .int .i64 0, .slice none 0 0] #[.int .i64 i, .int .u8 0, .int .u8 45, .int .i64 0, .slice none 0 0] 219
 have hR0 := hR.but ((But.alloc (fun _ => False) w (.cells #[.int .i64 0, .int .u8 0, .int .u8 0, .int .i64 0, .slice none 0 0] 219)).trans (But.alloc _ _ (.cells #[.int .i64 i, .int .u8 0, .int .u8 45, .int .i64 0, .slice none 0 0] 219))) (fun h => h)
 have HW0 := hid (InsW.mk hB0 hg0 hg1)
 have HB1 := hid (xtakeByte_any b s i false _ _ v2 _ hs hR0)
 rw [tbP_ok hlt, hpc] at HB1
 clear hB0 hR0 hg0 hg1
 go_enter Tryz.func199, Tryz.ntmps199
 go_wp2_with fail
 refine HB1.out.mono ?_
 rintro en w1 ⟨rfl, hB1, hR1⟩
 have hW1 := HW0.out.next (by omega) (by omega) hB1
 obtain ⟨q0, q1, q2, q3, q4⟩ := row5 hW1.item
 obtain ⟨f0, f1, f2, f3, f4⟩ := froz5 hW1.item
 obtain ⟨y0, y1, y2, y3, y4⟩ := row5 hW1.box
 obtain ⟨g0, g1, g2, g3, g4⟩ := froz5 hW1.box
 have hW2 := hW1.set1 (by omega) (by omega) (.int .u8 49)
 have hR2 := hR1.but (But.setB w1 (w.heap.size + 1) 1 (.int .u8 49)) (by omega)
 have HW2 := hid hW2
 clear hW1 hW2 HW0 HB1 p3
 have hW4 := HW2.out.set3 (by omega) (by omega) (.int .i64 1)
 have hW5 := hW4.set1 (by omega) (by omega) (.int .u8 107)
 have hR5 := (hR2.but (But.setB _ (w.heap.size + 1) 3 (.int .i64 1)) (by omega)).but (But.setB _ (w.heap.size + 1) 1 (.int .u8 107)) (by omega)
 have HWF := hid hW5
 have hRF := hR5
 clear hW4 hW5
 go_wp2_with fail
 have h9b := put5_heap HWF.out.box (.int .i64 i) (.int .u8 107) (.int .u8 45) (.int .i64 1) (.slice none 0 0)
 have h9d := put5_but (((w1.setCell ⟨w.heap.size + 1, 1, none⟩ (.int .u8 49)).setCell ⟨w.heap.size + 1, 3, none⟩ (.int .i64 1)).setCell ⟨w.heap.size + 1, 1, none⟩ (.int .u8 107)) w.heap.size (.int .i64 i) (.int .u8 107) (.int .u8 45) (.int .i64 1) (.slice none 0 0)
 unfold put5 at h9b h9d
 revert h9b h9d
 generalize (((((((w1.setCell ⟨w.heap.size + 1, 1, none⟩ (.int .u8 49)).setCell ⟨w.heap.size + 1, 3, none⟩ (.int .i64 1)).setCell ⟨w.heap.size + 1, 1, none⟩ (.int .u8 107)).setCell ⟨w.heap.size, 0, none⟩ (.int .i64 i)).setCell ⟨w.heap.size, 1, none⟩ (.int .u8 107)).setCell ⟨w.heap.size, 2, none⟩ (.int .u8 45)).setCell ⟨w.heap.size, 3, none⟩ (.int .i64 1)).setCell ⟨w.heap.size, 4, none⟩ (.slice none 0 0) = w9
 intro h9b h9d
 obtain ⟨r0, r1, r2, r3, r4⟩ := row5 h9b
 exact bodyPost_ret (v := .agg #[(.int .i64 i), (.int .u8 107), (.int .u8 45), (.int .i64 1), (.slice none 0 0)]) (by simp [results, Tryz.results199, go_sem, r0, r1, r2, r3, r4]) rfl ⟨HWF.out.but.next h9d (fun k hk h => by omega), ⟨i, 107, 45, 1, none, 0, 0⟩, i + 1, false, rfl, hRF.but h9d (by omega), nod_digit hpc (by decide) (by decide) (by rfl)⟩
set_option maxHeartbeats 3200000 in
set_option maxRecDepth 100000 in
theorem xnod_d50 (hlt : i < s.size) (hpc : pk s i = 50) (hnc : SC.length ≤ 4) (hng : ng ≤ 3) (hnl : nl ≤ 10) (hs : s.size ≤ 2000)
  (hR : XrB w b s i false (.slice a0 SC.length cap0) (.slice a1 ng cap1) v2) (hv : v2.hl = .slice al nl capl) :
  Calls Tryz.prog 199 #[.pointer (some ⟨b, 0, none⟩)] w fun en w' => But (· = b) w w' ∧ ∃ x j bad', en = .returned (itV x) ∧ XrB w' b s j bad' (.slice a0 SC.length cap0) (.slice a1 ng cap1) v2 ∧ NodR s SC ng nl i false x j bad' := by
 have hbw := hR.lt
 have p3 := hR.c3
 obtain ⟨hB0, hg0, hg1⟩ := two_boxes w b hbw #[.int .i64 0, .int .u8 0, .int .u8 0, .int .i64 0, .slice none 0 0] #[.int .i64 i, .int .u8 0, .int .u8 45, .int .i64 0, .slice none 0 0] 219
 have hR0 := hR.but ((But.alloc (fun _ => False) w (.cells #[.int .i64 0, .int .u8 0, .int .u8 0, .int .i64 0, .slice none 0 0] 219)).trans (But.alloc _ _ (.cells #[.int .i64 i, .int .u8 0, .int .u8 45, .int .i64 0, .slice none 0 0] 219))) (fun h => h)
 have HW0 := hid (InsW.mk hB0 hg0 hg1)
 have HB1 := hid (xtakeByte_any b s i false _ _ v2 _ hs hR0)
 rw [tbP_ok hlt, hpc] at HB1
 clear hB0 hR0 hg0 hg1
 go_enter Tryz.func199, Tryz.ntmps199
 go_wp2_with fail
 refine HB1.out.mono ?_
 rintro en w1 ⟨rfl, hB1, hR1⟩
 have hW1 := HW0.out.next (by omega) (by omega) hB1
 obtain ⟨q0, q1, q2, q3, q4⟩ := row5 hW1.item
 obtain ⟨f0, f1, f2, f3, f4⟩ := froz5 hW1.item
 obtain ⟨y0, y1, y2, y3, y4⟩ := row5 hW1.box
 obtain ⟨g0, g1, g2, g3, g4⟩ := froz5 hW1.box
 have hW2 := hW1.set1 (by omega) (by omega) (.int .u8 50)
 have hR2 := hR1.but (But.setB w1 (w.heap.size + 1) 1 (.int .u8 50)) (by omega)
 have HW2 := hid hW2
 clear hW1 hW2 HW0 HB1 p3
 have hW4 := HW2.out.set3 (by omega) (by omega) (.int .i64 2)
 have hW5 := hW4.set1 (by omega) (by omega) (.int .u8 107)
 have hR5 := (hR2.but (But.setB _ (w.heap.size + 1) 3 (.int .i64 2)) (by omega)).but (But.setB _ (w.heap.size + 1) 1 (.int .u8 107)) (by omega)
 have HWF := hid hW5
 have hRF := hR5
 clear hW4 hW5
 go_wp2_with fail
 have h9b := put5_heap HWF.out.box (.int .i64 i) (.int .u8 107) (.int .u8 45) (.int .i64 2) (.slice none 0 0)
 have h9d := put5_but (((w1.setCell ⟨w.heap.size + 1, 1, none⟩ (.int .u8 50)).setCell ⟨w.heap.size + 1, 3, none⟩ (.int .i64 2)).setCell ⟨w.heap.size + 1, 1, none⟩ (.int .u8 107)) w.heap.size (.int .i64 i) (.int .u8 107) (.int .u8 45) (.int .i64 2) (.slice none 0 0)
 unfold put5 at h9b h9d
 revert h9b h9d
 generalize (((((((w1.setCell ⟨w.heap.size + 1, 1, none⟩ (.int .u8 50)).setCell ⟨w.heap.size + 1, 3, none⟩ (.int .i64 2)).setCell ⟨w.heap.size + 1, 1, none⟩ (.int .u8 107)).setCell ⟨w.heap.size, 0, none⟩ (.int .i64 i)).setCell ⟨w.heap.size, 1, none⟩ (.int .u8 107)).setCell ⟨w.heap.size, 2, none⟩ (.int .u8 45)).setCell ⟨w.heap.size, 3, none⟩ (.int .i64 2)).setCell ⟨w.heap.size, 4, none⟩ (.slice none 0 0) = w9
 intro h9b h9d
 obtain ⟨r0, r1, r2, r3, r4⟩ := row5 h9b
 exact bodyPost_ret (v := .agg #[(.int .i64 i), (.int .u8 107), (.int .u8 45), (.int .i64 2), (.slice none 0 0)]) (by simp [results, Tryz.results199, go_sem, r0, r1, r2, r3, r4]) rfl ⟨HWF.out.but.next h9d (fun k hk h => by omega), ⟨i, 107, 45, 2, none, 0, 0⟩, i + 1, false, rfl, hRF.but h9d (by omega), nod_digit hpc (by decide) (by decide) (by rfl)⟩
set_option maxHeartbeats 3200000 in
set_option maxRecDepth 100000 in
theorem xnod_d51 (hlt : i < s.size) (hpc : pk s i = 51) (hnc : SC.length ≤ 4) (hng : ng ≤ 3) (hnl : nl ≤ 10) (hs : s.size ≤ 2000)
  (hR : XrB w b s i false (.slice a0 SC.length cap0) (.slice a1 ng cap1) v2) (hv : v2.hl = .slice al nl capl) :
  Calls Tryz.prog 199 #[.pointer (some ⟨b, 0, none⟩)] w fun en w' => But (· = b) w w' ∧ ∃ x j bad', en = .returned (itV x) ∧ XrB w' b s j bad' (.slice a0 SC.length cap0) (.slice a1 ng cap1) v2 ∧ NodR s SC ng nl i false x j bad' := by
 have hbw := hR.lt
 have p3 := hR.c3
 obtain ⟨hB0, hg0, hg1⟩ := two_boxes w b hbw #[.int .i64 0, .int .u8 0, .int .u8 0, .int .i64 0, .slice none 0 0] #[.int .i64 i, .int .u8 0, .int .u8 45, .int .i64 0, .slice none 0 0] 219
 have hR0 := hR.but ((But.alloc (fun _ => False) w (.cells #[.int .i64 0, .int .u8 0, .int .u8 0, .int .i64 0, .slice none 0 0] 219)).trans (But.alloc _ _ (.cells #[.int .i64 i, .int .u8 0, .int .u8 45, .int .i64 0, .slice none 0 0] 219))) (fun h => h)
 have HW0 := hid (InsW.mk hB0 hg0 hg1)
 have HB1 := hid (xtakeByte_any b s i false _ _ v2 _ hs hR0)
 rw [tbP_ok hlt, hpc] at HB1
 clear hB0 hR0 hg0 hg1
 go_enter Tryz.func199, Tryz.ntmps199
 go_wp2_with fail
 refine HB1.out.mono ?_
 rintro en w1 ⟨rfl, hB1, hR1⟩
 have hW1 := HW0.out.next (by omega) (by omega) hB1
 obtain ⟨q0, q1, q2, q3, q4⟩ := row5 hW1.item
 obtain ⟨f0, f1, f2, f3, f4⟩ := froz5 hW1.item
 obtain ⟨y0, y1, y2, y3, y4⟩ := row5 hW1.box
 obtain ⟨g0, g1, g2, g3, g4⟩ := froz5 hW1.box
 have hW2 := hW1.set1 (by omega) (by omega) (.int .u8 51)
 have hR2 := hR1.but (But.setB w1 (w.heap.size + 1) 1 (.int .u8 51)) (by omega)
 have HW2 := hid hW2
 clear hW1 hW2 HW0 HB1 p3
 have hW4 := HW2.out.set3 (by omega) (by omega) (.int .i64 3)
 have hW5 := hW4.set1 (by omega) (by omega) (.int .u8 107)
 have hR5 := (hR2.but (But.setB _ (w.heap.size + 1) 3 (.int .i64 3)) (by omega)).but (But.setB _ (w.heap.size + 1) 1 (.int .u8 107)) (by omega)
 have HWF := hid hW5
 have hRF := hR5
 clear hW4 hW5
 go_wp2_with fail
 have h9b := put5_heap HWF.out.box (.int .i64 i) (.int .u8 107) (.int .u8 45) (.int .i64 3) (.slice none 0 0)
 have h9d := put5_but (((w1.setCell ⟨w.heap.size + 1, 1, none⟩ (.int .u8 51)).setCell ⟨w.heap.size + 1, 3, none⟩ (.int .i64 3)).setCell ⟨w.heap.size + 1, 1, none⟩ (.int .u8 107)) w.heap.size (.int .i64 i) (.int .u8 107) (.int .u8 45) (.int .i64 3) (.slice none 0 0)
 unfold put5 at h9b h9d
 revert h9b h9d
 generalize (((((((w1.setCell ⟨w.heap.size + 1, 1, none⟩ (.int .u8 51)).setCell ⟨w.heap.size + 1, 3, none⟩ (.int .i64 3)).setCell ⟨w.heap.size + 1, 1, none⟩ (.int .u8 107)).setCell ⟨w.heap.size, 0, none⟩ (.int .i64 i)).setCell ⟨w.heap.size, 1, none⟩ (.int .u8 107)).setCell ⟨w.heap.size, 2, none⟩ (.int .u8 45)).setCell ⟨w.heap.size, 3, none⟩ (.int .i64 3)).setCell ⟨w.heap.size, 4, none⟩ (.slice none 0 0) = w9
 intro h9b h9d
 obtain ⟨r0, r1, r2, r3, r4⟩ := row5 h9b
 exact bodyPost_ret (v := .agg #[(.int .i64 i), (.int .u8 107), (.int .u8 45), (.int .i64 3), (.slice none 0 0)]) (by simp [results, Tryz.results199, go_sem, r0, r1, r2, r3, r4]) rfl ⟨HWF.out.but.next h9d (fun k hk h => by omega), ⟨i, 107, 45, 3, none, 0, 0⟩, i + 1, false, rfl, hRF.but h9d (by omega), nod_digit hpc (by decide) (by decide) (by rfl)⟩
set_option maxHeartbeats 3200000 in
set_option maxRecDepth 100000 in
theorem xnod_d52 (hlt : i < s.size) (hpc : pk s i = 52) (hnc : SC.length ≤ 4) (hng : ng ≤ 3) (hnl : nl ≤ 10) (hs : s.size ≤ 2000)
  (hR : XrB w b s i false (.slice a0 SC.length cap0) (.slice a1 ng cap1) v2) (hv : v2.hl = .slice al nl capl) :
  Calls Tryz.prog 199 #[.pointer (some ⟨b, 0, none⟩)] w fun en w' => But (· = b) w w' ∧ ∃ x j bad', en = .returned (itV x) ∧ XrB w' b s j bad' (.slice a0 SC.length cap0) (.slice a1 ng cap1) v2 ∧ NodR s SC ng nl i false x j bad' := by
 have hbw := hR.lt
 have p3 := hR.c3
 obtain ⟨hB0, hg0, hg1⟩ := two_boxes w b hbw #[.int .i64 0, .int .u8 0, .int .u8 0, .int .i64 0, .slice none 0 0] #[.int .i64 i, .int .u8 0, .int .u8 45, .int .i64 0, .slice none 0 0] 219
 have hR0 := hR.but ((But.alloc (fun _ => False) w (.cells #[.int .i64 0, .int .u8 0, .int .u8 0, .int .i64 0, .slice none 0 0] 219)).trans (But.alloc _ _ (.cells #[.int .i64 i, .int .u8 0, .int .u8 45, .int .i64 0, .slice none 0 0] 219))) (fun h => h)
 have HW0 := hid (InsW.mk hB0 hg0 hg1)
 have HB1 := hid (xtakeByte_any b s i false _ _ v2 _ hs hR0)
 rw [tbP_ok hlt, hpc] at HB1
 clear hB0 hR0 hg0 hg1
 go_enter Tryz.func199, Tryz.ntmps199
 go_wp2_with fail
 refine HB1.out.mono ?_
 rintro en w1 ⟨rfl, hB1, hR1⟩
 have hW1 := HW0.out.next (by omega) (by omega) hB1
 obtain ⟨q0, q1, q2, q3, q4⟩ := row5 hW1.item
 obtain ⟨f0, f1, f2, f3, f4⟩ := froz5 hW1.item
 obtain ⟨y0, y1, y2, y3, y4⟩ := row5 hW1.box
 obtain ⟨g0, g1, g2, g3, g4⟩ := froz5 hW1.box
 have hW2 := hW1.set1 (by omega) (by omega) (.int .u8 52)
 have hR2 := hR1.but (But.setB w1 (w.heap.size + 1) 1 (.int .u8 52)) (by omega)
 have HW2 := hid hW2
 clear hW1 hW2 HW0 HB1 p3
 have hW4 := HW2.out.set3 (by omega) (by omega) (.int .i64 4)
 have hW5 := hW4.set1 (by omega) (by omega) (.int .u8 107)
 have hR5 := (hR2.but (But.setB _ (w.heap.size + 1) 3 (.int .i64 4)) (by omega)).but (But.setB _ (w.heap.size + 1) 1 (.int .u8 107)) (by omega)
 have HWF := hid hW5
 have hRF := hR5
 clear hW4 hW5
 go_wp2_with fail
 have h9b := put5_heap HWF.out.box (.int .i64 i) (.int .u8 107) (.int .u8 45) (.int .i64 4) (.slice none 0 0)
 have h9d := put5_but (((w1.setCell ⟨w.heap.size + 1, 1, none⟩ (.int .u8 52)).setCell ⟨w.heap.size + 1, 3, none⟩ (.int .i64 4)).setCell ⟨w.heap.size + 1, 1, none⟩ (.int .u8 107)) w.heap.size (.int .i64 i) (.int .u8 107) (.int .u8 45) (.int .i64 4) (.slice none 0 0)
 unfold put5 at h9b h9d
 revert h9b h9d
 generalize (((((((w1.setCell ⟨w.heap.size + 1, 1, none⟩ (.int .u8 52)).setCell ⟨w.heap.size + 1, 3, none⟩ (.int .i64 4)).setCell ⟨w.heap.size + 1, 1, none⟩ (.int .u8 107)).setCell ⟨w.heap.size, 0, none⟩ (.int .i64 i)).setCell ⟨w.heap.size, 1, none⟩ (.int .u8 107)).setCell ⟨w.heap.size, 2, none⟩ (.int .u8 45)).setCell ⟨w.heap.size, 3, none⟩ (.int .i64 4)).setCell ⟨w.heap.size, 4, none⟩ (.slice none 0 0) = w9
 intro h9b h9d
 obtain ⟨r0, r1, r2, r3, r4⟩ := row5 h9b
 exact bodyPost_ret (v := .agg #[(.int .i64 i), (.int .u8 107), (.int .u8 45), (.int .i64 4), (.slice none 0 0)]) (by simp [results, Tryz.results199, go_sem, r0, r1, r2, r3, r4]) rfl ⟨HWF.out.but.next h9d (fun k hk h => by omega), ⟨i, 107, 45, 4, none, 0, 0⟩, i + 1, false, rfl, hRF.but h9d (by omega), nod_digit hpc (by decide) (by decide) (by rfl)⟩
set_option maxHeartbeats 3200000 in
set_option maxRecDepth 100000 in
theorem xnod_d53 (hlt : i < s.size) (hpc : pk s i = 53) (hnc : SC.length ≤ 4) (hng : ng ≤ 3) (hnl : nl ≤ 10) (hs : s.size ≤ 2000)
  (hR : XrB w b s i false (.slice a0 SC.length cap0) (.slice a1 ng cap1) v2) (hv : v2.hl = .slice al nl capl) :
  Calls Tryz.prog 199 #[.pointer (some ⟨b, 0, none⟩)] w fun en w' => But (· = b) w w' ∧ ∃ x j bad', en = .returned (itV x) ∧ XrB w' b s j bad' (.slice a0 SC.length cap0) (.slice a1 ng cap1) v2 ∧ NodR s SC ng nl i false x j bad' := by
 have hbw := hR.lt
 have p3 := hR.c3
 obtain ⟨hB0, hg0, hg1⟩ := two_boxes w b hbw #[.int .i64 0, .int .u8 0, .int .u8 0, .int .i64 0, .slice none 0 0] #[.int .i64 i, .int .u8 0, .int .u8 45, .int .i64 0, .slice none 0 0] 219
 have hR0 := hR.but ((But.alloc (fun _ => False) w (.cells #[.int .i64 0, .int .u8 0, .int .u8 0, .int .i64 0, .slice none 0 0] 219)).trans (But.alloc _ _ (.cells #[.int .i64 i, .int .u8 0, .int .u8 45, .int .i64 0, .slice none 0 0] 219))) (fun h => h)
 have HW0 := hid (InsW.mk hB0 hg0 hg1)
 have HB1 := hid (xtakeByte_any b s i false _ _ v2 _ hs hR0)
 rw [tbP_ok hlt, hpc] at HB1
 clear hB0 hR0 hg0 hg1
 go_enter Tryz.func199, Tryz.ntmps199
 go_wp2_with fail
 refine HB1.out.mono ?_
 rintro en w1 ⟨rfl, hB1, hR1⟩
 have hW1 := HW0.out.next (by omega) (by omega) hB1
 obtain ⟨q0, q1, q2, q3, q4⟩ := row5 hW1.item
 obtain ⟨f0, f1, f2, f3, f4⟩ := froz5 hW1.item
 obtain ⟨y0, y1, y2, y3, y4⟩ := row5 hW1.box
 obtain ⟨g0, g1, g2, g3, g4⟩ := froz5 hW1.box
 have hW2 := hW1.set1 (by omega) (by omega) (.int .u8 53)
 have hR2 := hR1.but (But.setB w1 (w.heap.size + 1) 1 (.int .u8 53)) (by omega)
 have HW2 := hid hW2
 clear hW1 hW2 HW0 HB1 p3
 have hW4 := HW2.out.set3 (by omega) (by omega) (.int .i64 5)
 have hW5 := hW4.set1 (by omega) (by omega) (.int .u8 107)
 have hR5 := (hR2.but (But.setB _ (w.heap.size + 1) 3 (.int .i64 5)) (by omega)).but (But.setB _ (w.heap.size + 1) 1 (.int .u8 107)) (by omega)
 have HWF := hid hW5
 have hRF := hR5
 clear hW4 hW5
 go_wp2_with fail
 have h9b := put5_heap HWF.out.box (.int .i64 i) (.int .u8 107) (.int .u8 45) (.int .i64 5) (.slice none 0 0)
 have h9d := put5_but (((w1.setCell ⟨w.heap.size + 1, 1, none⟩ (.int .u8 53)).setCell ⟨w.heap.size + 1, 3, none⟩ (.int .i64 5)).setCell ⟨w.heap.size + 1, 1, none⟩ (.int .u8 107)) w.heap.size (.int .i64 i) (.int .u8 107) (.int .u8 45) (.int .i64 5) (.slice none 0 0)
 unfold put5 at h9b h9d
 revert h9b h9d
 generalize (((((((w1.setCell ⟨w.heap.size + 1, 1, none⟩ (.int .u8 53)).setCell ⟨w.heap.size + 1, 3, none⟩ (.int .i64 5)).setCell ⟨w.heap.size + 1, 1, none⟩ (.int .u8 107)).setCell ⟨w.heap.size, 0, none⟩ (.int .i64 i)).setCell ⟨w.heap.size, 1, none⟩ (.int .u8 107)).setCell ⟨w.heap.size, 2, none⟩ (.int .u8 45)).setCell ⟨w.heap.size, 3, none⟩ (.int .i64 5)).setCell ⟨w.heap.size, 4, none⟩ (.slice none 0 0) = w9
 intro h9b h9d
 obtain ⟨r0, r1, r2, r3, r4⟩ := row5 h9b
 exact bodyPost_ret (v := .agg #[(.int .i64 i), (.int .u8 107), (.int .u8 45), (.int .i64 5), (.slice none 0 0)]) (by simp [results, Tryz.results199, go_sem, r0, r1, r2, r3, r4]) rfl ⟨HWF.out.but.next h9d (fun k hk h => by omega), ⟨i, 107, 45, 5, none, 0, 0⟩, i + 1, false, rfl, hRF.but h9d (by omega), nod_digit hpc (by decide) (by decide) (by rfl)⟩
set_option maxHeartbeats 3200000 in
set_option maxRecDepth 100000 in
theorem xnod_d54 (hlt : i < s.size) (hpc : pk s i = 54) (hnc : SC.length ≤ 4) (hng : ng ≤ 3) (hnl : nl ≤ 10) (hs : s.size ≤ 2000)
  (hR : XrB w b s i false (.slice a0 SC.length cap0) (.slice a1 ng cap1) v2) (hv : v2.hl = .slice al nl capl) :
  Calls Tryz.prog 199 #[.pointer (some ⟨b, 0, none⟩)] w fun en w' => But (· = b) w w' ∧ ∃ x j bad', en = .returned (itV x) ∧ XrB w' b s j bad' (.slice a0 SC.length cap0) (.slice a1 ng cap1) v2 ∧ NodR s SC ng nl i false x j bad' := by
 have hbw := hR.lt
 have p3 := hR.c3
 obtain ⟨hB0, hg0, hg1⟩ := two_boxes w b hbw #[.int .i64 0, .int .u8 0, .int .u8 0, .int .i64 0, .slice none 0 0] #[.int .i64 i, .int .u8 0, .int .u8 45, .int .i64 0, .slice none 0 0] 219
 have hR0 := hR.but ((But.alloc (fun _ => False) w (.cells #[.int .i64 0, .int .u8 0, .int .u8 0, .int .i64 0, .slice none 0 0] 219)).trans (But.alloc _ _ (.cells #[.int .i64 i, .int .u8 0, .int .u8 45, .int .i64 0, .slice none 0 0] 219))) (fun h => h)
 have HW0 := hid (InsW.mk hB0 hg0 hg1)
 have HB1 := hid (xtakeByte_any b s i false _ _ v2 _ hs hR0)
 rw [tbP_ok hlt, hpc] at HB1
 clear hB0 hR0 hg0 hg1
 go_enter Tryz.func199, Tryz.ntmps199
 go_wp2_with fail
 refine HB1.out.mono ?_
 rintro en w1 ⟨rfl, hB1, hR1⟩
 have hW1 := HW0.out.next (by omega) (by omega) hB1
 obtain ⟨q0, q1, q2, q3, q4⟩ := row5 hW1.item
 obtain ⟨f0, f1, f2, f3, f4⟩ := froz5 hW1.item
 obtain ⟨y0, y1, y2, y3, y4⟩ := row5 hW1.box
 obtain ⟨g0, g1, g2, g3, g4⟩ := froz5 hW1.box
 have hW2 := hW1.set1 (by omega) (by omega) (.int .u8 54)
 have hR2 := hR1.but (But.setB w1 (w.heap.size + 1) 1 (.int .u8 54)) (by omega)
 have HW2 := hid hW2
 clear hW1 hW2 HW0 HB1 p3
 have hW4 := HW2.out.set3 (by omega) (by omega) (.int .i64 6)
 have hW5 := hW4.set1 (by omega) (by omega) (.int .u8 107)
 have hR5 := (hR2.but (But.setB _ (w.heap.size + 1) 3 (.int .i64 6)) (by omega)).but (But.setB _ (w.heap.size + 1) 1 (.int .u8 107)) (by omega)
 have HWF := hid hW5
 have hRF := hR5
 clear hW4 hW5
 go_wp2_with fail
 have h9b := put5_heap HWF.out.box (.int .i64 i) (.int .u8 107) (.int .u8 45) (.int .i64 6) (.slice none 0 0)
 have h9d := put5_but (((w1.setCell ⟨w.heap.size + 1, 1, none⟩ (.int .u8 54)).setCell ⟨w.heap.size + 1, 3, none⟩ (.int .i64 6)).setCell ⟨w.heap.size + 1, 1, none⟩ (.int .u8 107)) w.heap.size (.int .i64 i) (.int .u8 107) (.int .u8 45) (.int .i64 6) (.slice none 0 0)
 unfold put5 at h9b h9d
 revert h9b h9d
 generalize (((((((w1.setCell ⟨w.heap.size + 1, 1, none⟩ (.int .u8 54)).setCell ⟨w.heap.size + 1, 3, none⟩ (.int .i64 6)).setCell ⟨w.heap.size + 1, 1, none⟩ (.int .u8 107)).setCell ⟨w.heap.size, 0, none⟩ (.int .i64 i)).setCell ⟨w.heap.size, 1, none⟩ (.int .u8 107)).setCell ⟨w.heap.size, 2, none⟩ (.int .u8 45)).setCell ⟨w.heap.size, 3, none⟩ (.int .i64 6)).setCell ⟨w.heap.size, 4, none⟩ (.slice none 0 0) = w9
 intro h9b h9d
 obtain ⟨r0, r1, r2, r3, r4⟩ := row5 h9b
 exact bodyPost_ret (v := .agg #[(.int .i64 i), (.int .u8 107), (.int .u8 45), (.int .i64 6), (.slice none 0 0)]) (by simp [results, Tryz.results199, go_sem, r0, r1, r2, r3, r4]) rfl ⟨HWF.out.but.next h9d (fun k hk h => by omega), ⟨i, 107, 45, 6, none, 0, 0⟩, i + 1, false, rfl, hRF.but h9d (by omega), nod_digit hpc (by decide) (by decide) (by rfl)⟩
set_option maxHeartbeats 3200000 in
set_option maxRecDepth 100000 in
theorem xnod_d55 (hlt : i < s.size) (hpc : pk s i = 55) (hnc : SC.length ≤ 4) (hng : ng ≤ 3) (hnl : nl ≤ 10) (hs : s.size ≤ 2000)
  (hR : XrB w b s i false (.slice a0 SC.length cap0) (.slice a1 ng cap1) v2) (hv : v2.hl = .slice al nl capl) :
  Calls Tryz.prog 199 #[.pointer (some ⟨b, 0, none⟩)] w fun en w' => But (· = b) w w' ∧ ∃ x j bad', en = .returned (itV x) ∧ XrB w' b s j bad' (.slice a0 SC.length cap0) (.slice a1 ng cap1) v2 ∧ NodR s SC ng nl i false x j bad' := by
 have hbw := hR.lt
 have p3 := hR.c3
 obtain ⟨hB0, hg0, hg1⟩ := two_boxes w b hbw #[.int .i64 0, .int .u8 0, .int .u8 0, .int .i64 0, .slice none 0 0] #[.int .i64 i, .int .u8 0, .int .u8 45, .int .i64 0, .slice none 0 0] 219
 have hR0 := hR.but ((But.alloc (fun _ => False) w (.cells #[.int .i64 0, .int .u8 0, .int .u8 0, .int .i64 0, .slice none 0 0] 219)).trans (But.alloc _ _ (.cells #[.int .i64 i, .int .u8 0, .int .u8 45, .int .i64 0, .slice none 0 0] 219))) (fun h => h)
 have HW0 := hid (InsW.mk hB0 hg0 hg1)
 have HB1 := hid (xtakeByte_any b s i false _ _ v2 _ hs hR0)
 rw [tbP_ok hlt, hpc] at HB1
 clear hB0 hR0 hg0 hg1
 go_enter Tryz.func199, Tryz.ntmps199
 go_wp2_with fail
 refine HB1.out.mono ?_
 rintro en w1 ⟨rfl, hB1, hR1⟩
 have hW1 := HW0.out.next (by omega) (by omega) hB1
 obtain ⟨q0, q1, q2, q3, q4⟩ := row5 hW1.item
 obtain ⟨f0, f1, f2, f3, f4⟩ := froz5 hW1.item
 obtain ⟨y0, y1, y2, y3, y4⟩ := row5 hW1.box
 obtain ⟨g0, g1, g2, g3, g4⟩ := froz5 hW1.box
 have hW2 := hW1.set1 (by omega) (by omega) (.int .u8 55)
 have hR2 := hR1.but (But.setB w1 (w.heap.size + 1) 1 (.int .u8 55)) (by omega)
 have HW2 := hid hW2
 clear hW1 hW2 HW0 HB1 p3
 have hW4 := HW2.out.set3 (by omega) (by omega) (.int .i64 7)
 have hW5 := hW4.set1 (by omega) (by omega) (.int .u8 107)
 have hR5 := (hR2.but (But.setB _ (w.heap.size + 1) 3 (.int .i64 7)) (by omega)).but (But.setB _ (w.heap.size + 1) 1 (.int .u8 107)) (by omega)
 have HWF := hid hW5
 have hRF := hR5
 clear hW4 hW5
 go_wp2_with fail
 have h9b := put5_heap HWF.out.box (.int .i64 i) (.int .u8 107) (.int .u8 45) (.int .i64 7) (.slice none 0 0)
 have h9d := put5_but (((w1.setCell ⟨w.heap.size + 1, 1, none⟩ (.int .u8 55)).setCell ⟨w.heap.size + 1, 3, none⟩ (.int .i64 7)).setCell ⟨w.heap.size + 1, 1, none⟩ (.int .u8 107)) w.heap.size (.int .i64 i) (.int .u8 107) (.int .u8 45) (.int .i64 7) (.slice none 0 0)
 unfold put5 at h9b h9d
 revert h9b h9d
 generalize (((((((w1.setCell ⟨w.heap.size + 1, 1, none⟩ (.int .u8 55)).setCell ⟨w.heap.size + 1, 3, none⟩ (.int .i64 7)).setCell ⟨w.heap.size + 1, 1, none⟩ (.int .u8 107)).setCell ⟨w.heap.size, 0, none⟩ (.int .i64 i)).setCell ⟨w.heap.size, 1, none⟩ (.int .u8 107)).setCell ⟨w.heap.size, 2, none⟩ (.int .u8 45)).setCell ⟨w.heap.size, 3, none⟩ (.int .i64 7)).setCell ⟨w.heap.size, 4, none⟩ (.slice none 0 0) = w9
 intro h9b h9d
 obtain ⟨r0, r1, r2, r3, r4⟩ := row5 h9b
 exact bodyPost_ret (v := .agg #[(.int .i64 i), (.int .u8 107), (.int .u8 45), (.int .i64 7), (.slice none 0 0)]) (by simp [results, Tryz.results199, go_sem, r0, r1, r2, r3, r4]) rfl ⟨HWF.out.but.next h9d (fun k hk h => by omega), ⟨i, 107, 45, 7, none, 0, 0⟩, i + 1, false, rfl, hRF.but h9d (by omega), nod_digit hpc (by decide) (by decide) (by rfl)⟩
set_option maxHeartbeats 3200000 in
set_option maxRecDepth 100000 in
theorem xnod_d56 (hlt : i < s.size) (hpc : pk s i = 56) (hnc : SC.length ≤ 4) (hng : ng ≤ 3) (hnl : nl ≤ 10) (hs : s.size ≤ 2000)
  (hR : XrB w b s i false (.slice a0 SC.length cap0) (.slice a1 ng cap1) v2) (hv : v2.hl = .slice al nl capl) :
  Calls Tryz.prog 199 #[.pointer (some ⟨b, 0, none⟩)] w fun en w' => But (· = b) w w' ∧ ∃ x j bad', en = .returned (itV x) ∧ XrB w' b s j bad' (.slice a0 SC.length cap0) (.slice a1 ng cap1) v2 ∧ NodR s SC ng nl i false x j bad' := by
 have hbw := hR.lt
 have p3 := hR.c3
 obtain ⟨hB0, hg0, hg1⟩ := two_boxes w b hbw #[.int .i64 0, .int .u8 0, .int .u8 0, .int .i64 0, .slice none 0 0] #[.int .i64 i, .int .u8 0, .int .u8 45, .int .i64 0, .slice none 0 0] 219
 have hR0 := hR.but ((But.alloc (fun _ => False) w (.cells #[.int .i64 0, .int .u8 0, .int .u8 0, .int .i64 0, .slice none 0 0] 219)).trans (But.alloc _ _ (.cells #[.int .i64 i, .int .u8 0, .int .u8 45, .int .i64 0, .slice none 0 0] 219))) (fun h => h)
 have HW0 := hid (InsW.mk hB0 hg0 hg1)
 have HB1 := hid (xtakeByte_any b s i false _ _ v2 _ hs hR0)
 rw [tbP_ok hlt, hpc] at HB1
 clear hB0 hR0 hg0 hg1
 go_enter Tryz.func199, Tryz.ntmps199
 go_wp2_with fail
 refine HB1.out.mono ?_
 rintro en w1 ⟨rfl, hB1, hR1⟩
 have hW1 := HW0.out.next (by omega) (by omega) hB1
 obtain ⟨q0, q1, q2, q3, q4⟩ := row5 hW1.item
 obtain ⟨f0, f1, f2, f3, f4⟩ := froz5 hW1.item
 obtain ⟨y0, y1, y2, y3, y4⟩ := row5 hW1.box
 obtain ⟨g0, g1, g2, g3, g4⟩ := froz5 hW1.box
 have hW2 := hW1.set1 (by omega) (by omega) (.int .u8 56)
 have hR2 := hR1.but (But.setB w1 (w.heap.size + 1) 1 (.int .u8 56)) (by omega)
 have HW2 := hid hW2
 clear hW1 hW2 HW0 HB1 p3
 have hW4 := HW2.out.set3 (by omega) (by omega) (.int .i64 8)
 have hW5 := hW4.set1 (by omega) (by omega) (.int .u8 107)
 have hR5 := (hR2.but (But.setB _ (w.heap.size + 1) 3 (.int .i64 8)) (by omega)).but (But.setB _ (w.heap.size + 1) 1 (.int .u8 107)) (by omega)
 have HWF := hid hW5
 have hRF := hR5
 clear hW4 hW5
 go_wp2_with fail
 have h9b := put5_heap HWF.out.box (.int .i64 i) (.int .u8 107) (.int .u8 45) (.int .i64 8) (.slice none 0 0)
 have h9d := put5_but (((w1.setCell ⟨w.heap.size + 1, 1, none⟩ (.int .u8 56)).setCell ⟨w.heap.size + 1, 3, none⟩ (.int .i64 8)).setCell ⟨w.heap.size + 1, 1, none⟩ (.int .u8 107)) w.heap.size (.int .i64 i) (.int .u8 107) (.int .u8 45) (.int .i64 8) (.slice none 0 0)
 unfold put5 at h9b h9d
 revert h9b h9d
 generalize (((((((w1.setCell ⟨w.heap.size + 1, 1, none⟩ (.int .u8 56)).setCell ⟨w.heap.size + 1, 3, none⟩ (.int .i64 8)).setCell ⟨w.heap.size + 1, 1, none⟩ (.int .u8 107)).setCell ⟨w.heap.size, 0, none⟩ (.int .i64 i)).setCell ⟨w.heap.size, 1, none⟩ (.int .u8 107)).setCell ⟨w.heap.size, 2, none⟩ (.int .u8 45)).setCell ⟨w.heap.size, 3, none⟩ (.int .i64 8)).setCell ⟨w.heap.size, 4, none⟩ (.slice none 0 0) = w9
 intro h9b h9d
 obtain ⟨r0, r1, r2, r3, r4⟩ := row5 h9b
 exact bodyPost_ret (v := .agg #[(.int .i64 i), (.int .u8 107), (.int .u8 45), (.int .i64 8), (.slice none 0 0)]) (by simp [results, Tryz.results199, go_sem, r0, r1, r2, r3, r4]) rfl ⟨HWF.out.but.next h9d (fun k hk h => by omega), ⟨i, 107, 45, 8, none, 0, 0⟩, i + 1, false, rfl, hRF.but h9d (by omega), nod_digit hpc (by decide) (by decide) (by rfl)⟩
set_option maxHeartbeats 3200000 in
set_option maxRecDepth 100000 in
theorem xnod_d57 (hlt : i < s.size) (hpc : pk s i = 57) (hnc : SC.length ≤ 4) (hng : ng ≤ 3) (hnl : nl ≤ 10) (hs : s.size ≤ 2000)
  (hR : XrB w b s i false (.slice a0 SC.length cap0) (.slice a1 ng cap1) v2) (hv : v2.hl = .slice al nl capl) :
  Calls Tryz.prog 199 #[.pointer (some ⟨b, 0, none⟩)] w fun en w' => But (· = b) w w' ∧ ∃ x j bad', en = .returned (itV x) ∧ XrB w' b s j bad' (.slice a0 SC.length cap0) (.slice a1 ng cap1) v2 ∧ NodR s SC ng nl i false x j bad' := by
 have hbw := hR.lt
 have p3 := hR.c3
 obtain ⟨hB0, hg0, hg1⟩ := two_boxes w b hbw #[.int .i64 0, .int .u8 0, .int .u8 0, .int .i64 0, .slice none 0 0] #[.int .i64 i, .int .u8 0, .int .u8 45, .int .i64 0, .slice none 0 0] 219
 have hR0 := hR.but ((But.alloc (fun _ => False) w (.cells #[.int .i64 0, .int .u8 0, .int .u8 0, .int .i64 0, .slice none 0 0] 219)).trans (But.alloc _ _ (.cells #[.int .i64 i, .int .u8 0, .int .u8 45, .int .i64 0, .slice none 0 0] 219))) (fun h => h)
 have HW0 := hid (InsW.mk hB0 hg0 hg1)
 have HB1 := hid (xtakeByte_any b s i false _ _ v2 _ hs hR0)
 rw [tbP_ok hlt, hpc] at HB1
 clear hB0 hR0 hg0 hg1
 go_enter Tryz.func199, Tryz.ntmps199
 go_wp2_with fail
 refine HB1.out.mono ?_
 rintro en w1 ⟨rfl, hB1, hR1⟩
 have hW1 := HW0.out.next (by omega) (by omega) hB1
 obtain ⟨q0, q1, q2, q3, q4⟩ := row5 hW1.item
 obtain ⟨f0, f1, f2, f3, f4⟩ := froz5 hW1.item
 obtain ⟨y0, y1, y2, y3, y4⟩ := row5 hW1.box
 obtain ⟨g0, g1, g2, g3, g4⟩ := froz5 hW1.box
 have hW2 := hW1.set1 (by omega) (by omega) (.int .u8 57)
 have hR2 := hR1.but (But.setB w1 (w.heap.size + 1) 1 (.int .u8 57)) (by omega)
 have HW2 := hid hW2
 clear hW1 hW2 HW0 HB1 p3
 have hW4 := HW2.out.set3 (by omega) (by omega) (.int .i64 9)
 have hW5 := hW4.set1 (by omega) (by omega) (.int .u8 107)
 have hR5 := (hR2.but (But.setB _ (w.heap.size + 1) 3 (.int .i64 9)) (by omega)).but (But.setB _ (w.heap.size + 1) 1 (.int .u8 107)) (by omega)
 have HWF := hid hW5
 have hRF := hR5
 clear hW4 hW5
 go_wp2_with fail
 have h9b := put5_heap HWF.out.box (.int .i64 i) (.int .u8 107) (.int .u8 45) (.int .i64 9) (.slice none 0 0)
 have h9d := put5_but (((w1.setCell ⟨w.heap.size + 1, 1, none⟩ (.int .u8 57)).setCell ⟨w.heap.size + 1, 3, none⟩ (.int .i64 9)).setCell ⟨w.heap.size + 1, 1, none⟩ (.int .u8 107)) w.heap.size (.int .i64 i) (.int .u8 107) (.int .u8 45) (.int .i64 9) (.slice none 0 0)
 unfold put5 at h9b h9d
 revert h9b h9d
 generalize (((((((w1.setCell ⟨w.heap.size + 1, 1, none⟩ (.int .u8 57)).setCell ⟨w.heap.size + 1, 3, none⟩ (.int .i64 9)).setCell ⟨w.heap.size + 1, 1, none⟩ (.int .u8 107)).setCell ⟨w.heap.size, 0, none⟩ (.int .i64 i)).setCell ⟨w.heap.size, 1, none⟩ (.int .u8 107)).setCell ⟨w.heap.size, 2, none⟩ (.int .u8 45)).setCell ⟨w.heap.size, 3, none⟩ (.int .i64 9)).setCell ⟨w.heap.size, 4, none⟩ (.slice none 0 0) = w9
 intro h9b h9d
 obtain ⟨r0, r1, r2, r3, r4⟩ := row5 h9b
 exact bodyPost_ret (v := .agg #[(.int .i64 i), (.int .u8 107), (.int .u8 45), (.int .i64 9), (.slice none 0 0)]) (by simp [results, Tryz.results199, go_sem, r0, r1, r2, r3, r4]) rfl ⟨HWF.out.but.next h9d (fun k hk h => by omega), ⟨i, 107, 45, 9, none, 0, 0⟩, i + 1, false, rfl, hRF.but h9d (by omega), nod_digit hpc (by decide) (by decide) (by rfl)⟩
set_option maxHeartbeats 3200000 in
set_option maxRecDepth 100000 in
theorem xnod_other (bad : Bool) (c : UInt8) (j1 : Nat) (bad1 : Bool) (hT : tbP s i bad = (c, j1, bad1)) (hn : ¬ (c.toNat = 114 ∨ c.toNat = 122 ∨ c.toNat = 43 ∨ c.toNat = 45 ∨ c.toNat = 42 ∨ c.toNat = 47 ∨ c.toNat = 60 ∨ c.toNat = 61 ∨ c.toNat = 101 ∨ c.toNat = 119 ∨ c.toNat = 44 ∨ c.toNat = 105 ∨ c.toNat = 111 ∨ c.toNat = 48 ∨ c.toNat = 49 ∨ c.toNat = 50 ∨ c.toNat = 51 ∨ c.toNat = 52 ∨ c.toNat = 53 ∨ c.toNat = 54 ∨ c.toNat = 55 ∨ c.toNat = 56 ∨ c.toNat = 57)) (hI : ∀ x j bad', operX s SC ng nl i c j1 bad1 = (x, j, bad') → NodR s SC ng nl i bad x j bad') (hnc : SC.length ≤ 4) (hng : ng ≤ 3) (hnl : nl ≤ 10) (hs : s.size ≤ 2000)
  (hR : XrB w b s i bad (.slice a0 SC.length cap0) (.slice a1 ng cap1) v2) (hv : v2.hl = .slice al nl capl) (hG : c.toNat = 103 ∨ c.toNat = 112 → WfC SC ∧ TcV w base (.slice a0 SC.length cap0) (SC.map toX)) (hb : b < base) :
  Calls Tryz.prog 199 #[.pointer (some ⟨b, 0, none⟩)] w fun en w' => But (· = b) w w' ∧ ∃ x j bad', en = .returned (itV x) ∧ XrB w' b s j bad' (.slice a0 SC.length cap0) (.slice a1 ng cap1) v2 ∧ NodR s SC ng nl i bad x j bad' := by
 have hbw := hR.lt
 have p3 := hR.c3
 obtain ⟨hB0, hg0, hg1⟩ := two_boxes w b hbw #[.int .i64 0, .int .u8 0, .int .u8 0, .int .i64 0, .slice none 0 0] #[.int .i64 i, .int .u8 0, .int .u8 45, .int .i64 0, .slice none 0 0] 219
 have hR0 := hR.but ((But.alloc (fun _ => False) w (.cells #[.int .i64 0, .int .u8 0, .int .u8 0, .int .i64 0, .slice none 0 0] 219)).trans (But.alloc _ _ (.cells #[.int .i64 i, .int .u8 0, .int .u8 45, .int .i64 0, .slice none 0 0] 219))) (fun h => h)
 have HW0 := hid (InsW.mk hB0 hg0 hg1)
 have HB1 := hid (xtakeByte_any b s i bad _ _ v2 _ hs hR0)
 rw [hT] at HB1
 have e114 : ((c.toNat : Int) == 114) = false := by rw [beq_eq_false_iff_ne]; omega
 have e122 : ((c.toNat : Int) == 122) = false := by rw [beq_eq_false_iff_ne]; omega
 have e43 : ((c.toNat : Int) == 43) = false := by rw [beq_eq_false_iff_ne]; omega
 have e45 : ((c.toNat : Int) == 45) = false := by rw [beq_eq_false_iff_ne]; omega
 have e42 : ((c.toNat : Int) == 42) = false := by rw [beq_eq_false_iff_ne]; omega
 have e47 : ((c.toNat : Int) == 47) = false := by rw [beq_eq_false_iff_ne]; omega
 have e60 : ((c.toNat : Int) == 60) = false := by rw [beq_eq_false_iff_ne]; omega
 have e61 : ((c.toNat : Int) == 61) = false := by rw [beq_eq_false_iff_ne]; omega
 have e101 : ((c.toNat : Int) == 101) = false := by rw [beq_eq_false_iff_ne]; omega
 have e119 : ((c.toNat : Int) == 119) = false := by rw [beq_eq_false_iff_ne]; omega
 have e44 : ((c.toNat : Int) == 44) = false := by rw [beq_eq_false_iff_ne]; omega
 have e105 : ((c.toNat : Int) == 105) = false := by rw [beq_eq_false_iff_ne]; omega
 have e111 : ((c.toNat : Int) == 111) = false := by rw [beq_eq_false_iff_ne]; omega
 have e48 : ((c.toNat : Int) == 48) = false := by rw [beq_eq_false_iff_ne]; omega
 have e49 : ((c.toNat : Int) == 49) = false := by rw [beq_eq_false_iff_ne]; omega
 have e50 : ((c.toNat : Int) == 50) = false := by rw [beq_eq_false_iff_ne]; omega
 have e51 : ((c.toNat : Int) == 51) = false := by rw [beq_eq_false_iff_ne]; omega
 have e52 : ((c.toNat : Int) == 52) = false := by rw [beq_eq_false_iff_ne]; omega
 have e53 : ((c.toNat : Int) == 53) = false := by rw [beq_eq_false_iff_ne]; omega
 have e54 : ((c.toNat : Int) == 54) = false := by rw [beq_eq_false_iff_ne]; omega
 have e55 : ((c.toNat : Int) == 55) = false := by rw [beq_eq_false_iff_ne]; omega
 have e56 : ((c.toNat : Int) == 56) = false := by rw [beq_eq_false_iff_ne]; omega
 have e57 : ((c.toNat : Int) == 57) = false := by rw [beq_eq_false_iff_ne]; omega
 clear hn
 clear hB0 hR0 hg0 hg1
 go_enter Tryz.func199, Tryz.ntmps199
 go_wp2_with fail
 refine HB1.out.mono ?_
 rintro en w1 ⟨rfl, hB1, hR1⟩
 have hW1 := HW0.out.next (by omega) (by omega) hB1
 obtain ⟨q0, q1, q2, q3, q4⟩ := row5 hW1.item
 obtain ⟨f0, f1, f2, f3, f4⟩ := froz5 hW1.item
 obtain ⟨y0, y1, y2, y3, y4⟩ := row5 hW1.box
 obtain ⟨g0, g1, g2, g3, g4⟩ := froz5 hW1.box
 have hW2 := hW1.set1 (by omega) (by omega) (.int .u8 c.toNat)
 have hR2 := hR1.but (But.setB w1 (w.heap.size + 1) 1 (.int .u8 c.toNat)) (by omega)
 have HW2 := hid hW2
 clear hW1 hW2 HW0 HB1 p3
 have HGG := hid (fun h => hG h)
 have HII := hid hI
 clear hG hI
 have hop := xoper_any b base s j1 SC a0 a1 al ng nl cap0 cap1 capl v2 (w1.setCell ⟨w.heap.size + 1, 1, none⟩ (.int .u8 c.toNat)) i bad1 c hnc hng hnl hs hR2 hv (fun h => ⟨(HGG.out h).1, (HGG.out h).2.but HW2.out.but (fun g e cur _ _ hg he => by omega)⟩) hb
 unfold itV at hop
 have HOP := hid hop
 clear hop
 go_wp2_with fail
 refine HOP.out.mono ?_
 rintro en w3 ⟨hB3, x, j3, b3, rfl, hR3, hO3⟩
 clear q0 q1 q2 q3 q4 f0 f1 f2 f3 f4 y0 y1 y2 y3 y4 g0 g1 g2 g3 g4
 have hW3 := HW2.out.next (by omega) (by omega) hB3
 obtain ⟨q0, q1, q2, q3, q4⟩ := row5 hW3.item
 obtain ⟨f0, f1, f2, f3, f4⟩ := froz5 hW3.item
 obtain ⟨y0, y1, y2, y3, y4⟩ := row5 hW3.box
 obtain ⟨g0, g1, g2, g3, g4⟩ := froz5 hW3.box
 have HWF := hid (hW3)
 have hRF := hR3
 go_wp2_with fail
 have h9b := put5_heap HWF.out.box (.int .i64 x.place) (.int .u8 x.op.toNat) (.int .u8 x.cls.toNat) (.int .i64 x.num) (.slice x.pa x.pn x.pc)
 have h9d := put5_but w3 w.heap.size (.int .i64 x.place) (.int .u8 x.op.toNat) (.int .u8 x.cls.toNat) (.int .i64 x.num) (.slice x.pa x.pn x.pc)
 unfold put5 at h9b h9d
 revert h9b h9d
 generalize ((((w3.setCell ⟨w.heap.size, 0, none⟩ (.int .i64 x.place)).setCell ⟨w.heap.size, 1, none⟩ (.int .u8 x.op.toNat)).setCell ⟨w.heap.size, 2, none⟩ (.int .u8 x.cls.toNat)).setCell ⟨w.heap.size, 3, none⟩ (.int .i64 x.num)).setCell ⟨w.heap.size, 4, none⟩ (.slice x.pa x.pn x.pc) = w9
 intro h9b h9d
 obtain ⟨r0, r1, r2, r3, r4⟩ := row5 h9b
 exact bodyPost_ret (v := .agg #[(.int .i64 x.place), (.int .u8 x.op.toNat), (.int .u8 x.cls.toNat), (.int .i64 x.num), (.slice x.pa x.pn x.pc)]) (by simp [results, Tryz.results199, go_sem, r0, r1, r2, r3, r4]) rfl ⟨HWF.out.but.next h9d (fun k hk h => by omega), x, j3, b3, rfl, hRF.but h9d (by omega), HII.out _ _ _ hO3⟩
theorem xnode_all (bad : Bool) (hG : bad = true ∨ (WfC SC ∧ TcV w base (.slice a0 SC.length cap0) (SC.map toX))) (hnc : SC.length ≤ 4) (hng : ng ≤ 3) (hnl : nl ≤ 10) (hs : s.size ≤ 2000)
  (hR : XrB w b s i bad (.slice a0 SC.length cap0) (.slice a1 ng cap1) v2) (hv : v2.hl = .slice al nl capl) (hb : b < base) :
  Calls Tryz.prog 199 #[.pointer (some ⟨b, 0, none⟩)] w fun en w' => But (· = b) w w' ∧ ∃ x j bad', en = .returned (itV x) ∧ XrB w' b s j bad' (.slice a0 SC.length cap0) (.slice a1 ng cap1) v2 ∧ NodR s SC ng nl i bad x j bad' := by
 by_cases hz : bad = true ∨ s.size ≤ i
 ·refine xnod_other b base s i SC a0 a1 al ng nl cap0 cap1 capl v2 w bad 0 i true (tbP_zero hz) (by decide) (fun x j bad' h => ?_) hnc hng hnl hs hR hv (fun h => by simp at h) hb
  rw [oper_end] at h
  obtain ⟨rfl, rfl, rfl⟩ := (by simpa using h : _ ∧ _ ∧ _)
  exact nod_end hz
 have hz' := not_or.1 hz
 have hbf : bad = false := by simpa using hz'.1
 subst hbf
 have hlt : i < s.size := by omega
 have hG' : WfC SC ∧ TcV w base (.slice a0 SC.length cap0) (SC.map toX) := by rcases hG with h | h; cases h; exact h
 have e : ∀ n : Nat, n < 256 → (pk s i).toNat = n → pk s i = UInt8.ofNat n := fun n hn h => (u8n hn).1 h
 by_cases h114 : (pk s i).toNat = 114
 ·exact xnod_a114 b s i SC a0 a1 al ng nl cap0 cap1 capl v2 w hlt (e _ (by decide) h114) hnc hng hnl hs hR hv
 by_cases h122 : (pk s i).toNat = 122
 ·exact xnod_a122 b s i SC a0 a1 al ng nl cap0 cap1 capl v2 w hlt (e _ (by decide) h122) hnc hng hnl hs hR hv
 by_cases h43 : (pk s i).toNat = 43
 ·exact xnod_a43 b s i SC a0 a1 al ng nl cap0 cap1 capl v2 w hlt (e _ (by decide) h43) hnc hng hnl hs hR hv
 by_cases h45 : (pk s i).toNat = 45
 ·exact xnod_a45 b s i SC a0 a1 al ng nl cap0 cap1 capl v2 w hlt (e _ (by decide) h45) hnc hng hnl hs hR hv
 by_cases h42 : (pk s i).toNat = 42
 ·exact xnod_a42 b s i SC a0 a1 al ng nl cap0 cap1 capl v2 w hlt (e _ (by decide) h42) hnc hng hnl hs hR hv
 by_cases h47 : (pk s i).toNat = 47
 ·exact xnod_a47 b s i SC a0 a1 al ng nl cap0 cap1 capl v2 w hlt (e _ (by decide) h47) hnc hng hnl hs hR hv
 by_cases h60 : (pk s i).toNat = 60
 ·exact xnod_a60 b s i SC a0 a1 al ng nl cap0 cap1 capl v2 w hlt (e _ (by decide) h60) hnc hng hnl hs hR hv
 by_cases h61 : (pk s i).toNat = 61
 ·exact xnod_a61 b s i SC a0 a1 al ng nl cap0 cap1 capl v2 w hlt (e _ (by decide) h61) hnc hng hnl hs hR hv
 by_cases h101 : (pk s i).toNat = 101
 ·exact xnod_a101 b s i SC a0 a1 al ng nl cap0 cap1 capl v2 w hlt (e _ (by decide) h101) hnc hng hnl hs hR hv
 by_cases h119 : (pk s i).toNat = 119
 ·exact xnod_a119 b s i SC a0 a1 al ng nl cap0 cap1 capl v2 w hlt (e _ (by decide) h119) hnc hng hnl hs hR hv
 by_cases h44 : (pk s i).toNat = 44
 ·exact xnod_a44 b s i SC a0 a1 al ng nl cap0 cap1 capl v2 w hlt (e _ (by decide) h44) hnc hng hnl hs hR hv
 by_cases h105 : (pk s i).toNat = 105
 ·exact xnod_a105 b s i SC a0 a1 al ng nl cap0 cap1 capl v2 w hlt (e _ (by decide) h105) hnc hng hnl hs hR hv
 by_cases h111 : (pk s i).toNat = 111
 ·exact xnod_a111 b s i SC a0 a1 al ng nl cap0 cap1 capl v2 w hlt (e _ (by decide) h111) hnc hng hnl hs hR hv
 by_cases h48 : (pk s i).toNat = 48
 ·exact xnod_d48 b s i SC a0 a1 al ng nl cap0 cap1 capl v2 w hlt (e _ (by decide) h48) hnc hng hnl hs hR hv
 by_cases h49 : (pk s i).toNat = 49
 ·exact xnod_d49 b s i SC a0 a1 al ng nl cap0 cap1 capl v2 w hlt (e _ (by decide) h49) hnc hng hnl hs hR hv
 by_cases h50 : (pk s i).toNat = 50
 ·exact xnod_d50 b s i SC a0 a1 al ng nl cap0 cap1 capl v2 w hlt (e _ (by decide) h50) hnc hng hnl hs hR hv
 by_cases h51 : (pk s i).toNat = 51
 ·exact xnod_d51 b s i SC a0 a1 al ng nl cap0 cap1 capl v2 w hlt (e _ (by decide) h51) hnc hng hnl hs hR hv
 by_cases h52 : (pk s i).toNat = 52
 ·exact xnod_d52 b s i SC a0 a1 al ng nl cap0 cap1 capl v2 w hlt (e _ (by decide) h52) hnc hng hnl hs hR hv
 by_cases h53 : (pk s i).toNat = 53
 ·exact xnod_d53 b s i SC a0 a1 al ng nl cap0 cap1 capl v2 w hlt (e _ (by decide) h53) hnc hng hnl hs hR hv
 by_cases h54 : (pk s i).toNat = 54
 ·exact xnod_d54 b s i SC a0 a1 al ng nl cap0 cap1 capl v2 w hlt (e _ (by decide) h54) hnc hng hnl hs hR hv
 by_cases h55 : (pk s i).toNat = 55
 ·exact xnod_d55 b s i SC a0 a1 al ng nl cap0 cap1 capl v2 w hlt (e _ (by decide) h55) hnc hng hnl hs hR hv
 by_cases h56 : (pk s i).toNat = 56
 ·exact xnod_d56 b s i SC a0 a1 al ng nl cap0 cap1 capl v2 w hlt (e _ (by decide) h56) hnc hng hnl hs hR hv
 by_cases h57 : (pk s i).toNat = 57
 ·exact xnod_d57 b s i SC a0 a1 al ng nl cap0 cap1 capl v2 w hlt (e _ (by decide) h57) hnc hng hnl hs hR hv
 exact xnod_other b base s i SC a0 a1 al ng nl cap0 cap1 capl v2 w false (pk s i) (i + 1) false (tbP_ok hlt) (by omega) (fun x j bad' h => nod_oper hnc rfl (by omega) h) hnc hng hnl hs hR hv (fun _ => hG') hb
end
end Go.Proofs.YtpfkkmacakjmbaaGreatDoor
