import Derived.Test.YtpfkkmacakjmbaaGreatDoorP17
import Derived.Deep.Upon
namespace Go.Proofs.YtpfkkmacakjmbaaGreatDoor
open Go Go.RowKit Sp
set_option linter.unusedSimpArgs false
set_option linter.unusedVariables false
attribute [local go_sem ↓] Go.wp_at_zero Go.wp_at_succ
/-- The text at the head of block b has these methods. -/
def TxM (w : World) (b : Nat) (ms : List Sig) : Prop :=
 ∃ v1, w.cell? ⟨b, 1, none⟩ = some v1 ∧ b < w.heap.size ∧ w.ownsRow 0 243 2 v1 ms.length (sigCells ms)
theorem TxM.but {w w' : World} {b : Nat} {ms : List Sig} (h : TxM w b ms) (hb : But (fun _ => False) w w') : TxM w' b ms := by
 obtain ⟨v1, h0, hl, hO⟩ := h
 exact ⟨v1, (hb.cell (p := ⟨b, 1, none⟩) hl (fun h => h)).trans h0, Nat.lt_of_lt_of_le hl hb.size, owns_but hO hb (fun _ _ h => h)⟩
def methX (ms : List Sig) (k : Nat) : Sig := (ms[k]?).getD ⟨45, 45⟩
set_option maxHeartbeats 800000 in
theorem xmethodAt_any (b : Nat) (ms : List Sig) (k : Nat) (w : World) (hn : ms.length ≤ 100) (hT : TxM w b ms) :
  Calls Tryz.prog 191 #[.pointer (some ⟨b, 0, none⟩), .int .i64 k] w fun e w' => e = .returned (.agg #[.int .u8 (methX ms k).arg.toNat, .int .u8 (methX ms k).ret.toNat]) ∧ But (fun _ => False) w w' := by
 obtain ⟨v1, h0, hl, hO⟩ := hT
 obtain ⟨ao, cap, rfl⟩ := owns_len hO
 have hk0 : ¬ (k : Int) < 0 := by omega
 by_cases hk : k < ms.length
 ·have hx := List.getElem?_eq_getElem hk
  rw [show methX ms k = ms[k] from by unfold methX; rw [hx]; rfl]
  obtain ⟨g, rfl, hg1, hg2, hcell⟩ := owns_two hO (by omega)
  have q0 : w.cell? ⟨g, k * 2, none⟩ = some (.int .u8 ms[k].arg.toNat) := hcell _ _ (sigCells_at (k := 0) hx (by omega))
  have q1 : w.cell? ⟨g, k * 2 + 1, none⟩ = some (.int .u8 ms[k].ret.toNat) := hcell _ _ (sigCells_at (k := 1) hx (by omega))
  have hkn : ¬ (ms.length : Int) ≤ (k : Int) := by omega
  have hkl : (k : Int) < (ms.length : Int) := by omega
  revert q0 q1
  generalize ms[k] = X
  intro q0 q1
  clear hcell hx hO
  go_enter Tryz.func191, Tryz.ntmps191
  go_wp2
  exact bodyPost_ret (v := .agg #[.int .u8 X.arg.toNat, .int .u8 X.ret.toNat]) (by simp [results, Tryz.results191, go_sem]) rfl ⟨rfl, But.alloc _ _ _⟩
 ·rw [show methX ms k = ⟨45, 45⟩ from by unfold methX; rw [List.getElem?_eq_none (by omega)]; rfl]
  have hkn : (ms.length : Int) ≤ (k : Int) := by omega
  clear hO
  go_enter Tryz.func191, Tryz.ntmps191
  go_wp2
  exact bodyPost_ret (v := .agg #[.int .u8 45, .int .u8 45]) (by simp [results, Tryz.results191, go_sem]) rfl ⟨rfl, But.alloc _ _ _⟩
end Go.Proofs.YtpfkkmacakjmbaaGreatDoor
namespace Go.Proofs.YtpfkkmacakjmbaaGreatDoor
open Go Go.RowKit Sp
theorem field_ret (w : World) (x y : Int) : (Instr.field 243 (.agg #[.int .u8 x, .int .u8 y]) 1).run Tryz.prog w = .ok (.int .u8 y) w := by
 simp [Instr.field, asAgg]
 go_simp
theorem field_arg (w : World) (x y : Int) : (Instr.field 243 (.agg #[.int .u8 x, .int .u8 y]) 0).run Tryz.prog w = .ok (.int .u8 x) w := by
 simp [Instr.field, asAgg]
 go_simp
end Go.Proofs.YtpfkkmacakjmbaaGreatDoor
namespace Go.Proofs.YtpfkkmacakjmbaaGreatDoor
open Go Go.RowKit Sp
set_option linter.unusedSimpArgs false
set_option linter.unusedVariables false
attribute [local go_sem ↓] Go.wp_at_zero Go.wp_at_succ
def laysX (cs : List XCls) (ms : List Sig) (c k : UInt8) (n : Nat) (lo : List UInt8) : UInt8 :=
 if c.toNat = 107 ∨ c.toNat = 114 ∨ c.toNat = 43 ∨ c.toNat = 45 ∨ c.toNat = 42 ∨ c.toNat = 47 ∨ c.toNat = 60 ∨ c.toNat = 61 ∨ c.toNat = 101 then 105 else
 if c.toNat = 108 then tatX lo n else if c.toNat = 110 ∨ c.toNat = 120 then k else if c.toNat = 122 then 122 else
 if c.toNat = 103 then tatX (fldsX cs k) n else if c.toNat = 99 then (methX ms n).ret else 0
set_option maxHeartbeats 1600000 in
set_option maxRecDepth 100000 in
theorem xlays_any (b : Nat) (cs : List XCls) (ms : List Sig) (p n : Nat) (c k : UInt8) (ao : Option Addr) (cap : Nat) (lo : List UInt8) (w : World) {ap : Option Addr} {np cp : Nat} (hn : cs.length ≤ 100) (hm : ms.length ≤ 100) (hT : TxC w b cs) (hM : TxM w b ms) (hB : BtB w 0 (.slice ao lo.length cap) lo) :
  Calls Tryz.prog 198 #[.pointer (some ⟨b, 0, none⟩), .agg #[.int .i64 p, .int .u8 c.toNat, .int .u8 k.toNat, .int .i64 n, .slice ap np cp], .slice ao lo.length cap] w fun e w' => e = .returned (.int .u8 (laysX cs ms c k n lo).toNat) ∧ But (fun _ => False) w w' := by
 by_cases h107 : c.toNat = 107
 ·have hc : c = 107 := UInt8.toNat_inj.1 h107
  subst hc
  rw [show laysX cs ms 107 k n lo = 105 from by simp [laysX]]
  go_enter Tryz.func198, Tryz.ntmps198
  go_wp2_with fail
  go_ret
  exact ⟨rfl, But.alloc _ _ _⟩
 by_cases h114 : c.toNat = 114
 ·have hc : c = 114 := UInt8.toNat_inj.1 h114
  subst hc
  rw [show laysX cs ms 114 k n lo = 105 from by simp [laysX]]
  go_enter Tryz.func198, Tryz.ntmps198
  go_wp2_with fail
  go_ret
  exact ⟨rfl, But.alloc _ _ _⟩
 by_cases h43 : c.toNat = 43
 ·have hc : c = 43 := UInt8.toNat_inj.1 h43
  subst hc
  rw [show laysX cs ms 43 k n lo = 105 from by simp [laysX]]
  go_enter Tryz.func198, Tryz.ntmps198
  go_wp2_with fail
  go_ret
  exact ⟨rfl, But.alloc _ _ _⟩
 by_cases h45 : c.toNat = 45
 ·have hc : c = 45 := UInt8.toNat_inj.1 h45
  subst hc
  rw [show laysX cs ms 45 k n lo = 105 from by simp [laysX]]
  go_enter Tryz.func198, Tryz.ntmps198
  go_wp2_with fail
  go_ret
  exact ⟨rfl, But.alloc _ _ _⟩
 by_cases h42 : c.toNat = 42
 ·have hc : c = 42 := UInt8.toNat_inj.1 h42
  subst hc
  rw [show laysX cs ms 42 k n lo = 105 from by simp [laysX]]
  go_enter Tryz.func198, Tryz.ntmps198
  go_wp2_with fail
  go_ret
  exact ⟨rfl, But.alloc _ _ _⟩
 by_cases h47 : c.toNat = 47
 ·have hc : c = 47 := UInt8.toNat_inj.1 h47
  subst hc
  rw [show laysX cs ms 47 k n lo = 105 from by simp [laysX]]
  go_enter Tryz.func198, Tryz.ntmps198
  go_wp2_with fail
  go_ret
  exact ⟨rfl, But.alloc _ _ _⟩
 by_cases h60 : c.toNat = 60
 ·have hc : c = 60 := UInt8.toNat_inj.1 h60
  subst hc
  rw [show laysX cs ms 60 k n lo = 105 from by simp [laysX]]
  go_enter Tryz.func198, Tryz.ntmps198
  go_wp2_with fail
  go_ret
  exact ⟨rfl, But.alloc _ _ _⟩
 by_cases h61 : c.toNat = 61
 ·have hc : c = 61 := UInt8.toNat_inj.1 h61
  subst hc
  rw [show laysX cs ms 61 k n lo = 105 from by simp [laysX]]
  go_enter Tryz.func198, Tryz.ntmps198
  go_wp2_with fail
  go_ret
  exact ⟨rfl, But.alloc _ _ _⟩
 by_cases h101 : c.toNat = 101
 ·have hc : c = 101 := UInt8.toNat_inj.1 h101
  subst hc
  rw [show laysX cs ms 101 k n lo = 105 from by simp [laysX]]
  go_enter Tryz.func198, Tryz.ntmps198
  go_wp2_with fail
  go_ret
  exact ⟨rfl, But.alloc _ _ _⟩
 by_cases h108 : c.toNat = 108
 ·have hc : c = 108 := UInt8.toNat_inj.1 h108
  subst hc
  rw [show laysX cs ms 108 k n lo = tatX lo n from by simp [laysX]]
  have HT := hid (fun (wx : World) (h : But (fun _ => False) w wx) => xtypeAt_any ao cap lo n wx (hB.but h (fun _ _ h => h)))
  go_enter Tryz.func198, Tryz.ntmps198
  go_wp2_with fail
  refine (HT.out _ (But.alloc _ _ _)).mono ?_
  rintro en w1 ⟨rfl, rfl⟩
  go_wp2_with fail
  go_ret
  exact ⟨rfl, But.alloc _ _ _⟩
 by_cases h110 : c.toNat = 110
 ·have hc : c = 110 := UInt8.toNat_inj.1 h110
  subst hc
  rw [show laysX cs ms 110 k n lo = k from by simp [laysX]]
  go_enter Tryz.func198, Tryz.ntmps198
  go_wp2_with fail
  go_ret
  exact ⟨rfl, But.alloc _ _ _⟩
 by_cases h120 : c.toNat = 120
 ·have hc : c = 120 := UInt8.toNat_inj.1 h120
  subst hc
  rw [show laysX cs ms 120 k n lo = k from by simp [laysX]]
  go_enter Tryz.func198, Tryz.ntmps198
  go_wp2_with fail
  go_ret
  exact ⟨rfl, But.alloc _ _ _⟩
 by_cases h122 : c.toNat = 122
 ·have hc : c = 122 := UInt8.toNat_inj.1 h122
  subst hc
  rw [show laysX cs ms 122 k n lo = 122 from by simp [laysX]]
  go_enter Tryz.func198, Tryz.ntmps198
  go_wp2_with fail
  go_ret
  exact ⟨rfl, But.alloc _ _ _⟩
 by_cases h103 : c.toNat = 103
 ·have hc : c = 103 := UInt8.toNat_inj.1 h103
  subst hc
  rw [show laysX cs ms 103 k n lo = tatX (fldsX cs k) n from by simp [laysX]]
  have HT := hid (fun (wx : World) (h : But (fun _ => False) w wx) => xft_any b cs k n wx hn (hT.but h))
  go_enter Tryz.func198, Tryz.ntmps198
  go_wp2_with fail
  refine (HT.out _ (But.alloc _ _ _)).mono ?_
  rintro en w1 ⟨rfl, rfl⟩
  go_wp2_with fail
  go_ret
  exact ⟨rfl, But.alloc _ _ _⟩
 by_cases h99 : c.toNat = 99
 ·have hc : c = 99 := UInt8.toNat_inj.1 h99
  subst hc
  rw [show laysX cs ms 99 k n lo = (methX ms n).ret from by simp [laysX]]
  have HT := hid (fun (wx : World) (h : But (fun _ => False) w wx) => xmethodAt_any b ms n wx hm (hM.but h))
  go_enter Tryz.func198, Tryz.ntmps198
  go_wp2_with fail
  refine (HT.out _ (But.alloc _ _ _)).mono ?_
  rintro en w1 ⟨rfl, hB1⟩
  have hfr := fun wx => field_ret wx ((methX ms n).arg.toNat : Int) ((methX ms n).ret.toNat : Int)
  go_wp2_with fail
  go_ret
  exact ⟨rfl, (But.alloc _ _ _).trans hB1⟩
 rw [show laysX cs ms c k n lo = 0 from by simp [laysX, h107, h114, h43, h45, h42, h47, h60, h61, h101, h108, h110, h120, h122, h103, h99]]
 have e107 : ((c.toNat : Int) == 107) = false := by rw [beq_eq_false_iff_ne]; omega
 have e114 : ((c.toNat : Int) == 114) = false := by rw [beq_eq_false_iff_ne]; omega
 have e43 : ((c.toNat : Int) == 43) = false := by rw [beq_eq_false_iff_ne]; omega
 have e45 : ((c.toNat : Int) == 45) = false := by rw [beq_eq_false_iff_ne]; omega
 have e42 : ((c.toNat : Int) == 42) = false := by rw [beq_eq_false_iff_ne]; omega
 have e47 : ((c.toNat : Int) == 47) = false := by rw [beq_eq_false_iff_ne]; omega
 have e60 : ((c.toNat : Int) == 60) = false := by rw [beq_eq_false_iff_ne]; omega
 have e61 : ((c.toNat : Int) == 61) = false := by rw [beq_eq_false_iff_ne]; omega
 have e101 : ((c.toNat : Int) == 101) = false := by rw [beq_eq_false_iff_ne]; omega
 have e108 : ((c.toNat : Int) == 108) = false := by rw [beq_eq_false_iff_ne]; omega
 have e110 : ((c.toNat : Int) == 110) = false := by rw [beq_eq_false_iff_ne]; omega
 have e120 : ((c.toNat : Int) == 120) = false := by rw [beq_eq_false_iff_ne]; omega
 have e122 : ((c.toNat : Int) == 122) = false := by rw [beq_eq_false_iff_ne]; omega
 have e103 : ((c.toNat : Int) == 103) = false := by rw [beq_eq_false_iff_ne]; omega
 have e99 : ((c.toNat : Int) == 99) = false := by rw [beq_eq_false_iff_ne]; omega
 clear h107 h114 h43 h45 h42 h47 h60 h61 h101 h108 h110 h120 h122 h103 h99
 go_enter Tryz.func198, Tryz.ntmps198
 go_wp2_with fail
 go_ret
 exact ⟨rfl, But.alloc _ _ _⟩
end Go.Proofs.YtpfkkmacakjmbaaGreatDoor
namespace Go.Proofs.YtpfkkmacakjmbaaGreatDoor
open Go Go.RowKit Sp
set_option linter.unusedSimpArgs false
set_option linter.unusedVariables false
attribute [local go_sem ↓] Go.wp_at_zero Go.wp_at_succ
theorem BtB.lit (W : World) (base : Nat) (hb : base ≤ W.heap.size) (l : List UInt8) (hl : l.length ≤ 100) : BtB (W.alloc (.cells (btCells l).toArray 5)) base (.slice (some ⟨W.heap.size, 0, none⟩) l.length l.length) l :=
 ⟨by simp [btCells], Or.inr ⟨W.heap.size, l.length, _, rfl, hb, heap_alloc_new _ _, Nat.le_refl _, by unfold maxLen; omega, by simp [btCells], by simp only [Nat.mul_one]; exact List.take_of_length_le (by simp [btCells])⟩⟩
theorem BtB.lit2 (w : World) (o : Obj) (l : List UInt8) (hl : l.length ≤ 100) : BtB ((w.alloc o).alloc (.cells (btCells l).toArray 5)) w.heap.size (.slice (some ⟨w.heap.size + 1, 0, none⟩) l.length l.length) l := by
 have h := BtB.lit (w.alloc o) w.heap.size (But.alloc (fun _ => False) w o).size l hl
 have hs : (w.alloc o).heap.size = w.heap.size + 1 := Array.size_push _
 rw [hs] at h
 exact h
def takesX (cs : List XCls) (ms : List Sig) (c k : UInt8) (n : Nat) (ans : UInt8) : List UInt8 :=
 if c.toNat = 119 ∨ c.toNat = 102 then [105] else if c.toNat = 115 ∨ c.toNat = 100 then [45] else
 if c.toNat = 43 ∨ c.toNat = 45 ∨ c.toNat = 42 ∨ c.toNat = 47 ∨ c.toNat = 60 ∨ c.toNat = 61 then [105, 105] else
 if c.toNat = 101 then [38, 38] else if c.toNat = 103 then [k] else if c.toNat = 112 then [k, tatX (fldsX cs k) n] else
 if c.toNat = 99 then [k, (methX ms n).arg] else if c.toNat = 120 then [38] else if c.toNat = 116 then [ans] else []
set_option maxHeartbeats 1600000 in
set_option maxRecDepth 100000 in
theorem xtakes_plain (b : Nat) (cs : List XCls) (ms : List Sig) (p n : Nat) (c k ans : UInt8) (w : World) {ap : Option Addr} {np cp : Nat} (h112 : c.toNat ≠ 112) (h99 : c.toNat ≠ 99) :
  Calls Tryz.prog 140 #[.pointer (some ⟨b, 0, none⟩), .agg #[.int .i64 p, .int .u8 c.toNat, .int .u8 k.toNat, .int .i64 n, .slice ap np cp], .int .u8 ans.toNat] w fun e w' => But (fun _ => False) w w' ∧ ∃ v, e = .returned v ∧ BtB w' w.heap.size v (takesX cs ms c k n ans) := by
 by_cases h119 : c.toNat = 119
 ·have hc : c = 119 := UInt8.toNat_inj.1 h119
  subst hc
  rw [show takesX cs ms 119 k n ans = [105] from by simp [takesX]]
  clear h112 h99
  go_enter Tryz.func140, Tryz.ntmps140
  go_wp2_with fail
  exact bodyPost_ret (v := .slice (some ⟨w.heap.size + 1, 0, none⟩) 1 1) (by simp [results, Tryz.results140, go_sem]) rfl ⟨(But.alloc _ _ _).trans (But.alloc _ _ _), _, rfl, BtB.lit2 w _ [105] (by simp)⟩
 by_cases h102 : c.toNat = 102
 ·have hc : c = 102 := UInt8.toNat_inj.1 h102
  subst hc
  rw [show takesX cs ms 102 k n ans = [105] from by simp [takesX]]
  clear h112 h99
  go_enter Tryz.func140, Tryz.ntmps140
  go_wp2_with fail
  exact bodyPost_ret (v := .slice (some ⟨w.heap.size + 1, 0, none⟩) 1 1) (by simp [results, Tryz.results140, go_sem]) rfl ⟨(But.alloc _ _ _).trans (But.alloc _ _ _), _, rfl, BtB.lit2 w _ [105] (by simp)⟩
 by_cases h115 : c.toNat = 115
 ·have hc : c = 115 := UInt8.toNat_inj.1 h115
  subst hc
  rw [show takesX cs ms 115 k n ans = [45] from by simp [takesX]]
  clear h112 h99
  go_enter Tryz.func140, Tryz.ntmps140
  go_wp2_with fail
  exact bodyPost_ret (v := .slice (some ⟨w.heap.size + 1, 0, none⟩) 1 1) (by simp [results, Tryz.results140, go_sem]) rfl ⟨(But.alloc _ _ _).trans (But.alloc _ _ _), _, rfl, BtB.lit2 w _ [45] (by simp)⟩
 by_cases h100 : c.toNat = 100
 ·have hc : c = 100 := UInt8.toNat_inj.1 h100
  subst hc
  rw [show takesX cs ms 100 k n ans = [45] from by simp [takesX]]
  clear h112 h99
  go_enter Tryz.func140, Tryz.ntmps140
  go_wp2_with fail
  exact bodyPost_ret (v := .slice (some ⟨w.heap.size + 1, 0, none⟩) 1 1) (by simp [results, Tryz.results140, go_sem]) rfl ⟨(But.alloc _ _ _).trans (But.alloc _ _ _), _, rfl, BtB.lit2 w _ [45] (by simp)⟩
 by_cases h101 : c.toNat = 101
 ·have hc : c = 101 := UInt8.toNat_inj.1 h101
  subst hc
  rw [show takesX cs ms 101 k n ans = [38, 38] from by simp [takesX]]
  clear h112 h99
  go_enter Tryz.func140, Tryz.ntmps140
  go_wp2_with fail
  exact bodyPost_ret (v := .slice (some ⟨w.heap.size + 1, 0, none⟩) 2 2) (by simp [results, Tryz.results140, go_sem]) rfl ⟨(But.alloc _ _ _).trans (But.alloc _ _ _), _, rfl, BtB.lit2 w _ [38, 38] (by simp)⟩
 by_cases h103 : c.toNat = 103
 ·have hc : c = 103 := UInt8.toNat_inj.1 h103
  subst hc
  rw [show takesX cs ms 103 k n ans = [k] from by simp [takesX]]
  clear h112 h99
  go_enter Tryz.func140, Tryz.ntmps140
  go_wp2_with fail
  exact bodyPost_ret (v := .slice (some ⟨w.heap.size + 1, 0, none⟩) 1 1) (by simp [results, Tryz.results140, go_sem]) rfl ⟨(But.alloc _ _ _).trans (But.alloc _ _ _), _, rfl, BtB.lit2 w _ [k] (by simp)⟩
 by_cases h120 : c.toNat = 120
 ·have hc : c = 120 := UInt8.toNat_inj.1 h120
  subst hc
  rw [show takesX cs ms 120 k n ans = [38] from by simp [takesX]]
  clear h112 h99
  go_enter Tryz.func140, Tryz.ntmps140
  go_wp2_with fail
  exact bodyPost_ret (v := .slice (some ⟨w.heap.size + 1, 0, none⟩) 1 1) (by simp [results, Tryz.results140, go_sem]) rfl ⟨(But.alloc _ _ _).trans (But.alloc _ _ _), _, rfl, BtB.lit2 w _ [38] (by simp)⟩
 by_cases h116 : c.toNat = 116
 ·have hc : c = 116 := UInt8.toNat_inj.1 h116
  subst hc
  rw [show takesX cs ms 116 k n ans = [ans] from by simp [takesX]]
  clear h112 h99
  go_enter Tryz.func140, Tryz.ntmps140
  go_wp2_with fail
  exact bodyPost_ret (v := .slice (some ⟨w.heap.size + 1, 0, none⟩) 1 1) (by simp [results, Tryz.results140, go_sem]) rfl ⟨(But.alloc _ _ _).trans (But.alloc _ _ _), _, rfl, BtB.lit2 w _ [ans] (by simp)⟩
 by_cases h43 : c.toNat = 43
 ·have hc : c = 43 := UInt8.toNat_inj.1 h43
  subst hc
  rw [show takesX cs ms 43 k n ans = [105, 105] from by simp [takesX]]
  clear h112 h99
  go_enter Tryz.func140, Tryz.ntmps140
  go_wp2_with fail
  exact bodyPost_ret (v := .slice (some ⟨w.heap.size + 1, 0, none⟩) 2 2) (by simp [results, Tryz.results140, go_sem]) rfl ⟨(But.alloc _ _ _).trans (But.alloc _ _ _), _, rfl, BtB.lit2 w _ [105, 105] (by simp)⟩
 by_cases h45 : c.toNat = 45
 ·have hc : c = 45 := UInt8.toNat_inj.1 h45
  subst hc
  rw [show takesX cs ms 45 k n ans = [105, 105] from by simp [takesX]]
  clear h112 h99
  go_enter Tryz.func140, Tryz.ntmps140
  go_wp2_with fail
  exact bodyPost_ret (v := .slice (some ⟨w.heap.size + 1, 0, none⟩) 2 2) (by simp [results, Tryz.results140, go_sem]) rfl ⟨(But.alloc _ _ _).trans (But.alloc _ _ _), _, rfl, BtB.lit2 w _ [105, 105] (by simp)⟩
 by_cases h42 : c.toNat = 42
 ·have hc : c = 42 := UInt8.toNat_inj.1 h42
  subst hc
  rw [show takesX cs ms 42 k n ans = [105, 105] from by simp [takesX]]
  clear h112 h99
  go_enter Tryz.func140, Tryz.ntmps140
  go_wp2_with fail
  exact bodyPost_ret (v := .slice (some ⟨w.heap.size + 1, 0, none⟩) 2 2) (by simp [results, Tryz.results140, go_sem]) rfl ⟨(But.alloc _ _ _).trans (But.alloc _ _ _), _, rfl, BtB.lit2 w _ [105, 105] (by simp)⟩
 by_cases h47 : c.toNat = 47
 ·have hc : c = 47 := UInt8.toNat_inj.1 h47
  subst hc
  rw [show takesX cs ms 47 k n ans = [105, 105] from by simp [takesX]]
  clear h112 h99
  go_enter Tryz.func140, Tryz.ntmps140
  go_wp2_with fail
  exact bodyPost_ret (v := .slice (some ⟨w.heap.size + 1, 0, none⟩) 2 2) (by simp [results, Tryz.results140, go_sem]) rfl ⟨(But.alloc _ _ _).trans (But.alloc _ _ _), _, rfl, BtB.lit2 w _ [105, 105] (by simp)⟩
 by_cases h60 : c.toNat = 60
 ·have hc : c = 60 := UInt8.toNat_inj.1 h60
  subst hc
  rw [show takesX cs ms 60 k n ans = [105, 105] from by simp [takesX]]
  clear h112 h99
  go_enter Tryz.func140, Tryz.ntmps140
  go_wp2_with fail
  exact bodyPost_ret (v := .slice (some ⟨w.heap.size + 1, 0, none⟩) 2 2) (by simp [results, Tryz.results140, go_sem]) rfl ⟨(But.alloc _ _ _).trans (But.alloc _ _ _), _, rfl, BtB.lit2 w _ [105, 105] (by simp)⟩
 by_cases h61 : c.toNat = 61
 ·have hc : c = 61 := UInt8.toNat_inj.1 h61
  subst hc
  rw [show takesX cs ms 61 k n ans = [105, 105] from by simp [takesX]]
  clear h112 h99
  go_enter Tryz.func140, Tryz.ntmps140
  go_wp2_with fail
  exact bodyPost_ret (v := .slice (some ⟨w.heap.size + 1, 0, none⟩) 2 2) (by simp [results, Tryz.results140, go_sem]) rfl ⟨(But.alloc _ _ _).trans (But.alloc _ _ _), _, rfl, BtB.lit2 w _ [105, 105] (by simp)⟩
 rw [show takesX cs ms c k n ans = [] from by simp [takesX, h119, h102, h115, h100, h101, h103, h120, h116, h43, h45, h42, h47, h60, h61, h112, h99]]
 have e119 : ((c.toNat : Int) == 119) = false := by rw [beq_eq_false_iff_ne]; omega
 have e102 : ((c.toNat : Int) == 102) = false := by rw [beq_eq_false_iff_ne]; omega
 have e115 : ((c.toNat : Int) == 115) = false := by rw [beq_eq_false_iff_ne]; omega
 have e100 : ((c.toNat : Int) == 100) = false := by rw [beq_eq_false_iff_ne]; omega
 have e101 : ((c.toNat : Int) == 101) = false := by rw [beq_eq_false_iff_ne]; omega
 have e103 : ((c.toNat : Int) == 103) = false := by rw [beq_eq_false_iff_ne]; omega
 have e120 : ((c.toNat : Int) == 120) = false := by rw [beq_eq_false_iff_ne]; omega
 have e116 : ((c.toNat : Int) == 116) = false := by rw [beq_eq_false_iff_ne]; omega
 have e43 : ((c.toNat : Int) == 43) = false := by rw [beq_eq_false_iff_ne]; omega
 have e45 : ((c.toNat : Int) == 45) = false := by rw [beq_eq_false_iff_ne]; omega
 have e42 : ((c.toNat : Int) == 42) = false := by rw [beq_eq_false_iff_ne]; omega
 have e47 : ((c.toNat : Int) == 47) = false := by rw [beq_eq_false_iff_ne]; omega
 have e60 : ((c.toNat : Int) == 60) = false := by rw [beq_eq_false_iff_ne]; omega
 have e61 : ((c.toNat : Int) == 61) = false := by rw [beq_eq_false_iff_ne]; omega
 have e112 : ((c.toNat : Int) == 112) = false := by rw [beq_eq_false_iff_ne]; omega
 have e99 : ((c.toNat : Int) == 99) = false := by rw [beq_eq_false_iff_ne]; omega
 clear h119 h102 h115 h100 h101 h103 h120 h116 h43 h45 h42 h47 h60 h61 h112 h99
 go_enter Tryz.func140, Tryz.ntmps140
 go_wp2_with fail
 exact bodyPost_ret (v := .slice (some ⟨w.heap.size + 1, 0, none⟩) 0 0) (by simp [results, Tryz.results140, go_sem]) rfl ⟨(But.alloc _ _ _).trans (But.alloc _ _ _), _, rfl, BtB.lit2 w _ [] (by simp)⟩
end Go.Proofs.YtpfkkmacakjmbaaGreatDoor
/- The program's text as its reader builds it. -/
namespace Go.Proofs.YtpfkkmacakjmbaaGreatDoor
open Go Go.RowKit Sp
set_option linter.unusedSimpArgs false
set_option linter.unusedVariables false
attribute [local go_sem ↓] Go.wp_at_zero Go.wp_at_succ
theorem btCells_one (l : List UInt8) : ∀ u ∈ btCells l, u.oneCell' = true := by
 intro u hu
 obtain ⟨c, _, rfl⟩ := List.mem_map.1 hu
 rfl
/-- Bytes behind bytes, none of them too. -/
theorem run_append_bts (w : World) (ty : TypeId) (base bx : Nat) (v xv : Value) (l m : List UInt8) (hown : BtB w base v l) (hx : BtB w bx xv m) (hlen : l.length + m.length ≤ 100000) (hbase : base ≤ w.heap.size) :
  ∃ v' w', (Builtin.append_ #[112, 112] ty #[v, xv]).run Tryz.prog w = .ok v' w' ∧ BtB w' base v' (l ++ m) ∧ But (fun k => v.ownBlock = some k) w w' ∧ (v'.ownBlock = v.ownBlock ∨ v'.ownBlock = some w.heap.size) := by
 obtain ⟨i0, hi0, hz0, hz1, hz2⟩ := info_parts info_u8
 have hu : Tryz.prog.underlying 112 = some (.slice 5) := by kernel_rfl
 obtain ⟨ax, cx, rfl⟩ := owns_len hx
 cases ax with
 | none =>
  have hm : m.length = 0 := by
   rcases Nat.eq_zero_or_pos m.length with h | h
   ·exact h
   ·obtain ⟨g, hg, _⟩ := owns_two hx h
    cases hg
  have hm0 : m = [] := List.length_eq_zero_iff.1 hm
  subst hm0
  have hc : ∃ ao cap, v = .slice ao l.length cap ∧ l.length ≤ cap := by
   rcases hown.2 with ⟨rfl, h0⟩ | ⟨g, cap, cur, rfl, _, _, hle, _⟩
   ·exact ⟨none, 0, by rw [h0], by omega⟩
   ·exact ⟨_, cap, rfl, hle⟩
  obtain ⟨ao, cap, rfl, hle⟩ := hc
  refine ⟨_, w, run_append_nothing w _ _ ty 5 i0 hu hi0 ao l.length cap hle _ (by rw [hz1]; exact Src.ofNil w hu cx), by simpa using hown, But.refl _ _, Or.inl rfl⟩
 | some ad =>
  have hcell : ∀ j u, (btCells m)[j]? = some u → w.cell? (ad.add j) = some u := by
   intro j u hj
   obtain ⟨g, cap', hv, hc, _⟩ := owns_cell hx hj
   have h1 : ad = ⟨g, 0, none⟩ := by
    have h2 := congrArg (fun v => match v with | Value.slice a _ _ => a | _ => none) hv
    exact Option.some.inj h2
   rw [h1]
   have e : (⟨g, 0, none⟩ : Addr).add j = ⟨g, j, none⟩ := by simp [Addr.add]; exact fun h => h.symm
   rw [e]
   exact hc
  obtain ⟨v', w', hr, h2, h3, _, h5⟩ := run_append_own_at (P := Tryz.prog) w base _ ty 5 i0 _ 1 1 hu hi0 hz0 hz1 hz2 rfl (by omega) v l.length (btCells l) hown ad m.length cx (btCells m) (by simp [btCells]) hcell (btCells_one m) (by unfold maxLen; omega) (by omega) hbase
  refine ⟨v', w', hr, ?_, but_grown h3, h5⟩
  unfold BtB
  rw [List.length_append, btCells, List.map_append]
  exact h2
theorem wpList_append_bts {w : World} {ops : Array Oper} {rest : List Oper} {o : Oper} {a : Act} {Q : Exit → Act → World → Prop} (hgd : o.guard = none) (s x : Operand)
  (ho : o.op = .call { callee := .builtin .append, args := #[s, x], argTypes := #[112, 112] }) (base bx : Nat) (v xv : Value) (l m : List UInt8) (hs : a.eval s = v) (hx : a.eval x = xv) (hown : BtB w base v l) (hxo : BtB w bx xv m) (hlen : l.length + m.length ≤ 100000) (hbase : base ≤ w.heap.size)
  (h : ∀ ao cap w', BtB w' base (.slice ao (l ++ m).length cap) (l ++ m) → But (fun k => v.ownBlock = some k) w w' → ((Value.slice ao (l ++ m).length cap).ownBlock = v.ownBlock ∨ (Value.slice ao (l ++ m).length cap).ownBlock = some w.heap.size) → wpList Tryz.prog ops Q rest (a.put o.dst (.slice ao (l ++ m).length cap)) w') : wpList Tryz.prog ops Q (o :: rest) a w := by
 refine wpList_plain hgd fun K hK => ?_
 obtain ⟨v', w', hr, h1, h2, h3⟩ := run_append_bts w o.type base bx v xv l m hown hxo hlen hbase
 obtain ⟨ao, cap, rfl⟩ := owns_len h1
 unfold Oper.wp execOp
 simp only [ho, resolve, invoke, builtin, Sem.run_bind, Sem.run_pure, Result.andThen_ok, List.map_toArray, List.map_cons, List.map_nil, hs, hx, hr]
 exact hK _ _ (h ao cap w' h1 h2 h3)
structure XIt where
 place : Nat
 op : UInt8
 cls : UInt8
 num : Nat
 pa : Option Addr
 pn : Nat
 pc : Nat
structure XBod where
 cls : UInt8
 meth : Nat
 ans : UInt8
 locals : List UInt8
 items : List XIt
def itCells (l : List XIt) : List Value := l.flatMap fun x => [.int .i64 x.place, .int .u8 x.op.toNat, .int .u8 x.cls.toNat, .int .i64 x.num, .slice x.pa x.pn x.pc]
def xbCells (l : List (XBod × Value × Value)) : List Value := l.flatMap fun x => [.int .u8 x.1.cls.toNat, .int .i64 x.1.meth, .int .u8 x.1.ans.toNat, x.2.1, x.2.2]
theorem itCells_snoc (l : List XIt) (x : XIt) : itCells (l ++ [x]) = itCells l ++ [.int .i64 x.place, .int .u8 x.op.toNat, .int .u8 x.cls.toNat, .int .i64 x.num, .slice x.pa x.pn x.pc] := by simp [itCells]
theorem xbCells_snoc (l : List (XBod × Value × Value)) (x : XBod × Value × Value) : xbCells (l ++ [x]) = xbCells l ++ [.int .u8 x.1.cls.toNat, .int .i64 x.1.meth, .int .u8 x.1.ans.toNat, x.2.1, x.2.2] := by simp [xbCells]
theorem xcCells_snoc (l : List (XCls × Value)) (x : XCls × Value) : xcCells (l ++ [x]) = xcCells l ++ [.int .u8 x.1.par.toNat, x.2] := by simp [xcCells]
theorem itCells_at {l : List XIt} {j k : Nat} {x : XIt} (h : l[j]? = some x) (hk : k < 5) : (itCells l)[j * 5 + k]? = [Value.int .i64 x.place, .int .u8 x.op.toNat, .int .u8 x.cls.toNat, .int .i64 x.num, .slice x.pa x.pn x.pc][k]? :=
 flat_at (fun x : XIt => [Value.int .i64 x.place, .int .u8 x.op.toNat, .int .u8 x.cls.toNat, .int .i64 x.num, .slice x.pa x.pn x.pc]) 5 (fun _ => rfl) l j k x h hk
theorem xbCells_at {l : List (XBod × Value × Value)} {j k : Nat} {x : XBod × Value × Value} (h : l[j]? = some x) (hk : k < 5) : (xbCells l)[j * 5 + k]? = [Value.int .u8 x.1.cls.toNat, .int .i64 x.1.meth, .int .u8 x.1.ans.toNat, x.2.1, x.2.2][k]? :=
 flat_at (fun x : XBod × Value × Value => [Value.int .u8 x.1.cls.toNat, .int .i64 x.1.meth, .int .u8 x.1.ans.toNat, x.2.1, x.2.2]) 5 (fun _ => rfl) l j k x h hk
theorem itCells_len (l : List XIt) : (itCells l).length = l.length * 5 := by
 induction l with
 | nil => rfl
 | cons x l ih => simp [itCells] at ih ⊢; omega
/-- The items of a body. -/
def ItB (w : World) (base : Nat) (v : Value) (l : List XIt) : Prop := w.ownsRow base 219 5 v l.length (itCells l)
/-- The classes, where the slice is v. -/
def TcV (w : World) (base : Nat) (v : Value) (cs : List XCls) : Prop :=
 ∃ l, w.ownsRow base 240 2 v l.length (xcCells l) ∧ l.map (·.1) = cs ∧ ∀ x ∈ l, BtB w base x.2 x.1.fields
def TmV (w : World) (base : Nat) (v : Value) (ms : List Sig) : Prop := w.ownsRow base 243 2 v ms.length (sigCells ms)
def TbV (w : World) (base : Nat) (v : Value) (bs : List XBod) : Prop :=
 ∃ l, w.ownsRow base 115 5 v l.length (xbCells l) ∧ l.map (·.1) = bs ∧ ∀ x ∈ l, BtB w base x.2.1 x.1.locals ∧ ItB w base x.2.2 x.1.items
/-- F keeps off the blocks of these types from base on. -/
def Off (w : World) (base : Nat) (F : Nat → Prop) : Prop := ∀ g e cur, w.heap[g]? = some (.cells cur e) → (e = 240 ∨ e = 243 ∨ e = 115 ∨ e = 219 ∨ e = 5) → base ≤ g → ¬ F g
theorem owns_off {F : Nat → Prop} {w w' : World} {base e size n : Nat} {v : Value} {xs : List Value} (h : w.ownsRow base e size v n xs) (hb : But F w w') (hf : ∀ g cur, w.heap[g]? = some (.cells cur e) → base ≤ g → ¬ F g) : w'.ownsRow base e size v n xs := by
 refine ⟨h.1, ?_⟩
 rcases h.2 with h2 | ⟨g, cap, cur, hv, hg, hh, r⟩
 ·exact Or.inl h2
 ·exact Or.inr ⟨g, cap, cur, hv, hg, (hb.block g (lt_of_block hh) (hf g cur hh hg)).trans hh, r⟩
/-- The block of a row has its elements' type. -/
theorem owns_kind {w : World} {base e size n : Nat} {v : Value} {xs : List Value} (h : w.ownsRow base e size v n xs) {g : Nat} (hg : v.ownBlock = some g) : ∃ cur, w.heap[g]? = some (.cells cur e) := by
 rcases h.2 with ⟨rfl, _⟩ | ⟨g', cap, cur, rfl, hb, hh, _⟩
 ·cases hg
 ·simp [Value.ownBlock] at hg; subst hg; exact ⟨_, hh⟩
theorem owns_apart {w : World} {base e size n : Nat} {v : Value} {xs : List Value} (h : w.ownsRow base e size v n xs) {g e' : Nat} {cur : Array Value} (hh : w.heap[g]? = some (.cells cur e')) (hne : e' ≠ e) : ¬ v.ownBlock = some g := by
 intro hg
 obtain ⟨c, hc⟩ := owns_kind h hg
 rw [hc] at hh
 injection hh with hh
 injection hh with h1 h2
 exact hne h2.symm
theorem TcV.but {F : Nat → Prop} {w w' : World} {base : Nat} {v : Value} {cs : List XCls} (h : TcV w base v cs) (hb : But F w w') (hf : ∀ g e cur, w.heap[g]? = some (.cells cur e) → (e = 240 ∨ e = 5) → base ≤ g → ¬ F g) : TcV w' base v cs := by
 obtain ⟨l, h1, h2, h3⟩ := h
 exact ⟨l, owns_off h1 hb (fun g cur hh hg => hf g _ cur hh (Or.inl rfl) hg), h2, fun x hx => owns_off (h3 x hx) hb (fun g cur hh hg => hf g _ cur hh (Or.inr rfl) hg)⟩
theorem TmV.but {F : Nat → Prop} {w w' : World} {base : Nat} {v : Value} {ms : List Sig} (h : TmV w base v ms) (hb : But F w w') (hf : ∀ g e cur, w.heap[g]? = some (.cells cur e) → (e = 243) → base ≤ g → ¬ F g) : TmV w' base v ms :=
 owns_off h hb (fun g cur hh hg => hf g _ cur hh rfl hg)
theorem TbV.but {F : Nat → Prop} {w w' : World} {base : Nat} {v : Value} {bs : List XBod} (h : TbV w base v bs) (hb : But F w w') (hf : ∀ g e cur, w.heap[g]? = some (.cells cur e) → (e = 115 ∨ e = 5 ∨ e = 219) → base ≤ g → ¬ F g) : TbV w' base v bs := by
 obtain ⟨l, h1, h2, h3⟩ := h
 exact ⟨l, owns_off h1 hb (fun g cur hh hg => hf g _ cur hh (Or.inl rfl) hg), h2, fun x hx => ⟨owns_off (h3 x hx).1 hb (fun g cur hh hg => hf g _ cur hh (Or.inr (Or.inl rfl)) hg), owns_off (h3 x hx).2 hb (fun g cur hh hg => hf g _ cur hh (Or.inr (Or.inr rfl)) hg)⟩⟩
theorem TcV.tx {w : World} {base b : Nat} {v : Value} {cs : List XCls} (h : TcV w base v cs) (hc : w.cell? ⟨b, 0, none⟩ = some v) (hb : b < w.heap.size) : TxC w b cs := by
 obtain ⟨l, h1, h2, h3⟩ := h
 exact ⟨v, l, hc, hb, h1.mono (Nat.zero_le _), h2, fun x hx => World.ownsRow.mono (h3 x hx) (Nat.zero_le _)⟩
theorem TmV.tx {w : World} {base b : Nat} {v : Value} {ms : List Sig} (h : TmV w base v ms) (hc : w.cell? ⟨b, 1, none⟩ = some v) (hb : b < w.heap.size) : TxM w b ms :=
 ⟨v, hc, hb, World.ownsRow.mono h (Nat.zero_le _)⟩
theorem TcV.len {w : World} {base : Nat} {v : Value} {cs : List XCls} (h : TcV w base v cs) : ∃ ao cap, v = .slice ao cs.length cap := by
 obtain ⟨l, h1, h2, h3⟩ := h
 obtain ⟨ao, cap, hv⟩ := owns_len h1
 exact ⟨ao, cap, by rw [hv, ← h2]; simp⟩
theorem TbV.len {w : World} {base : Nat} {v : Value} {bs : List XBod} (h : TbV w base v bs) : ∃ ao cap, v = .slice ao bs.length cap := by
 obtain ⟨l, h1, h2, h3⟩ := h
 obtain ⟨ao, cap, hv⟩ := owns_len h1
 exact ⟨ao, cap, by rw [hv, ← h2]; simp⟩
end Go.Proofs.YtpfkkmacakjmbaaGreatDoor
