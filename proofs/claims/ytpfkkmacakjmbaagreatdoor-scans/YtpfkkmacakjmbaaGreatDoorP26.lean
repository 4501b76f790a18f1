import Derived.Test.YtpfkkmacakjmbaaGreatDoorP25
import Derived.Test.YtpfkkmacakjmbaaGreatDoorP02
/- Small facts that images and sources share. -/
namespace Go.Proofs.YtpfkkmacakjmbaaGreatDoor
open Go Go.RowKit Sp
set_option linter.unusedSimpArgs false
set_option linter.unusedVariables false
attribute [local go_sem ↓] Go.wp_at_zero Go.wp_at_succ
theorem row3 {w : World} {g t : Nat} {x0 x1 x2 : Value} (h : w.heap[g]? = some (.cells #[x0, x1, x2] t)) : w.cell? ⟨g, 0, none⟩ = some x0 ∧ w.cell? ⟨g, 1, none⟩ = some x1 ∧ w.cell? ⟨g, 2, none⟩ = some x2 := by
 refine ⟨?_, ?_, ?_⟩
 ·rw [cell_of_row w g 0 _ _ (0, 0) h]; rfl
 ·rw [cell_of_row w g 1 _ _ (0, 0) h]; rfl
 ·rw [cell_of_row w g 2 _ _ (0, 0) h]; rfl
theorem arg_rel {ms : List Sig} {n : Nat} (h : n < ms.length) : (methX ms n).arg = argT ms n ∧ (methX ms n).ret = retT ms n := by
 unfold methX argT retT
 rw [List.getElem?_eq_getElem h]
 exact ⟨rfl, rfl⟩
theorem toXI_cls {x : Ins} (h : x.op.toNat = 110 ∨ x.op.toNat = 120 ∨ x.op.toNat = 103 ∨ x.op.toNat = 112 ∨ x.op.toNat = 99) : (toXI x).cls = clsT x.a := by unfold toXI; rw [if_pos h]; rfl
end Go.Proofs.YtpfkkmacakjmbaaGreatDoor
/- What an instruction takes: the letters whose literal calls. -/
namespace Go.Proofs.YtpfkkmacakjmbaaGreatDoor
open Go Go.RowKit Sp
set_option linter.unusedSimpArgs false
set_option linter.unusedVariables false
attribute [local go_sem ↓] Go.wp_at_zero Go.wp_at_succ
set_option maxHeartbeats 1600000 in
set_option maxRecDepth 100000 in
theorem xtakes_112 (b : Nat) (cs : List XCls) (ms : List Sig) (p n : Nat) (k ans : UInt8) (w : World) {ap : Option Addr} {np cp : Nat} (hn : cs.length ≤ 100) (hT : TxC w b cs) :
  Calls Tryz.prog 140 #[.pointer (some ⟨b, 0, none⟩), .agg #[.int .i64 p, .int .u8 112, .int .u8 k.toNat, .int .i64 n, .slice ap np cp], .int .u8 ans.toNat] w fun e w' => But (fun _ => False) w w' ∧ ∃ v, e = .returned v ∧ BtB w' w.heap.size v [k, tatX (fldsX cs k) n] := by
 go_enter Tryz.func140, Tryz.ntmps140
 go_wp2_with fail
 have hBW : But (fun _ => False) w (w.alloc (.cells #[.int .i64 p, .int .u8 112, .int .u8 k.toNat, .int .i64 n, .slice ap np cp] 219)) := But.alloc _ _ _
 have hgW := heap_alloc_new w (.cells #[.int .i64 p, .int .u8 112, .int .u8 k.toNat, .int .i64 n, .slice ap np cp] 219)
 revert hBW hgW
 generalize (w.alloc (.cells #[.int .i64 p, .int .u8 112, .int .u8 k.toNat, .int .i64 n, .slice ap np cp] 219)) = W
 intro hBW hgW
 obtain ⟨k0, k1, k2, k3, k4⟩ := row5 hgW
 have gltW := lt_of_block hgW
 have HGW := hid hgW
 clear hgW
 have hS0 : But (fun _ => False) W W.drew := But.drew _ _
 have HCALL := hid (xft_any b cs k n W.drew hn ((hT.but hBW).but hS0))
 refine wpTx_begin (But (fun _ => False) W) 9 (by kernel_rfl) ?_
 have fSA := hid (fun wS (h : (But (fun _ => False) W) wS) => (And.intro ((h.cell (p := ⟨w.heap.size, 2, none⟩) gltW (fun h => h)).trans k2) ((h.cell (p := ⟨w.heap.size, 3, none⟩) gltW (fun h => h)).trans k3)))
 refine wpTx_take (v := ?vA0) rfl (by kernel_rfl) ?qA0 rfl hS0 ?yA0 ?rA0
 case yA0 => intro wS h; obtain ⟨q0, q1⟩ := fSA.out wS h; clear h; go_simp; try rfl
 case qA0 => exact fun _ _ _ h => h
 dsimp only [Act.put]
 try simp only [puts]
 refine wpTx_take (v := ?vA1) rfl (by kernel_rfl) ?qA1 rfl hS0 ?yA1 ?rA1
 case yA1 => intro wS h; obtain ⟨q0, q1⟩ := fSA.out wS h; clear h; go_simp; try rfl
 case qA1 => exact fun _ _ _ h => h
 dsimp only [Act.put]
 try simp only [puts]
 refine wpTx_take (v := ?vA2) rfl (by kernel_rfl) ?qA2 rfl hS0 ?yA2 ?rA2
 case yA2 => intro wS h; obtain ⟨q0, q1⟩ := fSA.out wS h; clear h; go_simp; try rfl
 case qA2 => exact fun _ _ _ h => h
 dsimp only [Act.put]
 try simp only [puts]
 refine wpTx_take (v := ?vA3) rfl (by kernel_rfl) ?qA3 rfl hS0 ?yA3 ?rA3
 case yA3 => intro wS h; obtain ⟨q0, q1⟩ := fSA.out wS h; clear h; go_simp; try rfl
 case qA3 => exact fun _ _ _ h => h
 dsimp only [Act.put]
 try simp only [puts]
 refine wpTx_take (v := ?vA4) rfl (by kernel_rfl) ?qA4 rfl hS0 ?yA4 ?rA4
 case yA4 => intro wS h; obtain ⟨q0, q1⟩ := fSA.out wS h; clear h; go_simp; try rfl
 case qA4 => exact fun _ _ _ h => h
 dsimp only [Act.put]
 try simp only [puts]
 refine wpTx_take (v := ?vA5) rfl (by kernel_rfl) ?qA5 rfl hS0 ?yA5 ?rA5
 case yA5 => intro wS h; obtain ⟨q0, q1⟩ := fSA.out wS h; clear h; go_simp; try rfl
 case qA5 => exact fun _ _ _ h => h
 dsimp only [Act.put]
 try simp only [puts]
 refine wpTx_take (v := ?vA6) rfl (by kernel_rfl) ?qA6 rfl hS0 ?yA6 ?rA6
 case yA6 => intro wS h; obtain ⟨q0, q1⟩ := fSA.out wS h; clear h; go_simp; try rfl
 case qA6 => exact fun _ _ _ h => h
 dsimp only [Act.put]
 try simp only [puts]
 try clear fSA
 refine wpTx_step (o := ?oA7) (rest := ?rsA7) ?hoA7 ?hrA7 ?stA7
 case hoA7 => rfl
 case hrA7 => kernel_rfl
 case' stA7 =>
 intro KS hKS
 go_simp
 refine HCALL.out.mono ?_
 rintro en wx ⟨rfl, hwx⟩
 rw [hwx]
 clear hwx wx HCALL
 refine hKS.out _ _ (fun _ => hS0) ?_
 clear hKS KS
 obtain ⟨z, hz'⟩ : ∃ z, tatX (fldsX cs k) n = z := ⟨_, rfl⟩
 rw [hz']
 have HZ := hid hz'
 clear hz'
 refine wpTx_step (o := ?oA8) (rest := ?rsA8) ?hoA8 ?hrA8 ?stA8
 case hoA8 => rfl
 case hrA8 => kernel_rfl
 case' stA8 =>
 intro KS hKS
 go_simp
 refine hKS.out _ _ (fun _ => hS0.trans (But.alloc _ _ _)) ?_
 clear hKS KS
 refine wpTx_step (o := ?oA9) (rest := ?rsA9) ?hoA9 ?hrA9 ?stA9
 case hoA9 => rfl
 case hrA9 => kernel_rfl
 case' stA9 =>
 intro KS hKS
 go_simp
 refine hKS.out _ _ (fun h => absurd h (by decide)) ?_
 clear hKS KS
 refine wpTx_done rfl (by kernel_rfl) ?_
 have hz := hBW.size
 go_wp2_with fail
 exact bodyPost_ret (v := .slice (some ⟨W.heap.size, 0, none⟩) 2 2) (by simp [results, Tryz.results140, go_sem]) rfl ⟨hBW.trans ((But.alloc _ _ _).trans (But.drew _ _)), _, rfl, by rw [HZ.out]; exact BtB.but (BtB.lit W w.heap.size hz [k, z] (by simp)) (But.drew (fun _ => False) _) (fun _ _ h => h)⟩
set_option maxHeartbeats 1600000 in
set_option maxRecDepth 100000 in
theorem xtakes_99 (b : Nat) (cs : List XCls) (ms : List Sig) (p n : Nat) (k ans : UInt8) (w : World) {ap : Option Addr} {np cp : Nat} (hm : ms.length ≤ 100) (hM : TxM w b ms) :
  Calls Tryz.prog 140 #[.pointer (some ⟨b, 0, none⟩), .agg #[.int .i64 p, .int .u8 99, .int .u8 k.toNat, .int .i64 n, .slice ap np cp], .int .u8 ans.toNat] w fun e w' => But (fun _ => False) w w' ∧ ∃ v, e = .returned v ∧ BtB w' w.heap.size v [k, (methX ms n).arg] := by
 go_enter Tryz.func140, Tryz.ntmps140
 go_wp2_with fail
 have hBW : But (fun _ => False) w (w.alloc (.cells #[.int .i64 p, .int .u8 99, .int .u8 k.toNat, .int .i64 n, .slice ap np cp] 219)) := But.alloc _ _ _
 have hgW := heap_alloc_new w (.cells #[.int .i64 p, .int .u8 99, .int .u8 k.toNat, .int .i64 n, .slice ap np cp] 219)
 revert hBW hgW
 generalize (w.alloc (.cells #[.int .i64 p, .int .u8 99, .int .u8 k.toNat, .int .i64 n, .slice ap np cp] 219)) = W
 intro hBW hgW
 obtain ⟨k0, k1, k2, k3, k4⟩ := row5 hgW
 have gltW := lt_of_block hgW
 have HGW := hid hgW
 clear hgW
 have hS0 : But (fun _ => False) W W.drew := But.drew _ _
 have HCALL := hid (xmethodAt_any b ms n W.drew hm ((hM.but hBW).but hS0))
 refine wpTx_begin (But (fun _ => False) W) 8 (by kernel_rfl) ?_
 have fSA := hid (fun wS (h : (But (fun _ => False) W) wS) => (And.intro ((h.cell (p := ⟨w.heap.size, 2, none⟩) gltW (fun h => h)).trans k2) ((h.cell (p := ⟨w.heap.size, 3, none⟩) gltW (fun h => h)).trans k3)))
 refine wpTx_take (v := ?vA0) rfl (by kernel_rfl) ?qA0 rfl hS0 ?yA0 ?rA0
 case yA0 => intro wS h; obtain ⟨q0, q1⟩ := fSA.out wS h; clear h; go_simp; try rfl
 case qA0 => exact fun _ _ _ h => h
 dsimp only [Act.put]
 try simp only [puts]
 refine wpTx_take (v := ?vA1) rfl (by kernel_rfl) ?qA1 rfl hS0 ?yA1 ?rA1
 case yA1 => intro wS h; obtain ⟨q0, q1⟩ := fSA.out wS h; clear h; go_simp; try rfl
 case qA1 => exact fun _ _ _ h => h
 dsimp only [Act.put]
 try simp only [puts]
 refine wpTx_take (v := ?vA2) rfl (by kernel_rfl) ?qA2 rfl hS0 ?yA2 ?rA2
 case yA2 => intro wS h; obtain ⟨q0, q1⟩ := fSA.out wS h; clear h; go_simp; try rfl
 case qA2 => exact fun _ _ _ h => h
 dsimp only [Act.put]
 try simp only [puts]
 refine wpTx_take (v := ?vA3) rfl (by kernel_rfl) ?qA3 rfl hS0 ?yA3 ?rA3
 case yA3 => intro wS h; obtain ⟨q0, q1⟩ := fSA.out wS h; clear h; go_simp; try rfl
 case qA3 => exact fun _ _ _ h => h
 dsimp only [Act.put]
 try simp only [puts]
 refine wpTx_take (v := ?vA4) rfl (by kernel_rfl) ?qA4 rfl hS0 ?yA4 ?rA4
 case yA4 => intro wS h; obtain ⟨q0, q1⟩ := fSA.out wS h; clear h; go_simp; try rfl
 case qA4 => exact fun _ _ _ h => h
 dsimp only [Act.put]
 try simp only [puts]
 try clear fSA
 refine wpTx_step (o := ?oA5) (rest := ?rsA5) ?hoA5 ?hrA5 ?stA5
 case hoA5 => rfl
 case hrA5 => kernel_rfl
 case' stA5 =>
 intro KS hKS
 go_simp
 refine HCALL.out.mono ?_
 rintro en wx ⟨rfl, hwx⟩
 clear HCALL
 have hSx := hS0.trans hwx
 refine hKS.out _ _ (fun _ => hSx) ?_
 clear hKS KS
 obtain ⟨z, hz'⟩ : ∃ z, methX ms n = z := ⟨_, rfl⟩
 rw [hz']
 have HZ := hid hz'
 clear hz'
 obtain ⟨za, zr⟩ := z
 dsimp only
 refine wpTx_step (o := ?oA6) (rest := ?rsA6) ?hoA6 ?hrA6 ?stA6
 case hoA6 => rfl
 case hrA6 => kernel_rfl
 case' stA6 =>
 intro KS hKS
 go_simp
 refine hKS.out _ _ (fun _ => hSx) ?_
 clear hKS KS
 refine wpTx_step (o := ?oA7) (rest := ?rsA7) ?hoA7 ?hrA7 ?stA7
 case hoA7 => rfl
 case hrA7 => kernel_rfl
 case' stA7 =>
 intro KS hKS
 go_simp
 refine hKS.out _ _ (fun _ => hSx.trans (But.alloc _ _ _)) ?_
 clear hKS KS
 refine wpTx_step (o := ?oA8) (rest := ?rsA8) ?hoA8 ?hrA8 ?stA8
 case hoA8 => rfl
 case hrA8 => kernel_rfl
 case' stA8 =>
 intro KS hKS
 go_simp
 refine hKS.out _ _ (fun h => absurd h (by decide)) ?_
 clear hKS KS
 refine wpTx_done rfl (by kernel_rfl) ?_
 have hz := hBW.size
 go_wp2_with fail
 have hzx := hSx.size
 exact bodyPost_ret (v := .slice (some ⟨wx.heap.size, 0, none⟩) 2 2) (by simp [results, Tryz.results140, go_sem]) rfl ⟨(hBW.trans hSx).trans (But.alloc _ _ _), _, rfl, by rw [HZ.out]; exact BtB.lit wx w.heap.size (by omega) [k, za] (by simp)⟩
/-- What an instruction takes, any letter. -/
theorem xtakes_any (b : Nat) (cs : List XCls) (ms : List Sig) (p n : Nat) (c k ans : UInt8) (w : World) {ap : Option Addr} {np cp : Nat} (hn : cs.length ≤ 100) (hm : ms.length ≤ 100) (hT : TxC w b cs) (hM : TxM w b ms) :
  Calls Tryz.prog 140 #[.pointer (some ⟨b, 0, none⟩), .agg #[.int .i64 p, .int .u8 c.toNat, .int .u8 k.toNat, .int .i64 n, .slice ap np cp], .int .u8 ans.toNat] w fun e w' => But (fun _ => False) w w' ∧ ∃ v, e = .returned v ∧ BtB w' w.heap.size v (takesX cs ms c k n ans) := by
 by_cases h112 : c.toNat = 112
 ·have hc : c = 112 := UInt8.toNat_inj.1 h112
  subst hc
  exact xtakes_112 b cs ms p n k ans w hn hT
 by_cases h99 : c.toNat = 99
 ·have hc : c = 99 := UInt8.toNat_inj.1 h99
  subst hc
  exact xtakes_99 b cs ms p n k ans w hm hM
 exact xtakes_plain b cs ms p n c k ans w h112 h99
end Go.Proofs.YtpfkkmacakjmbaaGreatDoor
/- Form and links: what images and sources share. -/
namespace Go.Proofs.YtpfkkmacakjmbaaGreatDoor
open Go Go.RowKit Sp
set_option linter.unusedSimpArgs false
set_option linter.unusedVariables false
attribute [local go_sem ↓] Go.wp_at_zero Go.wp_at_succ
/-- What formAndLinks answers of a text that was read. -/
def LinkV (g : Nat) (im : Img) : Value := match im.bodies.findSome? (fun b => unl im.classes im.bodies b.code) with
 | some q => .agg #[.int .i64 3, .int .i64 q, .pointer none, .slice none 0 0]
 | none => .agg #[.int .i64 0, .int .i64 0, .pointer (some ⟨g, 0, none⟩), .slice none 0 0]
set_option maxHeartbeats 1600000 in
set_option maxRecDepth 100000 in
theorem xform_bad (g j : Nat) (w : World) :
  Calls Tryz.prog 64 #[.pointer (some ⟨g, 0, none⟩), .int .i64 j] w fun en w' => But (fun _ => False) w w' ∧ en = .returned (.agg #[.int .i64 2, .int .i64 j, .pointer none, .slice none 0 0]) := by
 have hjn : ¬ (j : Int) = -1 := by omega
 have e1 : ((j : Int) == -1) = false := by rw [beq_eq_false_iff_ne]; omega
 have e2 : ((j : Int) != -1) = true := by simp [bne, e1]
 go_enter Tryz.func64, Tryz.ntmps64
 go_wp2_with fail
 have h9 := heap_alloc_new w (.cells #[.int .i64 2, .int .i64 j, .pointer none, .slice none 0 0] 60)
 have h9b : But (fun _ => False) w (w.alloc (.cells #[.int .i64 2, .int .i64 j, .pointer none, .slice none 0 0] 60)) := But.alloc _ _ _
 revert h9 h9b
 generalize (w.alloc (.cells #[.int .i64 2, .int .i64 j, .pointer none, .slice none 0 0] 60)) = w9
 intro h9 h9b
 obtain ⟨r0, r1, r2, r3⟩ := row4 h9
 exact bodyPost_ret (v := .agg #[.int .i64 2, .int .i64 j, .pointer none, .slice none 0 0]) (by simp [results, Tryz.results64, go_sem, r0, r1, r2, r3]) rfl ⟨h9b, rfl⟩
end Go.Proofs.YtpfkkmacakjmbaaGreatDoor
