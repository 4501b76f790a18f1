import Derived.Test.YtpfkkmacakjmbaaGreatDoorP10
namespace Go.Proofs.YtpfkkmacakjmbaaGreatDoor
open Go Go.RowKit Sp
set_option linter.unusedSimpArgs false
set_option linter.unusedVariables false
attribute [local go_sem ↓] Go.wp_at_zero Go.wp_at_succ
theorem extract1 (l : List UInt8) (k : Nat) (h : k < l.length) : (⟨l.toArray⟩ : ByteArray).extract k (k + 1) = ⟨#[l[k]]⟩ := by
 apply ByteArray.ext
 simp [ByteArray.data_extract]
 rw [List.take_one, List.head?_drop]
 simp [h]
set_option maxHeartbeats 1600000 in
set_option maxRecDepth 100000 in
theorem push_i (bi : Nat) (im : Img) (nl : Nat) (x : Ins) (w : World) (hI : ImgAt w bi im) (hW : WfI im) (hx : WfX im.classes im.sigs.length nl x) (hv : x.op.toNat = 107 ∨ x.op.toNat = 114 ∨ x.op.toNat = 43 ∨ x.op.toNat = 45 ∨ x.op.toNat = 42 ∨ x.op.toNat = 47 ∨ x.op.toNat = 60 ∨ x.op.toNat = 61 ∨ x.op.toNat = 101) :
  Calls Tryz.prog 136 #[.pointer (some ⟨bi, 0, none⟩), .agg #[.int .u8 x.op.toNat, .int .i64 x.a, .int .i64 x.b, .int .i64 x.pos]] w fun en w' => en = .returned (.string ⟨(pushT im.classes im.sigs x).toArray⟩) ∧ But (fun _ => False) w w' := by
 have hres : pushT im.classes im.sigs x = [105] := by
  rcases hv with hv | hv | hv | hv | hv | hv | hv | hv | hv <;> simp [pushT, hv, arith]
 rw [hres]
 clear hres
 rcases hv with hv | hv | hv | hv | hv | hv | hv | hv | hv
 ·have t107 : ((x.op.toNat : Int) == 107) = true := by rw [beq_iff_eq]; omega
  clear hv
  go_enter Tryz.func136, Tryz.ntmps136
  go_wp2_with fail
  go_ret
  exact ⟨rfl, But.alloc _ _ _⟩
 ·have t107 : ((x.op.toNat : Int) == 107) = false := by rw [beq_eq_false_iff_ne]; omega
  have t114 : ((x.op.toNat : Int) == 114) = true := by rw [beq_iff_eq]; omega
  clear hv
  go_enter Tryz.func136, Tryz.ntmps136
  go_wp2_with fail
  go_ret
  exact ⟨rfl, But.alloc _ _ _⟩
 ·have t107 : ((x.op.toNat : Int) == 107) = false := by rw [beq_eq_false_iff_ne]; omega
  have t114 : ((x.op.toNat : Int) == 114) = false := by rw [beq_eq_false_iff_ne]; omega
  have t43 : ((x.op.toNat : Int) == 43) = true := by rw [beq_iff_eq]; omega
  clear hv
  go_enter Tryz.func136, Tryz.ntmps136
  go_wp2_with fail
  go_ret
  exact ⟨rfl, But.alloc _ _ _⟩
 ·have t107 : ((x.op.toNat : Int) == 107) = false := by rw [beq_eq_false_iff_ne]; omega
  have t114 : ((x.op.toNat : Int) == 114) = false := by rw [beq_eq_false_iff_ne]; omega
  have t43 : ((x.op.toNat : Int) == 43) = false := by rw [beq_eq_false_iff_ne]; omega
  have t45 : ((x.op.toNat : Int) == 45) = true := by rw [beq_iff_eq]; omega
  clear hv
  go_enter Tryz.func136, Tryz.ntmps136
  go_wp2_with fail
  go_ret
  exact ⟨rfl, But.alloc _ _ _⟩
 ·have t107 : ((x.op.toNat : Int) == 107) = false := by rw [beq_eq_false_iff_ne]; omega
  have t114 : ((x.op.toNat : Int) == 114) = false := by rw [beq_eq_false_iff_ne]; omega
  have t43 : ((x.op.toNat : Int) == 43) = false := by rw [beq_eq_false_iff_ne]; omega
  have t45 : ((x.op.toNat : Int) == 45) = false := by rw [beq_eq_false_iff_ne]; omega
  have t42 : ((x.op.toNat : Int) == 42) = true := by rw [beq_iff_eq]; omega
  clear hv
  go_enter Tryz.func136, Tryz.ntmps136
  go_wp2_with fail
  go_ret
  exact ⟨rfl, But.alloc _ _ _⟩
 ·have t107 : ((x.op.toNat : Int) == 107) = false := by rw [beq_eq_false_iff_ne]; omega
  have t114 : ((x.op.toNat : Int) == 114) = false := by rw [beq_eq_false_iff_ne]; omega
  have t43 : ((x.op.toNat : Int) == 43) = false := by rw [beq_eq_false_iff_ne]; omega
  have t45 : ((x.op.toNat : Int) == 45) = false := by rw [beq_eq_false_iff_ne]; omega
  have t42 : ((x.op.toNat : Int) == 42) = false := by rw [beq_eq_false_iff_ne]; omega
  have t47 : ((x.op.toNat : Int) == 47) = true := by rw [beq_iff_eq]; omega
  clear hv
  go_enter Tryz.func136, Tryz.ntmps136
  go_wp2_with fail
  go_ret
  exact ⟨rfl, But.alloc _ _ _⟩
 ·have t107 : ((x.op.toNat : Int) == 107) = false := by rw [beq_eq_false_iff_ne]; omega
  have t114 : ((x.op.toNat : Int) == 114) = false := by rw [beq_eq_false_iff_ne]; omega
  have t43 : ((x.op.toNat : Int) == 43) = false := by rw [beq_eq_false_iff_ne]; omega
  have t45 : ((x.op.toNat : Int) == 45) = false := by rw [beq_eq_false_iff_ne]; omega
  have t42 : ((x.op.toNat : Int) == 42) = false := by rw [beq_eq_false_iff_ne]; omega
  have t47 : ((x.op.toNat : Int) == 47) = false := by rw [beq_eq_false_iff_ne]; omega
  have t60 : ((x.op.toNat : Int) == 60) = true := by rw [beq_iff_eq]; omega
  clear hv
  go_enter Tryz.func136, Tryz.ntmps136
  go_wp2_with fail
  go_ret
  exact ⟨rfl, But.alloc _ _ _⟩
 ·have t107 : ((x.op.toNat : Int) == 107) = false := by rw [beq_eq_false_iff_ne]; omega
  have t114 : ((x.op.toNat : Int) == 114) = false := by rw [beq_eq_false_iff_ne]; omega
  have t43 : ((x.op.toNat : Int) == 43) = false := by rw [beq_eq_false_iff_ne]; omega
  have t45 : ((x.op.toNat : Int) == 45) = false := by rw [beq_eq_false_iff_ne]; omega
  have t42 : ((x.op.toNat : Int) == 42) = false := by rw [beq_eq_false_iff_ne]; omega
  have t47 : ((x.op.toNat : Int) == 47) = false := by rw [beq_eq_false_iff_ne]; omega
  have t60 : ((x.op.toNat : Int) == 60) = false := by rw [beq_eq_false_iff_ne]; omega
  have t61 : ((x.op.toNat : Int) == 61) = true := by rw [beq_iff_eq]; omega
  clear hv
  go_enter Tryz.func136, Tryz.ntmps136
  go_wp2_with fail
  go_ret
  exact ⟨rfl, But.alloc _ _ _⟩
 ·have t107 : ((x.op.toNat : Int) == 107) = false := by rw [beq_eq_false_iff_ne]; omega
  have t114 : ((x.op.toNat : Int) == 114) = false := by rw [beq_eq_false_iff_ne]; omega
  have t43 : ((x.op.toNat : Int) == 43) = false := by rw [beq_eq_false_iff_ne]; omega
  have t45 : ((x.op.toNat : Int) == 45) = false := by rw [beq_eq_false_iff_ne]; omega
  have t42 : ((x.op.toNat : Int) == 42) = false := by rw [beq_eq_false_iff_ne]; omega
  have t47 : ((x.op.toNat : Int) == 47) = false := by rw [beq_eq_false_iff_ne]; omega
  have t60 : ((x.op.toNat : Int) == 60) = false := by rw [beq_eq_false_iff_ne]; omega
  have t61 : ((x.op.toNat : Int) == 61) = false := by rw [beq_eq_false_iff_ne]; omega
  have t101 : ((x.op.toNat : Int) == 101) = true := by rw [beq_iff_eq]; omega
  clear hv
  go_enter Tryz.func136, Tryz.ntmps136
  go_wp2_with fail
  go_ret
  exact ⟨rfl, But.alloc _ _ _⟩
set_option maxHeartbeats 1600000 in
set_option maxRecDepth 100000 in
theorem push_z (bi : Nat) (im : Img) (nl : Nat) (x : Ins) (w : World) (hI : ImgAt w bi im) (hW : WfI im) (hx : WfX im.classes im.sigs.length nl x) (hv : x.op.toNat = 122) :
  Calls Tryz.prog 136 #[.pointer (some ⟨bi, 0, none⟩), .agg #[.int .u8 x.op.toNat, .int .i64 x.a, .int .i64 x.b, .int .i64 x.pos]] w fun en w' => en = .returned (.string ⟨(pushT im.classes im.sigs x).toArray⟩) ∧ But (fun _ => False) w w' := by
 have hres : pushT im.classes im.sigs x = [122] := by simp [pushT, hv, arith]
 rw [hres]
 clear hres
 have t107 : ((x.op.toNat : Int) == 107) = false := by rw [beq_eq_false_iff_ne]; omega
 have t114 : ((x.op.toNat : Int) == 114) = false := by rw [beq_eq_false_iff_ne]; omega
 have t43 : ((x.op.toNat : Int) == 43) = false := by rw [beq_eq_false_iff_ne]; omega
 have t45 : ((x.op.toNat : Int) == 45) = false := by rw [beq_eq_false_iff_ne]; omega
 have t42 : ((x.op.toNat : Int) == 42) = false := by rw [beq_eq_false_iff_ne]; omega
 have t47 : ((x.op.toNat : Int) == 47) = false := by rw [beq_eq_false_iff_ne]; omega
 have t60 : ((x.op.toNat : Int) == 60) = false := by rw [beq_eq_false_iff_ne]; omega
 have t61 : ((x.op.toNat : Int) == 61) = false := by rw [beq_eq_false_iff_ne]; omega
 have t101 : ((x.op.toNat : Int) == 101) = false := by rw [beq_eq_false_iff_ne]; omega
 have t122 : ((x.op.toNat : Int) == 122) = true := by rw [beq_iff_eq]; omega
 clear hv
 go_enter Tryz.func136, Tryz.ntmps136
 go_wp2_with fail
 go_ret
 exact ⟨rfl, But.alloc _ _ _⟩
set_option maxHeartbeats 1600000 in
set_option maxRecDepth 100000 in
theorem push_nx (bi : Nat) (im : Img) (nl : Nat) (x : Ins) (w : World) (hI : ImgAt w bi im) (hW : WfI im) (hx : WfX im.classes im.sigs.length nl x) (hv : x.op.toNat = 110 ∨ x.op.toNat = 120) :
  Calls Tryz.prog 136 #[.pointer (some ⟨bi, 0, none⟩), .agg #[.int .u8 x.op.toNat, .int .i64 x.a, .int .i64 x.b, .int .i64 x.pos]] w fun en w' => en = .returned (.string ⟨(pushT im.classes im.sigs x).toArray⟩) ∧ But (fun _ => False) w w' := by
 have hres : pushT im.classes im.sigs x = [clsT x.a] := by rcases hv with hv | hv <;> simp [pushT, hv, arith]
 rw [hres]
 clear hres
 have hxa : x.a < 4 := by have := hx.cls (by omega); have := hW.nc; omega
 have hxi : (x.a : Int) < 4 := by omega
 have hcv := conv1i (65 + (x.a : Int)) (clsT x.a) (clsT_nat hxa) (w.alloc (.cells #[.int .u8 x.op.toNat, .int .i64 x.a, .int .i64 x.b, .int .i64 x.pos] 144))
 rw [show (w.alloc (.cells #[.int .u8 x.op.toNat, .int .i64 x.a, .int .i64 x.b, .int .i64 x.pos] 144)).heap.size = w.heap.size + 1 from by simp] at hcv
 generalize clsT x.a = C at *
 rcases hv with hv | hv
 ·have t107 : ((x.op.toNat : Int) == 107) = false := by rw [beq_eq_false_iff_ne]; omega
  have t114 : ((x.op.toNat : Int) == 114) = false := by rw [beq_eq_false_iff_ne]; omega
  have t43 : ((x.op.toNat : Int) == 43) = false := by rw [beq_eq_false_iff_ne]; omega
  have t45 : ((x.op.toNat : Int) == 45) = false := by rw [beq_eq_false_iff_ne]; omega
  have t42 : ((x.op.toNat : Int) == 42) = false := by rw [beq_eq_false_iff_ne]; omega
  have t47 : ((x.op.toNat : Int) == 47) = false := by rw [beq_eq_false_iff_ne]; omega
  have t60 : ((x.op.toNat : Int) == 60) = false := by rw [beq_eq_false_iff_ne]; omega
  have t61 : ((x.op.toNat : Int) == 61) = false := by rw [beq_eq_false_iff_ne]; omega
  have t101 : ((x.op.toNat : Int) == 101) = false := by rw [beq_eq_false_iff_ne]; omega
  have t122 : ((x.op.toNat : Int) == 122) = false := by rw [beq_eq_false_iff_ne]; omega
  have t110 : ((x.op.toNat : Int) == 110) = true := by rw [beq_iff_eq]; omega
  clear hv
  go_enter Tryz.func136, Tryz.ntmps136
  go_wp2_with fail
  go_ret
  exact ⟨rfl, (But.alloc _ _ _).trans (But.alloc _ _ _)⟩
 ·have t107 : ((x.op.toNat : Int) == 107) = false := by rw [beq_eq_false_iff_ne]; omega
  have t114 : ((x.op.toNat : Int) == 114) = false := by rw [beq_eq_false_iff_ne]; omega
  have t43 : ((x.op.toNat : Int) == 43) = false := by rw [beq_eq_false_iff_ne]; omega
  have t45 : ((x.op.toNat : Int) == 45) = false := by rw [beq_eq_false_iff_ne]; omega
  have t42 : ((x.op.toNat : Int) == 42) = false := by rw [beq_eq_false_iff_ne]; omega
  have t47 : ((x.op.toNat : Int) == 47) = false := by rw [beq_eq_false_iff_ne]; omega
  have t60 : ((x.op.toNat : Int) == 60) = false := by rw [beq_eq_false_iff_ne]; omega
  have t61 : ((x.op.toNat : Int) == 61) = false := by rw [beq_eq_false_iff_ne]; omega
  have t101 : ((x.op.toNat : Int) == 101) = false := by rw [beq_eq_false_iff_ne]; omega
  have t122 : ((x.op.toNat : Int) == 122) = false := by rw [beq_eq_false_iff_ne]; omega
  have t110 : ((x.op.toNat : Int) == 110) = false := by rw [beq_eq_false_iff_ne]; omega
  have t120 : ((x.op.toNat : Int) == 120) = true := by rw [beq_iff_eq]; omega
  clear hv
  go_enter Tryz.func136, Tryz.ntmps136
  go_wp2_with fail
  go_ret
  exact ⟨rfl, (But.alloc _ _ _).trans (But.alloc _ _ _)⟩
set_option maxHeartbeats 1600000 in
set_option maxRecDepth 100000 in
theorem push_g (bi : Nat) (im : Img) (nl : Nat) (x : Ins) (w : World) (hI : ImgAt w bi im) (hW : WfI im) (hx : WfX im.classes im.sigs.length nl x) (hv : x.op.toNat = 103) :
  Calls Tryz.prog 136 #[.pointer (some ⟨bi, 0, none⟩), .agg #[.int .u8 x.op.toNat, .int .i64 x.a, .int .i64 x.b, .int .i64 x.pos]] w fun en w' => en = .returned (.string ⟨(pushT im.classes im.sigs x).toArray⟩) ∧ But (fun _ => False) w w' := by
 have hres : pushT im.classes im.sigs x = [fieldT im.classes x.a x.b] := by simp [pushT, hv, arith]
 rw [hres]
 clear hres
 generalize hEe : fieldT im.classes x.a x.b = E
 have HEE : Hid (fieldT im.classes x.a x.b = E) := hEe
 clear hEe
 have t107 : ((x.op.toNat : Int) == 107) = false := by rw [beq_eq_false_iff_ne]; omega
 have t114 : ((x.op.toNat : Int) == 114) = false := by rw [beq_eq_false_iff_ne]; omega
 have t43 : ((x.op.toNat : Int) == 43) = false := by rw [beq_eq_false_iff_ne]; omega
 have t45 : ((x.op.toNat : Int) == 45) = false := by rw [beq_eq_false_iff_ne]; omega
 have t42 : ((x.op.toNat : Int) == 42) = false := by rw [beq_eq_false_iff_ne]; omega
 have t47 : ((x.op.toNat : Int) == 47) = false := by rw [beq_eq_false_iff_ne]; omega
 have t60 : ((x.op.toNat : Int) == 60) = false := by rw [beq_eq_false_iff_ne]; omega
 have t61 : ((x.op.toNat : Int) == 61) = false := by rw [beq_eq_false_iff_ne]; omega
 have t101 : ((x.op.toNat : Int) == 101) = false := by rw [beq_eq_false_iff_ne]; omega
 have t122 : ((x.op.toNat : Int) == 122) = false := by rw [beq_eq_false_iff_ne]; omega
 have t110 : ((x.op.toNat : Int) == 110) = false := by rw [beq_eq_false_iff_ne]; omega
 have t120 : ((x.op.toNat : Int) == 120) = false := by rw [beq_eq_false_iff_ne]; omega
 have t103 : ((x.op.toNat : Int) == 103) = true := by rw [beq_iff_eq]; omega
 have hxa : x.a < im.classes.length := hx.cls (by omega)
 have hxb := hx.fld (by omega)
 have hnc := hW.nc
 have hnum := hx.num
 clear hv
 go_enter Tryz.func136, Tryz.ntmps136
 go_wp2_with fail
 have hB0 : But (fun _ => False) w (w.alloc (.cells #[.int .u8 x.op.toNat, .int .i64 x.a, .int .i64 x.b, .int .i64 x.pos] 144)) := But.alloc _ _ _
 have hgI : (w.alloc (.cells #[.int .u8 x.op.toNat, .int .i64 x.a, .int .i64 x.b, .int .i64 x.pos] 144)).heap[w.heap.size]? = some (.cells #[.int .u8 x.op.toNat, .int .i64 x.a, .int .i64 x.b, .int .i64 x.pos] 144) := heap_alloc_new _ _
 generalize (w.alloc (.cells #[.int .u8 x.op.toNat, .int .i64 x.a, .int .i64 x.b, .int .i64 x.pos] 144)) = W at *
 have i1 : W.cell? ⟨w.heap.size, 1, none⟩ = some (.int .i64 x.a) := by rw [cell_of_row W _ 1 _ _ (0, 0) hgI]; rfl
 have i2 : W.cell? ⟨w.heap.size, 2, none⟩ = some (.int .i64 x.b) := by rw [cell_of_row W _ 2 _ _ (0, 0) hgI]; rfl
 have lI := lt_of_block hgI
 have hIW := hI.but hB0
 obtain ⟨g, m, cap, fl, d0, hm, hc, hjl, hfe, lbi, lg⟩ := hIW.cls.flds hxa hxb
 have hjl2 : (x.b : Int) < (fl.length : Int) := by omega
 have hjl3 : (x.b : Int) + 1 ≤ (fl.length : Int) := by omega
 have hwr := wrapI ((x.b : Int) + 1) (by omega) (by omega)
 have hle : (x.b : Int) ≤ (x.b : Int) + 1 := by omega
 have hle0 : (0 : Int) ≤ (x.b : Int) + 1 := by omega
 have HFE : Hid (fl.getD x.b 0 = fieldT im.classes x.a x.b) := hfe
 clear hfe
 have hS0 : But (fun _ => False) W W.drew := But.drew _ _
 refine wpTx_begin (But (fun _ => False) W) 15 (by kernel_rfl) ?_
 have fSA := hid (fun wS (h : (But (fun _ => False) W) wS) => (And.intro ((h.cell (p := ⟨w.heap.size, 1, none⟩) lI (fun h => h)).trans i1) (And.intro ((h.cell (p := ⟨w.heap.size, 2, none⟩) lI (fun h => h)).trans i2) (And.intro ((h.cell (p := ⟨bi, 0, none⟩) lbi (fun h => h)).trans d0) ((h.cell (p := ⟨g, x.a * 2 + 1, none⟩) lg (fun h => h)).trans hc)))))
 refine wpTx_take (v := ?vA0) rfl (by kernel_rfl) ?qA0 rfl hS0 ?yA0 ?rA0
 case yA0 => intro wS h; obtain ⟨q0, q1, q2, q3⟩ := fSA.out wS h; clear h; go_simp; try rfl
 case qA0 => exact fun _ _ _ h => h
 dsimp only [Act.put]
 try simp only [puts]
 refine wpTx_take (v := ?vA1) rfl (by kernel_rfl) ?qA1 rfl hS0 ?yA1 ?rA1
 case yA1 => intro wS h; obtain ⟨q0, q1, q2, q3⟩ := fSA.out wS h; clear h; go_simp; try rfl
 case qA1 => exact fun _ _ _ h => h
 dsimp only [Act.put]
 try simp only [puts]
 refine wpTx_take (v := ?vA2) rfl (by kernel_rfl) ?qA2 rfl hS0 ?yA2 ?rA2
 case yA2 => intro wS h; obtain ⟨q0, q1, q2, q3⟩ := fSA.out wS h; clear h; go_simp; try rfl
 case qA2 => exact fun _ _ _ h => h
 dsimp only [Act.put]
 try simp only [puts]
 refine wpTx_take (v := ?vA3) rfl (by kernel_rfl) ?qA3 rfl hS0 ?yA3 ?rA3
 case yA3 => intro wS h; obtain ⟨q0, q1, q2, q3⟩ := fSA.out wS h; clear h; go_simp; try rfl
 case qA3 => exact fun _ _ _ h => h
 dsimp only [Act.put]
 try simp only [puts]
 refine wpTx_take (v := ?vA4) rfl (by kernel_rfl) ?qA4 rfl hS0 ?yA4 ?rA4
 case yA4 => intro wS h; obtain ⟨q0, q1, q2, q3⟩ := fSA.out wS h; clear h; go_simp; try rfl
 case qA4 => exact fun _ _ _ h => h
 dsimp only [Act.put]
 try simp only [puts]
 refine wpTx_take (v := ?vA5) rfl (by kernel_rfl) ?qA5 rfl hS0 ?yA5 ?rA5
 case yA5 => intro wS h; obtain ⟨q0, q1, q2, q3⟩ := fSA.out wS h; clear h; go_simp; try rfl
 case qA5 => exact fun _ _ _ h => h
 dsimp only [Act.put]
 try simp only [puts]
 refine wpTx_take (v := ?vA6) rfl (by kernel_rfl) ?qA6 rfl hS0 ?yA6 ?rA6
 case yA6 => intro wS h; obtain ⟨q0, q1, q2, q3⟩ := fSA.out wS h; clear h; go_simp; try rfl
 case qA6 => exact fun _ _ _ h => h
 dsimp only [Act.put]
 try simp only [puts]
 refine wpTx_take (v := ?vA7) rfl (by kernel_rfl) ?qA7 rfl hS0 ?yA7 ?rA7
 case yA7 => intro wS h; obtain ⟨q0, q1, q2, q3⟩ := fSA.out wS h; clear h; go_simp; try rfl
 case qA7 => exact fun _ _ _ h => h
 dsimp only [Act.put]
 try simp only [puts]
 refine wpTx_take (v := ?vA8) rfl (by kernel_rfl) ?qA8 rfl hS0 ?yA8 ?rA8
 case yA8 => intro wS h; obtain ⟨q0, q1, q2, q3⟩ := fSA.out wS h; clear h; go_simp; try rfl
 case qA8 => exact fun _ _ _ h => h
 dsimp only [Act.put]
 try simp only [puts]
 refine wpTx_take (v := ?vA9) rfl (by kernel_rfl) ?qA9 rfl hS0 ?yA9 ?rA9
 case yA9 => intro wS h; obtain ⟨q0, q1, q2, q3⟩ := fSA.out wS h; clear h; go_simp; try rfl
 case qA9 => exact fun _ _ _ h => h
 dsimp only [Act.put]
 try simp only [puts]
 refine wpTx_take (v := ?vA10) rfl (by kernel_rfl) ?qA10 rfl hS0 ?yA10 ?rA10
 case yA10 => intro wS h; obtain ⟨q0, q1, q2, q3⟩ := fSA.out wS h; clear h; go_simp; try rfl
 case qA10 => exact fun _ _ _ h => h
 dsimp only [Act.put]
 try simp only [puts]
 refine wpTx_take (v := ?vA11) rfl (by kernel_rfl) ?qA11 rfl hS0 ?yA11 ?rA11
 case yA11 => intro wS h; obtain ⟨q0, q1, q2, q3⟩ := fSA.out wS h; clear h; go_simp; try rfl
 case qA11 => exact fun _ _ _ h => h
 dsimp only [Act.put]
 try simp only [puts]
 refine wpTx_take (v := ?vA12) rfl (by kernel_rfl) ?qA12 rfl hS0 ?yA12 ?rA12
 case yA12 => intro wS h; obtain ⟨q0, q1, q2, q3⟩ := fSA.out wS h; clear h; go_simp; try rfl
 case qA12 => exact fun _ _ _ h => h
 dsimp only [Act.put]
 try simp only [puts]
 refine wpTx_take (v := ?vA13) rfl (by kernel_rfl) ?qA13 rfl hS0 ?yA13 ?rA13
 case yA13 => intro wS h; obtain ⟨q0, q1, q2, q3⟩ := fSA.out wS h; clear h; go_simp; try rfl
 case qA13 => exact fun _ _ _ h => h
 dsimp only [Act.put]
 try simp only [puts]
 refine wpTx_take (v := ?vA14) rfl (by kernel_rfl) ?qA14 rfl hS0 ?yA14 ?rA14
 case yA14 => intro wS h; obtain ⟨q0, q1, q2, q3⟩ := fSA.out wS h; clear h; go_simp; try rfl
 case qA14 => exact fun _ _ _ h => h
 dsimp only [Act.put]
 try simp only [puts]
 try clear fSA
 clear hwr hle hle0
 have hex : (⟨fl.toArray⟩ : ByteArray).extract x.b (x.b + 1) = ⟨#[E]⟩ := by rw [extract1 fl x.b hjl, ← getD_lt fl _ hjl, HFE.out, HEE.out]
 have HEX : Hid ((⟨fl.toArray⟩ : ByteArray).extract x.b (x.b + 1) = ⟨#[E]⟩) := hex
 clear hex
 refine wpTx_step (o := ?oA15) (rest := ?rsA15) ?hoA15 ?hrA15 ?stA15
 case hoA15 => rfl
 case hrA15 => kernel_rfl
 case' stA15 =>
 intro KS hKS
 go_simp
 refine hKS.out _ _ (fun h => absurd h (by decide)) ?_
 clear hKS KS
 refine wpTx_done rfl (by kernel_rfl) ?_
 rw [HEX.out]
 go_wp2_with fail
 go_ret
 exact ⟨rfl, hB0.trans (But.drew _ _)⟩
set_option maxHeartbeats 1600000 in
set_option maxRecDepth 100000 in
theorem push_c (bi : Nat) (im : Img) (nl : Nat) (x : Ins) (w : World) (hI : ImgAt w bi im) (hW : WfI im) (hx : WfX im.classes im.sigs.length nl x) (hv : x.op.toNat = 99) :
  Calls Tryz.prog 136 #[.pointer (some ⟨bi, 0, none⟩), .agg #[.int .u8 x.op.toNat, .int .i64 x.a, .int .i64 x.b, .int .i64 x.pos]] w fun en w' => en = .returned (.string ⟨(pushT im.classes im.sigs x).toArray⟩) ∧ But (fun _ => False) w w' := by
 have hres : pushT im.classes im.sigs x = [retT im.sigs x.b] := by simp [pushT, hv, arith]
 rw [hres]
 clear hres
 generalize hEe : retT im.sigs x.b = E
 have HEE : Hid (retT im.sigs x.b = E) := hEe
 clear hEe
 have t107 : ((x.op.toNat : Int) == 107) = false := by rw [beq_eq_false_iff_ne]; omega
 have t114 : ((x.op.toNat : Int) == 114) = false := by rw [beq_eq_false_iff_ne]; omega
 have t43 : ((x.op.toNat : Int) == 43) = false := by rw [beq_eq_false_iff_ne]; omega
 have t45 : ((x.op.toNat : Int) == 45) = false := by rw [beq_eq_false_iff_ne]; omega
 have t42 : ((x.op.toNat : Int) == 42) = false := by rw [beq_eq_false_iff_ne]; omega
 have t47 : ((x.op.toNat : Int) == 47) = false := by rw [beq_eq_false_iff_ne]; omega
 have t60 : ((x.op.toNat : Int) == 60) = false := by rw [beq_eq_false_iff_ne]; omega
 have t61 : ((x.op.toNat : Int) == 61) = false := by rw [beq_eq_false_iff_ne]; omega
 have t101 : ((x.op.toNat : Int) == 101) = false := by rw [beq_eq_false_iff_ne]; omega
 have t122 : ((x.op.toNat : Int) == 122) = false := by rw [beq_eq_false_iff_ne]; omega
 have t110 : ((x.op.toNat : Int) == 110) = false := by rw [beq_eq_false_iff_ne]; omega
 have t120 : ((x.op.toNat : Int) == 120) = false := by rw [beq_eq_false_iff_ne]; omega
 have t103 : ((x.op.toNat : Int) == 103) = false := by rw [beq_eq_false_iff_ne]; omega
 have t99 : ((x.op.toNat : Int) == 99) = true := by rw [beq_iff_eq]; omega
 have hxb := hx.sig (by omega)
 clear hv
 go_enter Tryz.func136, Tryz.ntmps136
 go_wp2_with fail
 have hB0 : But (fun _ => False) w (w.alloc (.cells #[.int .u8 x.op.toNat, .int .i64 x.a, .int .i64 x.b, .int .i64 x.pos] 144)) := But.alloc _ _ _
 have hgI : (w.alloc (.cells #[.int .u8 x.op.toNat, .int .i64 x.a, .int .i64 x.b, .int .i64 x.pos] 144)).heap[w.heap.size]? = some (.cells #[.int .u8 x.op.toNat, .int .i64 x.a, .int .i64 x.b, .int .i64 x.pos] 144) := heap_alloc_new _ _
 generalize (w.alloc (.cells #[.int .u8 x.op.toNat, .int .i64 x.a, .int .i64 x.b, .int .i64 x.pos] 144)) = W at *
 have i1 : W.cell? ⟨w.heap.size, 1, none⟩ = some (.int .i64 x.a) := by rw [cell_of_row W _ 1 _ _ (0, 0) hgI]; rfl
 have i2 : W.cell? ⟨w.heap.size, 2, none⟩ = some (.int .i64 x.b) := by rw [cell_of_row W _ 2 _ _ (0, 0) hgI]; rfl
 have lI := lt_of_block hgI
 have hIW := hI.but hB0
 obtain ⟨g, m, cap, d1, hm, hc, hc2, lbi, lg⟩ := hIW.sig.at hxb
 rw [HEE.out] at hc2
 have hS0 : But (fun _ => False) W W.drew := But.drew _ _
 refine wpTx_begin (But (fun _ => False) W) 11 (by kernel_rfl) ?_
 have fSA := hid (fun wS (h : (But (fun _ => False) W) wS) => (And.intro ((h.cell (p := ⟨w.heap.size, 2, none⟩) lI (fun h => h)).trans i2) (And.intro ((h.cell (p := ⟨bi, 1, none⟩) lbi (fun h => h)).trans d1) ((h.cell (p := ⟨g, x.b * 2 + 1, none⟩) lg (fun h => h)).trans hc2))))
 refine wpTx_take (v := ?vA0) rfl (by kernel_rfl) ?qA0 rfl hS0 ?yA0 ?rA0
 case yA0 => intro wS h; obtain ⟨q0, q1, q2⟩ := fSA.out wS h; clear h; go_simp; try rfl
 case qA0 => exact fun _ _ _ h => h
 dsimp only [Act.put]
 try simp only [puts]
 refine wpTx_take (v := ?vA1) rfl (by kernel_rfl) ?qA1 rfl hS0 ?yA1 ?rA1
 case yA1 => intro wS h; obtain ⟨q0, q1, q2⟩ := fSA.out wS h; clear h; go_simp; try rfl
 case qA1 => exact fun _ _ _ h => h
 dsimp only [Act.put]
 try simp only [puts]
 refine wpTx_take (v := ?vA2) rfl (by kernel_rfl) ?qA2 rfl hS0 ?yA2 ?rA2
 case yA2 => intro wS h; obtain ⟨q0, q1, q2⟩ := fSA.out wS h; clear h; go_simp; try rfl
 case qA2 => exact fun _ _ _ h => h
 dsimp only [Act.put]
 try simp only [puts]
 refine wpTx_take (v := ?vA3) rfl (by kernel_rfl) ?qA3 rfl hS0 ?yA3 ?rA3
 case yA3 => intro wS h; obtain ⟨q0, q1, q2⟩ := fSA.out wS h; clear h; go_simp; try rfl
 case qA3 => exact fun _ _ _ h => h
 dsimp only [Act.put]
 try simp only [puts]
 refine wpTx_take (v := ?vA4) rfl (by kernel_rfl) ?qA4 rfl hS0 ?yA4 ?rA4
 case yA4 => intro wS h; obtain ⟨q0, q1, q2⟩ := fSA.out wS h; clear h; go_simp; try rfl
 case qA4 => exact fun _ _ _ h => h
 dsimp only [Act.put]
 try simp only [puts]
 refine wpTx_take (v := ?vA5) rfl (by kernel_rfl) ?qA5 rfl hS0 ?yA5 ?rA5
 case yA5 => intro wS h; obtain ⟨q0, q1, q2⟩ := fSA.out wS h; clear h; go_simp; try rfl
 case qA5 => exact fun _ _ _ h => h
 dsimp only [Act.put]
 try simp only [puts]
 refine wpTx_take (v := ?vA6) rfl (by kernel_rfl) ?qA6 rfl hS0 ?yA6 ?rA6
 case yA6 => intro wS h; obtain ⟨q0, q1, q2⟩ := fSA.out wS h; clear h; go_simp; try rfl
 case qA6 => exact fun _ _ _ h => h
 dsimp only [Act.put]
 try simp only [puts]
 refine wpTx_take (v := ?vA7) rfl (by kernel_rfl) ?qA7 rfl hS0 ?yA7 ?rA7
 case yA7 => intro wS h; obtain ⟨q0, q1, q2⟩ := fSA.out wS h; clear h; go_simp; try rfl
 case qA7 => exact fun _ _ _ h => h
 dsimp only [Act.put]
 try simp only [puts]
 refine wpTx_take (v := ?vA8) rfl (by kernel_rfl) ?qA8 rfl hS0 ?yA8 ?rA8
 case yA8 => intro wS h; obtain ⟨q0, q1, q2⟩ := fSA.out wS h; clear h; go_simp; try rfl
 case qA8 => exact fun _ _ _ h => h
 dsimp only [Act.put]
 try simp only [puts]
 try clear fSA
 refine wpTx_step (o := ?oA9) (rest := ?rsA9) ?hoA9 ?hrA9 ?stA9
 case hoA9 => rfl
 case hrA9 => kernel_rfl
 case' stA9 =>
 intro KS hKS
 go_simp
 refine hKS.out _ _ (fun _ => (But.alloc _ _ _).trans (But.drew _ _)) ?_
 clear hKS KS
 have hcv := conv1d (E.toNat : Int) E rfl
 refine wpTx_step (o := ?oA10) (rest := ?rsA10) ?hoA10 ?hrA10 ?stA10
 case hoA10 => rfl
 case hrA10 => kernel_rfl
 case' stA10 =>
 intro KS hKS
 go_simp
 refine hKS.out _ _ (fun _ => (But.alloc _ _ _).trans (But.drew _ _)) ?_
 clear hKS KS
 refine wpTx_step (o := ?oA11) (rest := ?rsA11) ?hoA11 ?hrA11 ?stA11
 case hoA11 => rfl
 case hrA11 => kernel_rfl
 case' stA11 =>
 intro KS hKS
 go_simp
 refine hKS.out _ _ (fun h => absurd h (by decide)) ?_
 clear hKS KS
 refine wpTx_done rfl (by kernel_rfl) ?_
 go_wp2_with fail
 go_ret
 exact ⟨rfl, hB0.trans ((But.alloc _ _ _).trans (But.drew _ _))⟩
set_option maxHeartbeats 1600000 in
set_option maxRecDepth 100000 in
theorem push_no (bi : Nat) (im : Img) (nl : Nat) (x : Ins) (w : World) (hI : ImgAt w bi im) (hW : WfI im) (hx : WfX im.classes im.sigs.length nl x) (hv : x.op.toNat ≠ 107 ∧ x.op.toNat ≠ 114 ∧ x.op.toNat ≠ 43 ∧ x.op.toNat ≠ 45 ∧ x.op.toNat ≠ 42 ∧ x.op.toNat ≠ 47 ∧ x.op.toNat ≠ 60 ∧ x.op.toNat ≠ 61 ∧ x.op.toNat ≠ 101 ∧ x.op.toNat ≠ 122 ∧ x.op.toNat ≠ 110 ∧ x.op.toNat ≠ 120 ∧ x.op.toNat ≠ 103 ∧ x.op.toNat ≠ 99) :
  Calls Tryz.prog 136 #[.pointer (some ⟨bi, 0, none⟩), .agg #[.int .u8 x.op.toNat, .int .i64 x.a, .int .i64 x.b, .int .i64 x.pos]] w fun en w' => en = .returned (.string ⟨(pushT im.classes im.sigs x).toArray⟩) ∧ But (fun _ => False) w w' := by
 have hres : pushT im.classes im.sigs x = [] := by simp [pushT, arith, hv.1, hv.2.1, hv.2.2.1, hv.2.2.2.1, hv.2.2.2.2.1, hv.2.2.2.2.2.1, hv.2.2.2.2.2.2.1, hv.2.2.2.2.2.2.2.1, hv.2.2.2.2.2.2.2.2.1, hv.2.2.2.2.2.2.2.2.2.1, hv.2.2.2.2.2.2.2.2.2.2.1, hv.2.2.2.2.2.2.2.2.2.2.2.1, hv.2.2.2.2.2.2.2.2.2.2.2.2.1, hv.2.2.2.2.2.2.2.2.2.2.2.2.2]
 rw [hres]
 clear hres
 have t107 : ((x.op.toNat : Int) == 107) = false := by rw [beq_eq_false_iff_ne]; omega
 have t114 : ((x.op.toNat : Int) == 114) = false := by rw [beq_eq_false_iff_ne]; omega
 have t43 : ((x.op.toNat : Int) == 43) = false := by rw [beq_eq_false_iff_ne]; omega
 have t45 : ((x.op.toNat : Int) == 45) = false := by rw [beq_eq_false_iff_ne]; omega
 have t42 : ((x.op.toNat : Int) == 42) = false := by rw [beq_eq_false_iff_ne]; omega
 have t47 : ((x.op.toNat : Int) == 47) = false := by rw [beq_eq_false_iff_ne]; omega
 have t60 : ((x.op.toNat : Int) == 60) = false := by rw [beq_eq_false_iff_ne]; omega
 have t61 : ((x.op.toNat : Int) == 61) = false := by rw [beq_eq_false_iff_ne]; omega
 have t101 : ((x.op.toNat : Int) == 101) = false := by rw [beq_eq_false_iff_ne]; omega
 have t122 : ((x.op.toNat : Int) == 122) = false := by rw [beq_eq_false_iff_ne]; omega
 have t110 : ((x.op.toNat : Int) == 110) = false := by rw [beq_eq_false_iff_ne]; omega
 have t120 : ((x.op.toNat : Int) == 120) = false := by rw [beq_eq_false_iff_ne]; omega
 have t103 : ((x.op.toNat : Int) == 103) = false := by rw [beq_eq_false_iff_ne]; omega
 have t99 : ((x.op.toNat : Int) == 99) = false := by rw [beq_eq_false_iff_ne]; omega
 clear hv
 go_enter Tryz.func136, Tryz.ntmps136
 go_wp2_with fail
 go_ret
 exact ⟨rfl, But.alloc _ _ _⟩
set_option maxHeartbeats 1600000 in
set_option maxRecDepth 100000 in
theorem push_any (bi : Nat) (im : Img) (nl : Nat) (x : Ins) (w : World) (hI : ImgAt w bi im) (hW : WfI im) (hx : WfX im.classes im.sigs.length nl x) (hdummy : True) :
  Calls Tryz.prog 136 #[.pointer (some ⟨bi, 0, none⟩), .agg #[.int .u8 x.op.toNat, .int .i64 x.a, .int .i64 x.b, .int .i64 x.pos]] w fun en w' => en = .returned (.string ⟨(pushT im.classes im.sigs x).toArray⟩) ∧ But (fun _ => False) w w' := by
 by_cases h1 : x.op.toNat = 107 ∨ x.op.toNat = 114 ∨ x.op.toNat = 43 ∨ x.op.toNat = 45 ∨ x.op.toNat = 42 ∨ x.op.toNat = 47 ∨ x.op.toNat = 60 ∨ x.op.toNat = 61 ∨ x.op.toNat = 101
 ·exact push_i bi im nl x w hI hW hx h1
 by_cases h2 : x.op.toNat = 122
 ·exact push_z bi im nl x w hI hW hx h2
 by_cases h3 : x.op.toNat = 110 ∨ x.op.toNat = 120
 ·exact push_nx bi im nl x w hI hW hx h3
 by_cases h4 : x.op.toNat = 103
 ·exact push_g bi im nl x w hI hW hx h4
 by_cases h5 : x.op.toNat = 99
 ·exact push_c bi im nl x w hI hW hx h5
 exact push_no bi im nl x w hI hW hx (by omega)
end Go.Proofs.YtpfkkmacakjmbaaGreatDoor
namespace Go.Proofs.YtpfkkmacakjmbaaGreatDoor
open Go Go.RowKit Sp
set_option linter.unusedSimpArgs false
set_option linter.unusedVariables false
attribute [local go_sem ↓] Go.wp_at_zero Go.wp_at_succ
/-- What 'Effect' answers. -/
def effV (R : Option (List UInt8 × List UInt8)) (st lo : List UInt8) : Value := match R with
 | some (s, l) => .tuple #[.agg #[.bool true, .string ⟨s.toArray⟩, .string ⟨l.toArray⟩], .bool true]
 | none => .tuple #[.agg #[.bool true, .string ⟨st.toArray⟩, .string ⟨lo.toArray⟩], .bool false]
theorem extract_take (l : List UInt8) (k : Nat) : (⟨l.toArray⟩ : ByteArray).extract 0 k = ⟨(l.take k).toArray⟩ := by
 apply ByteArray.ext
 simp [ByteArray.data_extract]
theorem extract_drop (l : List UInt8) (k : Nat) : (⟨l.toArray⟩ : ByteArray).extract k l.length = ⟨(l.drop k).toArray⟩ := by
 apply ByteArray.ext
 simp [ByteArray.data_extract]
 rw [List.take_of_length_le (by simp)]
theorem popsT_len (cs : List Cls) (gs : List Sig) (b : Bod) (x : Ins) : (popsT cs gs b x).length ≤ 2 := by
 unfold popsT
 repeat' split
 all_goals simp
theorem fitsT_len {cs : List Cls} {st wa : List UInt8} (h : fitsT cs st wa = true) : wa.length ≤ st.length := by
 unfold fitsT at h
 simp at h
 exact h.1
set_option maxHeartbeats 3200000 in
set_option maxRecDepth 100000 in
theorem eff_plain (bi : Nat) (im : Img) (bd : Bod) (ak : Option Addr) (n capk : Nat) (x : Ins) (st lo : List UInt8) (w : World) (hI : ImgAt w bi im) (hW : WfI im) (hbd : WfB im.classes im.sigs bd) (hx : WfX im.classes im.sigs.length bd.locals.length x) (hst : ∀ c ∈ st, okT im.classes.length c = true) (hsl : st.length ≤ 200) (hll : lo.length = bd.locals.length) (hv : x.op.toNat ≠ 115 ∧ x.op.toNat ≠ 100 ∧ x.op.toNat ≠ 101 ∧ x.op.toNat ≠ 120 ∧ x.op.toNat ≠ 108) :
  Calls Tryz.prog 84 #[.pointer (some ⟨bi, 0, none⟩), .agg #[.int .i64 bd.cls, .int .i64 bd.meth, .string ⟨bd.locals.toArray⟩, .slice ak n capk, .slice none 0 0], .agg #[.int .u8 x.op.toNat, .int .i64 x.a, .int .i64 x.b, .int .i64 x.pos], .agg #[.bool true, .string ⟨st.toArray⟩, .string ⟨lo.toArray⟩]] w fun en w' => en = .returned (effV (effT im.classes im.sigs bd x st lo) st lo) ∧ But (fun _ => False) w w' := by
 obtain ⟨R, hRR⟩ : ∃ R, effT im.classes im.sigs bd x st lo = R := ⟨_, rfl⟩
 rw [hRR]
 have HRR : Hid (effT im.classes im.sigs bd x st lo = R) := hRR
 clear hRR
 have hlo5 : lo.length ≤ 5 := by have := hbd.loc.1; omega
 have t115 : ((x.op.toNat : Int) == 115) = false := by rw [beq_eq_false_iff_ne]; omega
 have t100 : ((x.op.toNat : Int) == 100) = false := by rw [beq_eq_false_iff_ne]; omega
 have t101 : ((x.op.toNat : Int) == 101) = false := by rw [beq_eq_false_iff_ne]; omega
 have t120 : ((x.op.toNat : Int) == 120) = false := by rw [beq_eq_false_iff_ne]; omega
 have t108 : ((x.op.toNat : Int) == 108) = false := by rw [beq_eq_false_iff_ne]; omega
 have hstep : R = if fitsT im.classes st (popsT im.classes im.sigs bd x) = true then some (st.take (st.length - (popsT im.classes im.sigs bd x).length) ++ pushT im.classes im.sigs x, lo) else none := by rw [← HRR.out, effT, if_neg (by omega), if_neg (by omega)]
 have hPl := popsT_len im.classes im.sigs bd x
 have hUl := pushT_len im.classes im.sigs x
 have hpop := fun w (h : ImgAt w bi im) => pops_any bi im bd ak n capk x w h hW hbd hx trivial
 have hpush := fun w (h : ImgAt w bi im) => push_any bi im bd.locals.length x w h hW hx trivial
 generalize popsT im.classes im.sigs bd x = P at *
 generalize pushT im.classes im.sigs x = U at *
 have HST : Hid (R = if fitsT im.classes st P = true then some (st.take (st.length - P.length) ++ U, lo) else none) := hstep
 have HPOP := hid hpop
 have HPUSH := hid hpush
 clear hstep hv HRR hll hpop hpush
 go_enter Tryz.func84, Tryz.ntmps84
 go_wp2_with fail
 have hB0 : But (fun _ => False) w ((((w.alloc (.cells #[.int .i64 bd.cls, .int .i64 bd.meth, .string ⟨bd.locals.toArray⟩, .slice ak n capk, .slice none 0 0] 52)).alloc (.cells #[.int .u8 x.op.toNat, .int .i64 x.a, .int .i64 x.b, .int .i64 x.pos] 144)).alloc (.cells #[.bool true, .string ⟨st.toArray⟩, .string ⟨lo.toArray⟩] 91)).alloc (.cells #[.bool false, .string ⟨#[]⟩, .string ⟨#[]⟩] 91)) := (((But.alloc _ _ _).trans (But.alloc _ _ _)).trans (But.alloc _ _ _)).trans (But.alloc _ _ _)
 have hgR : ((((w.alloc (.cells #[.int .i64 bd.cls, .int .i64 bd.meth, .string ⟨bd.locals.toArray⟩, .slice ak n capk, .slice none 0 0] 52)).alloc (.cells #[.int .u8 x.op.toNat, .int .i64 x.a, .int .i64 x.b, .int .i64 x.pos] 144)).alloc (.cells #[.bool true, .string ⟨st.toArray⟩, .string ⟨lo.toArray⟩] 91)).alloc (.cells #[.bool false, .string ⟨#[]⟩, .string ⟨#[]⟩] 91)).heap[w.heap.size + 3]? = some (.cells #[.bool false, .string ⟨#[]⟩, .string ⟨#[]⟩] 91) := heap_alloc_at (by simp) _
 have hgS : ((((w.alloc (.cells #[.int .i64 bd.cls, .int .i64 bd.meth, .string ⟨bd.locals.toArray⟩, .slice ak n capk, .slice none 0 0] 52)).alloc (.cells #[.int .u8 x.op.toNat, .int .i64 x.a, .int .i64 x.b, .int .i64 x.pos] 144)).alloc (.cells #[.bool true, .string ⟨st.toArray⟩, .string ⟨lo.toArray⟩] 91)).alloc (.cells #[.bool false, .string ⟨#[]⟩, .string ⟨#[]⟩] 91)).heap[w.heap.size + 2]? = some (.cells #[.bool true, .string ⟨st.toArray⟩, .string ⟨lo.toArray⟩] 91) := ((But.alloc (fun _ => False) _ _).block _ (by simp) (fun h => h)).trans (heap_alloc_at (by simp) _)
 have hgI : ((((w.alloc (.cells #[.int .i64 bd.cls, .int .i64 bd.meth, .string ⟨bd.locals.toArray⟩, .slice ak n capk, .slice none 0 0] 52)).alloc (.cells #[.int .u8 x.op.toNat, .int .i64 x.a, .int .i64 x.b, .int .i64 x.pos] 144)).alloc (.cells #[.bool true, .string ⟨st.toArray⟩, .string ⟨lo.toArray⟩] 91)).alloc (.cells #[.bool false, .string ⟨#[]⟩, .string ⟨#[]⟩] 91)).heap[w.heap.size + 1]? = some (.cells #[.int .u8 x.op.toNat, .int .i64 x.a, .int .i64 x.b, .int .i64 x.pos] 144) := (((But.alloc (fun _ => False) _ _).trans (But.alloc (fun _ => False) _ _)).block _ (by simp) (fun h => h)).trans (heap_alloc_at (by simp) _)
 have hgB : ((((w.alloc (.cells #[.int .i64 bd.cls, .int .i64 bd.meth, .string ⟨bd.locals.toArray⟩, .slice ak n capk, .slice none 0 0] 52)).alloc (.cells #[.int .u8 x.op.toNat, .int .i64 x.a, .int .i64 x.b, .int .i64 x.pos] 144)).alloc (.cells #[.bool true, .string ⟨st.toArray⟩, .string ⟨lo.toArray⟩] 91)).alloc (.cells #[.bool false, .string ⟨#[]⟩, .string ⟨#[]⟩] 91)).heap[w.heap.size]? = some (.cells #[.int .i64 bd.cls, .int .i64 bd.meth, .string ⟨bd.locals.toArray⟩, .slice ak n capk, .slice none 0 0] 52) := ((((But.alloc (fun _ => False) _ _).trans (But.alloc (fun _ => False) _ _)).trans (But.alloc (fun _ => False) _ _)).block _ (by simp) (fun h => h)).trans (heap_alloc_new w _)
 generalize ((((w.alloc (.cells #[.int .i64 bd.cls, .int .i64 bd.meth, .string ⟨bd.locals.toArray⟩, .slice ak n capk, .slice none 0 0] 52)).alloc (.cells #[.int .u8 x.op.toNat, .int .i64 x.a, .int .i64 x.b, .int .i64 x.pos] 144)).alloc (.cells #[.bool true, .string ⟨st.toArray⟩, .string ⟨lo.toArray⟩] 91)).alloc (.cells #[.bool false, .string ⟨#[]⟩, .string ⟨#[]⟩] 91)) = W at *
 refine (HPOP.out _ (hI.but hB0)).mono ?_
 rintro en w1 ⟨rfl, hB1⟩
 replace hgR := (hB1.block _ (lt_of_block hgR) (fun h => h)).trans hgR
 replace hgS := (hB1.block _ (lt_of_block hgS) (fun h => h)).trans hgS
 replace hgI := (hB1.block _ (lt_of_block hgI) (fun h => h)).trans hgI
 replace hgB := (hB1.block _ (lt_of_block hgB) (fun h => h)).trans hgB
 have hBw1 := hB0.trans hB1
 have cS0 : w1.cell? ⟨w.heap.size + 2, 0, none⟩ = some (.bool true) := by rw [cell_of_row w1 _ 0 _ _ (0, 0) hgS]; rfl
 have cS1 : w1.cell? ⟨w.heap.size + 2, 1, none⟩ = some (.string ⟨st.toArray⟩) := by rw [cell_of_row w1 _ 1 _ _ (0, 0) hgS]; rfl
 have cS2 : w1.cell? ⟨w.heap.size + 2, 2, none⟩ = some (.string ⟨lo.toArray⟩) := by rw [cell_of_row w1 _ 2 _ _ (0, 0) hgS]; rfl
 go_wp2_with fail
 refine (fits_any bi im.classes st P _ (hI.but hBw1).cls hW.cls hW.nc hst (by omega) (by omega)).mono ?_
 rintro en w2 ⟨rfl, hB2⟩
 clear cS0 cS1 cS2
 replace hgR := (hB2.block _ (lt_of_block hgR) (fun h => h)).trans hgR
 replace hgS := (hB2.block _ (lt_of_block hgS) (fun h => h)).trans hgS
 replace hgI := (hB2.block _ (lt_of_block hgI) (fun h => h)).trans hgI
 replace hgB := (hB2.block _ (lt_of_block hgB) (fun h => h)).trans hgB
 have hBw2 := hBw1.trans hB2
 have cI0 : w2.cell? ⟨w.heap.size + 1, 0, none⟩ = some (.int .u8 x.op.toNat) := by rw [cell_of_row w2 _ 0 _ _ (0, 0) hgI]; rfl
 have cI1 : w2.cell? ⟨w.heap.size + 1, 1, none⟩ = some (.int .i64 x.a) := by rw [cell_of_row w2 _ 1 _ _ (0, 0) hgI]; rfl
 have cI2 : w2.cell? ⟨w.heap.size + 1, 2, none⟩ = some (.int .i64 x.b) := by rw [cell_of_row w2 _ 2 _ _ (0, 0) hgI]; rfl
 have cI3 : w2.cell? ⟨w.heap.size + 1, 3, none⟩ = some (.int .i64 x.pos) := by rw [cell_of_row w2 _ 3 _ _ (0, 0) hgI]; rfl
 have cS0 : w2.cell? ⟨w.heap.size + 2, 0, none⟩ = some (.bool true) := by rw [cell_of_row w2 _ 0 _ _ (0, 0) hgS]; rfl
 have cS1 : w2.cell? ⟨w.heap.size + 2, 1, none⟩ = some (.string ⟨st.toArray⟩) := by rw [cell_of_row w2 _ 1 _ _ (0, 0) hgS]; rfl
 have cS2 : w2.cell? ⟨w.heap.size + 2, 2, none⟩ = some (.string ⟨lo.toArray⟩) := by rw [cell_of_row w2 _ 2 _ _ (0, 0) hgS]; rfl
 have cR0 : w2.cell? ⟨w.heap.size + 3, 0, none⟩ = some (.bool false) := by rw [cell_of_row w2 _ 0 _ _ (0, 0) hgR]; rfl
 have fR0 : w2.frozen? ⟨w.heap.size + 3, 0, none⟩ = false := frozen_of_row w2 _ 0 _ _ hgR
 have cR1 : w2.cell? ⟨w.heap.size + 3, 1, none⟩ = some (.string ⟨#[]⟩) := by rw [cell_of_row w2 _ 1 _ _ (0, 0) hgR]; rfl
 have fR1 : w2.frozen? ⟨w.heap.size + 3, 1, none⟩ = false := frozen_of_row w2 _ 1 _ _ hgR
 have cR2 : w2.cell? ⟨w.heap.size + 3, 2, none⟩ = some (.string ⟨#[]⟩) := by rw [cell_of_row w2 _ 2 _ _ (0, 0) hgR]; rfl
 have fR2 : w2.frozen? ⟨w.heap.size + 3, 2, none⟩ = false := frozen_of_row w2 _ 2 _ _ hgR
 have hHP : Hid (∀ q, fitsT im.classes st P = q → R = if q = true then some (st.take (st.length - P.length) ++ U, lo) else none) := fun q hq => by rw [HST.out, hq]
 have hPL : fitsT im.classes st P = true → P.length ≤ st.length := fitsT_len
 cases hq : fitsT im.classes st P with
 | false =>
  have hres : R = none := by have := hHP.out _ hq; simpa using this
  subst hres
  clear hq hPL
  go_wp2_with fail
  refine bodyPost_ret (v := .tuple #[.agg #[.bool true, .string ⟨st.toArray⟩, .string ⟨lo.toArray⟩], .bool false]) (by simp [results, Tryz.results84, go_sem, cR0, cR1, cR2]) rfl ⟨rfl, ?_⟩
  exact ((hBw2.next (But.setB _ _ _ _) (fun k hk h => by omega)).next (But.setB _ _ _ _) (fun k hk h => by omega)).next (But.setB _ _ _ _) (fun k hk h => by omega)
 | true =>
  have hres : R = some (st.take (st.length - P.length) ++ U, lo) := by have := hHP.out _ hq; simpa using this
  have hPn := hPL hq
  subst hres
  clear hq hPL
  go_wp2_with fail
  refine (HPUSH.out _ (hI.but hBw2)).mono ?_
  rintro en w3 ⟨rfl, hB3⟩
  clear cI0 cI1 cI2 cI3 cS0 cS1 cS2 cR0 cR1 cR2 fR0 fR1 fR2
  replace hgR := (hB3.block _ (lt_of_block hgR) (fun h => h)).trans hgR
  replace hgS := (hB3.block _ (lt_of_block hgS) (fun h => h)).trans hgS
  replace hgI := (hB3.block _ (lt_of_block hgI) (fun h => h)).trans hgI
  replace hgB := (hB3.block _ (lt_of_block hgB) (fun h => h)).trans hgB
  have hBw3 := hBw2.trans hB3
  have cS0 : w3.cell? ⟨w.heap.size + 2, 0, none⟩ = some (.bool true) := by rw [cell_of_row w3 _ 0 _ _ (0, 0) hgS]; rfl
  have cS1 : w3.cell? ⟨w.heap.size + 2, 1, none⟩ = some (.string ⟨st.toArray⟩) := by rw [cell_of_row w3 _ 1 _ _ (0, 0) hgS]; rfl
  have cS2 : w3.cell? ⟨w.heap.size + 2, 2, none⟩ = some (.string ⟨lo.toArray⟩) := by rw [cell_of_row w3 _ 2 _ _ (0, 0) hgS]; rfl
  have cR0 : w3.cell? ⟨w.heap.size + 3, 0, none⟩ = some (.bool false) := by rw [cell_of_row w3 _ 0 _ _ (0, 0) hgR]; rfl
  have fR0 : w3.frozen? ⟨w.heap.size + 3, 0, none⟩ = false := frozen_of_row w3 _ 0 _ _ hgR
  have cR1 : w3.cell? ⟨w.heap.size + 3, 1, none⟩ = some (.string ⟨#[]⟩) := by rw [cell_of_row w3 _ 1 _ _ (0, 0) hgR]; rfl
  have fR1 : w3.frozen? ⟨w.heap.size + 3, 1, none⟩ = false := frozen_of_row w3 _ 1 _ _ hgR
  have cR2 : w3.cell? ⟨w.heap.size + 3, 2, none⟩ = some (.string ⟨#[]⟩) := by rw [cell_of_row w3 _ 2 _ _ (0, 0) hgR]; rfl
  have fR2 : w3.frozen? ⟨w.heap.size + 3, 2, none⟩ = false := frozen_of_row w3 _ 2 _ _ hgR
  have hPi : (P.length : Int) ≤ (st.length : Int) := by omega
  have hd0 : (0 : Int) ≤ (st.length : Int) - (P.length : Int) := by omega
  have hd1 : (st.length : Int) - (P.length : Int) ≤ (st.length : Int) := by omega
  have hwr := wrapI ((st.length : Int) - (P.length : Int)) (by omega) (by omega)
  have lS := lt_of_block hgS
  go_wp2_with fail
  have hS0 : But (fun _ => False) w3 w3.drew := But.drew _ _
  refine wpTx_begin (But (fun _ => False) w3) 12 (by kernel_rfl) ?_
  have fSA := hid (fun wS (h : (But (fun _ => False) w3) wS) => (And.intro ((h.cell (p := ⟨w.heap.size + 2, 1, none⟩) lS (fun h => h)).trans cS1) ((h.cell (p := ⟨w.heap.size + 2, 2, none⟩) lS (fun h => h)).trans cS2)))
  refine wpTx_take (v := ?vA0) rfl (by kernel_rfl) ?qA0 rfl hS0 ?yA0 ?rA0
  case yA0 => intro wS h; obtain ⟨q0, q1⟩ := fSA.out wS h; clear h; go_simp; try rfl
  case qA0 => exact fun _ _ _ h => h
  dsimp only [Act.put]
  try simp only [puts]
  refine wpTx_take (v := ?vA1) rfl (by kernel_rfl) ?qA1 rfl hS0 ?yA1 ?rA1
  case yA1 => intro wS h; obtain ⟨q0, q1⟩ := fSA.out wS h; clear h; go_simp; try rfl
  case qA1 => exact fun _ _ _ h => h
  dsimp only [Act.put]
  try simp only [puts]
  refine wpTx_take (v := ?vA2) rfl (by kernel_rfl) ?qA2 rfl hS0 ?yA2 ?rA2
  case yA2 => intro wS h; obtain ⟨q0, q1⟩ := fSA.out wS h; clear h; go_simp; try rfl
  case qA2 => exact fun _ _ _ h => h
  dsimp only [Act.put]
  try simp only [puts]
  refine wpTx_take (v := ?vA3) rfl (by kernel_rfl) ?qA3 rfl hS0 ?yA3 ?rA3
  case yA3 => intro wS h; obtain ⟨q0, q1⟩ := fSA.out wS h; clear h; go_simp; try rfl
  case qA3 => exact fun _ _ _ h => h
  dsimp only [Act.put]
  try simp only [puts]
  refine wpTx_take (v := ?vA4) rfl (by kernel_rfl) ?qA4 rfl hS0 ?yA4 ?rA4
  case yA4 => intro wS h; obtain ⟨q0, q1⟩ := fSA.out wS h; clear h; go_simp; try rfl
  case qA4 => exact fun _ _ _ h => h
  dsimp only [Act.put]
  try simp only [puts]
  refine wpTx_take (v := ?vA5) rfl (by kernel_rfl) ?qA5 rfl hS0 ?yA5 ?rA5
  case yA5 => intro wS h; obtain ⟨q0, q1⟩ := fSA.out wS h; clear h; go_simp; try rfl
  case qA5 => exact fun _ _ _ h => h
  dsimp only [Act.put]
  try simp only [puts]
  refine wpTx_take (v := ?vA6) rfl (by kernel_rfl) ?qA6 rfl hS0 ?yA6 ?rA6
  case yA6 => intro wS h; obtain ⟨q0, q1⟩ := fSA.out wS h; clear h; go_simp; try rfl
  case qA6 => exact fun _ _ _ h => h
  dsimp only [Act.put]
  try simp only [puts]
  try clear fSA
  have hext : (⟨st.toArray⟩ : ByteArray).extract 0 (st.length - P.length) = ⟨(st.take (st.length - P.length)).toArray⟩ := extract_take _ _
  have hsz : (⟨(st.take (st.length - P.length)).toArray⟩ : ByteArray).size + (⟨U.toArray⟩ : ByteArray).size ≤ 1000 := by show (st.take (st.length - P.length)).toArray.size + U.toArray.size ≤ 1000; simp; omega
  rw [hext]
  have hcat : ¬ 9223372036854775807 < st.length - P.length + U.length := by omega
  have fSA := hid (fun wS (h : (But (fun _ => False) w3) wS) => (And.intro ((h.cell (p := ⟨w.heap.size + 2, 1, none⟩) lS (fun h => h)).trans cS1) ((h.cell (p := ⟨w.heap.size + 2, 2, none⟩) lS (fun h => h)).trans cS2)))
  refine wpTx_take (v := ?vA7) rfl (by kernel_rfl) ?qA7 rfl hS0 ?yA7 ?rA7
  case yA7 => intro wS h; obtain ⟨q0, q1⟩ := fSA.out wS h; clear h; go_simp; try rfl
  case qA7 => exact fun _ _ _ h => h
  dsimp only [Act.put]
  try simp only [puts]
  refine wpTx_take (v := ?vA8) rfl (by kernel_rfl) ?qA8 rfl hS0 ?yA8 ?rA8
  case yA8 => intro wS h; obtain ⟨q0, q1⟩ := fSA.out wS h; clear h; go_simp; try rfl
  case qA8 => exact fun _ _ _ h => h
  dsimp only [Act.put]
  try simp only [puts]
  refine wpTx_take (v := ?vA9) rfl (by kernel_rfl) ?qA9 rfl hS0 ?yA9 ?rA9
  case yA9 => intro wS h; obtain ⟨q0, q1⟩ := fSA.out wS h; clear h; go_simp; try rfl
  case qA9 => exact fun _ _ _ h => h
  dsimp only [Act.put]
  try simp only [puts]
  refine wpTx_take (v := ?vA10) rfl (by kernel_rfl) ?qA10 rfl hS0 ?yA10 ?rA10
  case yA10 => intro wS h; obtain ⟨q0, q1⟩ := fSA.out wS h; clear h; go_simp; try rfl
  case qA10 => exact fun _ _ _ h => h
  dsimp only [Act.put]
  try simp only [puts]
  refine wpTx_take (v := ?vA11) rfl (by kernel_rfl) ?qA11 rfl hS0 ?yA11 ?rA11
  case yA11 => intro wS h; obtain ⟨q0, q1⟩ := fSA.out wS h; clear h; go_simp; try rfl
  case qA11 => exact fun _ _ _ h => h
  dsimp only [Act.put]
  try simp only [puts]
  try clear fSA
  clear hcat hsz hext hwr hd0 hd1 hPi
  refine wpTx_step (o := ?oA12) (rest := ?rsA12) ?hoA12 ?hrA12 ?stA12
  case hoA12 => rfl
  case hrA12 => kernel_rfl
  case' stA12 =>
  intro KS hKS
  go_simp
  refine hKS.out _ _ (fun h => absurd h (by decide)) ?_
  clear hKS KS
  refine wpTx_step (o := ?oA13) (rest := ?rsA13) ?hoA13 ?hrA13 ?stA13
  case hoA13 => rfl
  case hrA13 => kernel_rfl
  case' stA13 =>
  intro KS hKS
  go_simp
  refine hKS.out _ _ (fun h => absurd h (by decide)) ?_
  clear hKS KS
  refine wpTx_done rfl (by kernel_rfl) ?_
  go_wp2_with fail
  refine bodyPost_ret (v := .tuple #[.agg #[.bool true, .string ⟨(st.take (st.length - P.length) ++ U).toArray⟩, .string ⟨lo.toArray⟩], .bool true]) ?_ rfl ⟨rfl, ?_⟩
  ·rw [← bytes_append]
   simp [results, Tryz.results84, go_sem, cR0, cR1, cR2]
  ·exact (((hBw3.next (But.setB _ _ _ _) (fun k hk h => by omega)).next (But.setB _ _ _ _) (fun k hk h => by omega)).next (But.setB _ _ _ _) (fun k hk h => by omega)).trans (But.drew _ _)
end Go.Proofs.YtpfkkmacakjmbaaGreatDoor
