import Derived.Test.YtmfbojnnoonidaaGreatDoorP08
namespace Go.Proofs.YtmfbojnnoonidaaGreatDoor
open Go Go.RowKit Sp
set_option linter.unusedSimpArgs false
set_option linter.unusedVariables false
attribute [local go_sem ↓] Go.wp_at_zero Go.wp_at_succ

theorem extract1 (l : List UInt8) (k : Nat) (h : k < l.length) : (⟨l.toArray⟩ : ByteArray).extract k (k + 1) = ⟨#[l[k]]⟩ := by
  apply ByteArray.ext
  simp [ByteArray.data_extract]
  rw [List.take_one, List.head?_drop]
  simp [h]

set_option maxHeartbeats 1600000 in
set_option maxRecDepth 100000 in
theorem push_i (bi : Nat) (im : Img) (nl : Nat) (x : Ins) (w : World) (hI : ImgAt w bi im) (hW : WfI im) (hx : WfX im.classes im.sigs.length nl x) (hv : x.op.toNat = 107 ∨ x.op.toNat = 114 ∨ x.op.toNat = 43 ∨ x.op.toNat = 45 ∨ x.op.toNat = 42 ∨ x.op.toNat = 47 ∨ x.op.toNat = 60 ∨ x.op.toNat = 61 ∨ x.op.toNat = 101) :
    Calls Tryz.prog 129 #[.pointer (some ⟨bi, 0, none⟩), .agg #[.int .u8 x.op.toNat, .int .i64 x.a, .int .i64 x.b, .int .i64 x.pos]] w fun en w' => en = .returned (.string ⟨(pushT im.classes im.sigs x).toArray⟩) ∧ But (fun _ => False) w w' := by
  have hres : pushT im.classes im.sigs x = [105] := by
    rcases hv with hv | hv | hv | hv | hv | hv | hv | hv | hv <;> simp [pushT, hv, arith]
  rw [hres]
  clear hres
  rcases hv with hv | hv | hv | hv | hv | hv | hv | hv | hv
  · have t107 : ((x.op.toNat : Int) == 107) = true := by rw [beq_iff_eq]; omega
    clear hv
    go_enter Tryz.func129, Tryz.ntmps129
    go_wp2_with fail
    go_ret
    exact ⟨rfl, But.alloc _ _ _⟩
  · have t107 : ((x.op.toNat : Int) == 107) = false := by rw [beq_eq_false_iff_ne]; omega
    have t114 : ((x.op.toNat : Int) == 114) = true := by rw [beq_iff_eq]; omega
    clear hv
    go_enter Tryz.func129, Tryz.ntmps129
    go_wp2_with fail
    go_ret
    exact ⟨rfl, But.alloc _ _ _⟩
  · have t107 : ((x.op.toNat : Int) == 107) = false := by rw [beq_eq_false_iff_ne]; omega
    have t114 : ((x.op.toNat : Int) == 114) = false := by rw [beq_eq_false_iff_ne]; omega
    have t43 : ((x.op.toNat : Int) == 43) = true := by rw [beq_iff_eq]; omega
    clear hv
    go_enter Tryz.func129, Tryz.ntmps129
    go_wp2_with fail
    go_ret
    exact ⟨rfl, But.alloc _ _ _⟩
  · have t107 : ((x.op.toNat : Int) == 107) = false := by rw [beq_eq_false_iff_ne]; omega
    have t114 : ((x.op.toNat : Int) == 114) = false := by rw [beq_eq_false_iff_ne]; omega
    have t43 : ((x.op.toNat : Int) == 43) = false := by rw [beq_eq_false_iff_ne]; omega
    have t45 : ((x.op.toNat : Int) == 45) = true := by rw [beq_iff_eq]; omega
    clear hv
    go_enter Tryz.func129, Tryz.ntmps129
    go_wp2_with fail
    go_ret
    exact ⟨rfl, But.alloc _ _ _⟩
  · have t107 : ((x.op.toNat : Int) == 107) = false := by rw [beq_eq_false_iff_ne]; omega
    have t114 : ((x.op.toNat : Int) == 114) = false := by rw [beq_eq_false_iff_ne]; omega
    have t43 : ((x.op.toNat : Int) == 43) = false := by rw [beq_eq_false_iff_ne]; omega
    have t45 : ((x.op.toNat : Int) == 45) = false := by rw [beq_eq_false_iff_ne]; omega
    have t42 : ((x.op.toNat : Int) == 42) = true := by rw [beq_iff_eq]; omega
    clear hv
    go_enter Tryz.func129, Tryz.ntmps129
    go_wp2_with fail
    go_ret
    exact ⟨rfl, But.alloc _ _ _⟩
  · have t107 : ((x.op.toNat : Int) == 107) = false := by rw [beq_eq_false_iff_ne]; omega
    have t114 : ((x.op.toNat : Int) == 114) = false := by rw [beq_eq_false_iff_ne]; omega
    have t43 : ((x.op.toNat : Int) == 43) = false := by rw [beq_eq_false_iff_ne]; omega
    have t45 : ((x.op.toNat : Int) == 45) = false := by rw [beq_eq_false_iff_ne]; omega
    have t42 : ((x.op.toNat : Int) == 42) = false := by rw [beq_eq_false_iff_ne]; omega
    have t47 : ((x.op.toNat : Int) == 47) = true := by rw [beq_iff_eq]; omega
    clear hv
    go_enter Tryz.func129, Tryz.ntmps129
    go_wp2_with fail
    go_ret
    exact ⟨rfl, But.alloc _ _ _⟩
  · have t107 : ((x.op.toNat : Int) == 107) = false := by rw [beq_eq_false_iff_ne]; omega
    have t114 : ((x.op.toNat : Int) == 114) = false := by rw [beq_eq_false_iff_ne]; omega
    have t43 : ((x.op.toNat : Int) == 43) = false := by rw [beq_eq_false_iff_ne]; omega
    have t45 : ((x.op.toNat : Int) == 45) = false := by rw [beq_eq_false_iff_ne]; omega
    have t42 : ((x.op.toNat : Int) == 42) = false := by rw [beq_eq_false_iff_ne]; omega
    have t47 : ((x.op.toNat : Int) == 47) = false := by rw [beq_eq_false_iff_ne]; omega
    have t60 : ((x.op.toNat : Int) == 60) = true := by rw [beq_iff_eq]; omega
    clear hv
    go_enter Tryz.func129, Tryz.ntmps129
    go_wp2_with fail
    go_ret
    exact ⟨rfl, But.alloc _ _ _⟩
  · have t107 : ((x.op.toNat : Int) == 107) = false := by rw [beq_eq_false_iff_ne]; omega
    have t114 : ((x.op.toNat : Int) == 114) = false := by rw [beq_eq_false_iff_ne]; omega
    have t43 : ((x.op.toNat : Int) == 43) = false := by rw [beq_eq_false_iff_ne]; omega
    have t45 : ((x.op.toNat : Int) == 45) = false := by rw [beq_eq_false_iff_ne]; omega
    have t42 : ((x.op.toNat : Int) == 42) = false := by rw [beq_eq_false_iff_ne]; omega
    have t47 : ((x.op.toNat : Int) == 47) = false := by rw [beq_eq_false_iff_ne]; omega
    have t60 : ((x.op.toNat : Int) == 60) = false := by rw [beq_eq_false_iff_ne]; omega
    have t61 : ((x.op.toNat : Int) == 61) = true := by rw [beq_iff_eq]; omega
    clear hv
    go_enter Tryz.func129, Tryz.ntmps129
    go_wp2_with fail
    go_ret
    exact ⟨rfl, But.alloc _ _ _⟩
  · have t107 : ((x.op.toNat : Int) == 107) = false := by rw [beq_eq_false_iff_ne]; omega
    have t114 : ((x.op.toNat : Int) == 114) = false := by rw [beq_eq_false_iff_ne]; omega
    have t43 : ((x.op.toNat : Int) == 43) = false := by rw [beq_eq_false_iff_ne]; omega
    have t45 : ((x.op.toNat : Int) == 45) = false := by rw [beq_eq_false_iff_ne]; omega
    have t42 : ((x.op.toNat : Int) == 42) = false := by rw [beq_eq_false_iff_ne]; omega
    have t47 : ((x.op.toNat : Int) == 47) = false := by rw [beq_eq_false_iff_ne]; omega
    have t60 : ((x.op.toNat : Int) == 60) = false := by rw [beq_eq_false_iff_ne]; omega
    have t61 : ((x.op.toNat : Int) == 61) = false := by rw [beq_eq_false_iff_ne]; omega
    have t101 : ((x.op.toNat : Int) == 101) = true := by rw [beq_iff_eq]; omega
    clear hv
    go_enter Tryz.func129, Tryz.ntmps129
    go_wp2_with fail
    go_ret
    exact ⟨rfl, But.alloc _ _ _⟩

set_option maxHeartbeats 1600000 in
set_option maxRecDepth 100000 in
theorem push_z (bi : Nat) (im : Img) (nl : Nat) (x : Ins) (w : World) (hI : ImgAt w bi im) (hW : WfI im) (hx : WfX im.classes im.sigs.length nl x) (hv : x.op.toNat = 122) :
    Calls Tryz.prog 129 #[.pointer (some ⟨bi, 0, none⟩), .agg #[.int .u8 x.op.toNat, .int .i64 x.a, .int .i64 x.b, .int .i64 x.pos]] w fun en w' => en = .returned (.string ⟨(pushT im.classes im.sigs x).toArray⟩) ∧ But (fun _ => False) w w' := by
  have hres : pushT im.classes im.sigs x = [122] := by simp [pushT, hv, arith]
  rw [hres]
  clear hres
  have t107 : ((x.op.toNat : Int) == 107) = false := by rw [beq_eq_false_iff_ne]; omega
  have t114 : ((x.op.toNat : Int) == 114) = false := by rw [beq_eq_false_iff_ne]; omega
  have t43 : ((x.op.toNat : Int) == 43) = false := by rw [beq_eq_false_iff_ne]; omega
  have t45 : ((x.op.toNat : Int) == 45) = false := by rw [beq_eq_false_iff_ne]; omega
  have t42 : ((x.op.toNat : Int) == 42) = false := by rw [beq_eq_false_iff_ne]; omega
  have t47 : ((x.op.toNat : Int) == 47) = false := by rw [beq_eq_false_iff_ne]; omega
  have t60 : ((x.op.toNat : Int) == 60) = false := by rw [beq_eq_false_iff_ne]; omega
  have t61 : ((x.op.toNat : Int) == 61) = false := by rw [beq_eq_false_iff_ne]; omega
  have t101 : ((x.op.toNat : Int) == 101) = false := by rw [beq_eq_false_iff_ne]; omega
  have t122 : ((x.op.toNat : Int) == 122) = true := by rw [beq_iff_eq]; omega
  clear hv
  go_enter Tryz.func129, Tryz.ntmps129
  go_wp2_with fail
  go_ret
  exact ⟨rfl, But.alloc _ _ _⟩

set_option maxHeartbeats 1600000 in
set_option maxRecDepth 100000 in
theorem push_nx (bi : Nat) (im : Img) (nl : Nat) (x : Ins) (w : World) (hI : ImgAt w bi im) (hW : WfI im) (hx : WfX im.classes im.sigs.length nl x) (hv : x.op.toNat = 110 ∨ x.op.toNat = 120) :
    Calls Tryz.prog 129 #[.pointer (some ⟨bi, 0, none⟩), .agg #[.int .u8 x.op.toNat, .int .i64 x.a, .int .i64 x.b, .int .i64 x.pos]] w fun en w' => en = .returned (.string ⟨(pushT im.classes im.sigs x).toArray⟩) ∧ But (fun _ => False) w w' := by
  have hres : pushT im.classes im.sigs x = [clsT x.a] := by rcases hv with hv | hv <;> simp [pushT, hv, arith]
  rw [hres]
  clear hres
  have hxa : x.a < 4 := by have := hx.cls (by omega); have := hW.nc; omega
  have hxi : (x.a : Int) < 4 := by omega
  have hcv := conv1i (65 + (x.a : Int)) (clsT x.a) (clsT_nat hxa) (w.alloc (.cells #[.int .u8 x.op.toNat, .int .i64 x.a, .int .i64 x.b, .int .i64 x.pos] 163))
  rw [show (w.alloc (.cells #[.int .u8 x.op.toNat, .int .i64 x.a, .int .i64 x.b, .int .i64 x.pos] 163)).heap.size = w.heap.size + 1 from by simp] at hcv
  generalize clsT x.a = C at *
  rcases hv with hv | hv
  · have t107 : ((x.op.toNat : Int) == 107) = false := by rw [beq_eq_false_iff_ne]; omega
    have t114 : ((x.op.toNat : Int) == 114) = false := by rw [beq_eq_false_iff_ne]; omega
    have t43 : ((x.op.toNat : Int) == 43) = false := by rw [beq_eq_false_iff_ne]; omega
    have t45 : ((x.op.toNat : Int) == 45) = false := by rw [beq_eq_false_iff_ne]; omega
    have t42 : ((x.op.toNat : Int) == 42) = false := by rw [beq_eq_false_iff_ne]; omega
    have t47 : ((x.op.toNat : Int) == 47) = false := by rw [beq_eq_false_iff_ne]; omega
    have t60 : ((x.op.toNat : Int) == 60) = false := by rw [beq_eq_false_iff_ne]; omega
    have t61 : ((x.op.toNat : Int) == 61) = false := by rw [beq_eq_false_iff_ne]; omega
    have t101 : ((x.op.toNat : Int) == 101) = false := by rw [beq_eq_false_iff_ne]; omega
    have t122 : ((x.op.toNat : Int) == 122) = false := by rw [beq_eq_false_iff_ne]; omega
    have t110 : ((x.op.toNat : Int) == 110) = true := by rw [beq_iff_eq]; omega
    clear hv
    go_enter Tryz.func129, Tryz.ntmps129
    go_wp2_with fail
    go_ret
    exact ⟨rfl, (But.alloc _ _ _).trans (But.alloc _ _ _)⟩
  · have t107 : ((x.op.toNat : Int) == 107) = false := by rw [beq_eq_false_iff_ne]; omega
    have t114 : ((x.op.toNat : Int) == 114) = false := by rw [beq_eq_false_iff_ne]; omega
    have t43 : ((x.op.toNat : Int) == 43) = false := by rw [beq_eq_false_iff_ne]; omega
    have t45 : ((x.op.toNat : Int) == 45) = false := by rw [beq_eq_false_iff_ne]; omega
    have t42 : ((x.op.toNat : Int) == 42) = false := by rw [beq_eq_false_iff_ne]; omega
    have t47 : ((x.op.toNat : Int) == 47) = false := by rw [beq_eq_false_iff_ne]; omega
    have t60 : ((x.op.toNat : Int) == 60) = false := by rw [beq_eq_false_iff_ne]; omega
    have t61 : ((x.op.toNat : Int) == 61) = false := by rw [beq_eq_false_iff_ne]; omega
    have t101 : ((x.op.toNat : Int) == 101) = false := by rw [beq_eq_false_iff_ne]; omega
    have t122 : ((x.op.toNat : Int) == 122) = false := by rw [beq_eq_false_iff_ne]; omega
    have t110 : ((x.op.toNat : Int) == 110) = false := by rw [beq_eq_false_iff_ne]; omega
    have t120 : ((x.op.toNat : Int) == 120) = true := by rw [beq_iff_eq]; omega
    clear hv
    go_enter Tryz.func129, Tryz.ntmps129
    go_wp2_with fail
    go_ret
    exact ⟨rfl, (But.alloc _ _ _).trans (But.alloc _ _ _)⟩

set_option maxHeartbeats 1600000 in
set_option maxRecDepth 100000 in
theorem push_g (bi : Nat) (im : Img) (nl : Nat) (x : Ins) (w : World) (hI : ImgAt w bi im) (hW : WfI im) (hx : WfX im.classes im.sigs.length nl x) (hv : x.op.toNat = 103) :
    Calls Tryz.prog 129 #[.pointer (some ⟨bi, 0, none⟩), .agg #[.int .u8 x.op.toNat, .int .i64 x.a, .int .i64 x.b, .int .i64 x.pos]] w fun en w' => en = .returned (.string ⟨(pushT im.classes im.sigs x).toArray⟩) ∧ But (fun _ => False) w w' := by
  have hres : pushT im.classes im.sigs x = [fieldT im.classes x.a x.b] := by simp [pushT, hv, arith]
  rw [hres]
  clear hres
  generalize hEe : fieldT im.classes x.a x.b = E
  have HEE : Hid (fieldT im.classes x.a x.b = E) := hEe
  clear hEe
  have t107 : ((x.op.toNat : Int) == 107) = false := by rw [beq_eq_false_iff_ne]; omega
  have t114 : ((x.op.toNat : Int) == 114) = false := by rw [beq_eq_false_iff_ne]; omega
  have t43 : ((x.op.toNat : Int) == 43) = false := by rw [beq_eq_false_iff_ne]; omega
  have t45 : ((x.op.toNat : Int) == 45) = false := by rw [beq_eq_false_iff_ne]; omega
  have t42 : ((x.op.toNat : Int) == 42) = false := by rw [beq_eq_false_iff_ne]; omega
  have t47 : ((x.op.toNat : Int) == 47) = false := by rw [beq_eq_false_iff_ne]; omega
  have t60 : ((x.op.toNat : Int) == 60) = false := by rw [beq_eq_false_iff_ne]; omega
  have t61 : ((x.op.toNat : Int) == 61) = false := by rw [beq_eq_false_iff_ne]; omega
  have t101 : ((x.op.toNat : Int) == 101) = false := by rw [beq_eq_false_iff_ne]; omega
  have t122 : ((x.op.toNat : Int) == 122) = false := by rw [beq_eq_false_iff_ne]; omega
  have t110 : ((x.op.toNat : Int) == 110) = false := by rw [beq_eq_false_iff_ne]; omega
  have t120 : ((x.op.toNat : Int) == 120) = false := by rw [beq_eq_false_iff_ne]; omega
  have t103 : ((x.op.toNat : Int) == 103) = true := by rw [beq_iff_eq]; omega
  have hxa : x.a < im.classes.length := hx.cls (by omega)
  have hxb := hx.fld (by omega)
  have hnc := hW.nc
  have hnum := hx.num
  clear hv
  go_enter Tryz.func129, Tryz.ntmps129
  go_wp2_with fail
  have hB0 : But (fun _ => False) w (w.alloc (.cells #[.int .u8 x.op.toNat, .int .i64 x.a, .int .i64 x.b, .int .i64 x.pos] 163)) := But.alloc _ _ _
  have hgI : (w.alloc (.cells #[.int .u8 x.op.toNat, .int .i64 x.a, .int .i64 x.b, .int .i64 x.pos] 163)).heap[w.heap.size]? = some (.cells #[.int .u8 x.op.toNat, .int .i64 x.a, .int .i64 x.b, .int .i64 x.pos] 163) := heap_alloc_new _ _
  generalize (w.alloc (.cells #[.int .u8 x.op.toNat, .int .i64 x.a, .int .i64 x.b, .int .i64 x.pos] 163)) = W at *
  have i1 : W.cell? ⟨w.heap.size, 1, none⟩ = some (.int .i64 x.a) := by rw [cell_of_row W _ 1 _ _ (0, 0) hgI]; rfl
  have i2 : W.cell? ⟨w.heap.size, 2, none⟩ = some (.int .i64 x.b) := by rw [cell_of_row W _ 2 _ _ (0, 0) hgI]; rfl
  have lI := lt_of_block hgI
  have hIW := hI.but hB0
  obtain ⟨g, m, cap, fl, d0, hm, hc, hjl, hfe, lbi, lg⟩ := hIW.cls.flds hxa hxb
  have hjl2 : (x.b : Int) < (fl.length : Int) := by omega
  have hjl3 : (x.b : Int) + 1 ≤ (fl.length : Int) := by omega
  have hwr := wrapI ((x.b : Int) + 1) (by omega) (by omega)
  have hle : (x.b : Int) ≤ (x.b : Int) + 1 := by omega
  have hle0 : (0 : Int) ≤ (x.b : Int) + 1 := by omega
  have HFE : Hid (fl.getD x.b 0 = fieldT im.classes x.a x.b) := hfe
  clear hfe
  have hS0 : But (fun _ => False) W W.drew := But.drew _ _
  refine wpTx_begin (But (fun _ => False) W) 15 (by kernel_rfl) ?_
  have fSA := hid (fun wS (h : (But (fun _ => False) W) wS) => (And.intro ((h.cell (p := ⟨w.heap.size, 1, none⟩) lI (fun h => h)).trans i1) (And.intro ((h.cell (p := ⟨w.heap.size, 2, none⟩) lI (fun h => h)).trans i2) (And.intro ((h.cell (p := ⟨bi, 0, none⟩) lbi (fun h => h)).trans d0) ((h.cell (p := ⟨g, x.a * 2 + 1, none⟩) lg (fun h => h)).trans hc)))))
  refine wpTx_take (v := ?vA0) rfl (by kernel_rfl) ?qA0 rfl hS0 ?yA0 ?rA0
  case yA0 => intro wS h; obtain ⟨q0, q1, q2, q3⟩ := fSA.out wS h; clear h; go_simp; try rfl
  case qA0 => exact fun _ _ _ h => h
  dsimp only [Act.put]
  try simp only [puts]
  refine wpTx_take (v := ?vA1) rfl (by kernel_rfl) ?qA1 rfl hS0 ?yA1 ?rA1
  case yA1 => intro wS h; obtain ⟨q0, q1, q2, q3⟩ := fSA.out wS h; clear h; go_simp; try rfl
  case qA1 => exact fun _ _ _ h => h
  dsimp only [Act.put]
  try simp only [puts]
  refine wpTx_take (v := ?vA2) rfl (by kernel_rfl) ?qA2 rfl hS0 ?yA2 ?rA2
  case yA2 => intro wS h; obtain ⟨q0, q1, q2, q3⟩ := fSA.out wS h; clear h; go_simp; try rfl
  case qA2 => exact fun _ _ _ h => h
  dsimp only [Act.put]
  try simp only [puts]
  refine wpTx_take (v := ?vA3) rfl (by kernel_rfl) ?qA3 rfl hS0 ?yA3 ?rA3
  case yA3 => intro wS h; obtain ⟨q0, q1, q2, q3⟩ := fSA.out wS h; clear h; go_simp; try rfl
  case qA3 => exact fun _ _ _ h => h
  dsimp only [Act.put]
  try simp only [puts]
  refine wpTx_take (v := ?vA4) rfl (by kernel_rfl) ?qA4 rfl hS0 ?yA4 ?rA4
  case yA4 => intro wS h; obtain ⟨q0, q1, q2, q3⟩ := fSA.out wS h; clear h; go_simp; try rfl
  case qA4 => exact fun _ _ _ h => h
  dsimp only [Act.put]
  try simp only [puts]
  refine wpTx_take (v := ?vA5) rfl (by kernel_rfl) ?qA5 rfl hS0 ?yA5 ?rA5
  case yA5 => intro wS h; obtain ⟨q0, q1, q2, q3⟩ := fSA.out wS h; clear h; go_simp; try rfl
  case qA5 => exact fun _ _ _ h => h
  dsimp only [Act.put]
  try simp only [puts]
  refine wpTx_take (v := ?vA6) rfl (by kernel_rfl) ?qA6 rfl hS0 ?yA6 ?rA6
  case yA6 => intro wS h; obtain ⟨q0, q1, q2, q3⟩ := fSA.out wS h; clear h; go_simp; try rfl
  case qA6 => exact fun _ _ _ h => h
  dsimp only [Act.put]
  try simp only [puts]
  refine wpTx_take (v := ?vA7) rfl (by kernel_rfl) ?qA7 rfl hS0 ?yA7 ?rA7
  case yA7 => intro wS h; obtain ⟨q0, q1, q2, q3⟩ := fSA.out wS h; clear h; go_simp; try rfl
  case qA7 => exact fun _ _ _ h => h
  dsimp only [Act.put]
  try simp only [puts]
  refine wpTx_take (v := ?vA8) rfl (by kernel_rfl) ?qA8 rfl hS0 ?yA8 ?rA8
  case yA8 => intro wS h; obtain ⟨q0, q1, q2, q3⟩ := fSA.out wS h; clear h; go_simp; try rfl
  case qA8 => exact fun _ _ _ h => h
  dsimp only [Act.put]
  try simp only [puts]
  refine wpTx_take (v := ?vA9) rfl (by kernel_rfl) ?qA9 rfl hS0 ?yA9 ?rA9
  case yA9 => intro wS h; obtain ⟨q0, q1, q2, q3⟩ := fSA.out wS h; clear h; go_simp; try rfl
  case qA9 => exact fun _ _ _ h => h
  dsimp only [Act.put]
  try simp only [puts]
  refine wpTx_take (v := ?vA10) rfl (by kernel_rfl) ?qA10 rfl hS0 ?yA10 ?rA10
  case yA10 => intro wS h; obtain ⟨q0, q1, q2, q3⟩ := fSA.out wS h; clear h; go_simp; try rfl
  case qA10 => exact fun _ _ _ h => h
  dsimp only [Act.put]
  try simp only [puts]
  refine wpTx_take (v := ?vA11) rfl (by kernel_rfl) ?qA11 rfl hS0 ?yA11 ?rA11
  case yA11 => intro wS h; obtain ⟨q0, q1, q2, q3⟩ := fSA.out wS h; clear h; go_simp; try rfl
  case qA11 => exact fun _ _ _ h => h
  dsimp only [Act.put]
  try simp only [puts]
  refine wpTx_take (v := ?vA12) rfl (by kernel_rfl) ?qA12 rfl hS0 ?yA12 ?rA12
  case yA12 => intro wS h; obtain ⟨q0, q1, q2, q3⟩ := fSA.out wS h; clear h; go_simp; try rfl
  case qA12 => exact fun _ _ _ h => h
  dsimp only [Act.put]
  try simp only [puts]
  refine wpTx_take (v := ?vA13) rfl (by kernel_rfl) ?qA13 rfl hS0 ?yA13 ?rA13
  case yA13 => intro wS h; obtain ⟨q0, q1, q2, q3⟩ := fSA.out wS h; clear h; go_simp; try rfl
  case qA13 => exact fun _ _ _ h => h
  dsimp only [Act.put]
  try simp only [puts]
  refine wpTx_take (v := ?vA14) rfl (by kernel_rfl) ?qA14 rfl hS0 ?yA14 ?rA14
  case yA14 => intro wS h; obtain ⟨q0, q1, q2, q3⟩ := fSA.out wS h; clear h; go_simp; try rfl
  case qA14 => exact fun _ _ _ h => h
  dsimp only [Act.put]
  try simp only [puts]
  try clear fSA
  clear hwr hle hle0
  have hex : (⟨fl.toArray⟩ : ByteArray).extract x.b (x.b + 1) = ⟨#[E]⟩ := by rw [extract1 fl x.b hjl, ← getD_lt fl _ hjl, HFE.out, HEE.out]
  have HEX : Hid ((⟨fl.toArray⟩ : ByteArray).extract x.b (x.b + 1) = ⟨#[E]⟩) := hex
  clear hex
  refine wpTx_step (o := ?oA15) (rest := ?rsA15) ?hoA15 ?hrA15 ?stA15
  case hoA15 => rfl
  case hrA15 => kernel_rfl
  case' stA15 =>
  intro KS hKS
  go_simp
  refine hKS.out _ _ (fun h => absurd h (by decide)) ?_
  clear hKS KS
  refine wpTx_done rfl (by kernel_rfl) ?_
  rw [HEX.out]
  go_wp2_with fail
  go_ret
  exact ⟨rfl, hB0.trans (But.drew _ _)⟩

set_option maxHeartbeats 1600000 in
set_option maxRecDepth 100000 in
theorem push_c (bi : Nat) (im : Img) (nl : Nat) (x : Ins) (w : World) (hI : ImgAt w bi im) (hW : WfI im) (hx : WfX im.classes im.sigs.length nl x) (hv : x.op.toNat = 99) :
    Calls Tryz.prog 129 #[.pointer (some ⟨bi, 0, none⟩), .agg #[.int .u8 x.op.toNat, .int .i64 x.a, .int .i64 x.b, .int .i64 x.pos]] w fun en w' => en = .returned (.string ⟨(pushT im.classes im.sigs x).toArray⟩) ∧ But (fun _ => False) w w' := by
  have hres : pushT im.classes im.sigs x = [retT im.sigs x.b] := by simp [pushT, hv, arith]
  rw [hres]
  clear hres
  generalize hEe : retT im.sigs x.b = E
  have HEE : Hid (retT im.sigs x.b = E) := hEe
  clear hEe
  have t107 : ((x.op.toNat : Int) == 107) = false := by rw [beq_eq_false_iff_ne]; omega
  have t114 : ((x.op.toNat : Int) == 114) = false := by rw [beq_eq_false_iff_ne]; omega
  have t43 : ((x.op.toNat : Int) == 43) = false := by rw [beq_eq_false_iff_ne]; omega
  have t45 : ((x.op.toNat : Int) == 45) = false := by rw [beq_eq_false_iff_ne]; omega
  have t42 : ((x.op.toNat : Int) == 42) = false := by rw [beq_eq_false_iff_ne]; omega
  have t47 : ((x.op.toNat : Int) == 47) = false := by rw [beq_eq_false_iff_ne]; omega
  have t60 : ((x.op.toNat : Int) == 60) = false := by rw [beq_eq_false_iff_ne]; omega
  have t61 : ((x.op.toNat : Int) == 61) = false := by rw [beq_eq_false_iff_ne]; omega
  have t101 : ((x.op.toNat : Int) == 101) = false := by rw [beq_eq_false_iff_ne]; omega
  have t122 : ((x.op.toNat : Int) == 122) = false := by rw [beq_eq_false_iff_ne]; omega
  have t110 : ((x.op.toNat : Int) == 110) = false := by rw [beq_eq_false_iff_ne]; omega
  have t120 : ((x.op.toNat : Int) == 120) = false := by rw [beq_eq_false_iff_ne]; omega
  have t103 : ((x.op.toNat : Int) == 103) = false := by rw [beq_eq_false_iff_ne]; omega
  have t99 : ((x.op.toNat : Int) == 99) = true := by rw [beq_iff_eq]; omega
  have hxb := hx.sig (by omega)
  clear hv
  go_enter Tryz.func129, Tryz.ntmps129
  go_wp2_with fail
  have hB0 : But (fun _ => False) w (w.alloc (.cells #[.int .u8 x.op.toNat, .int .i64 x.a, .int .i64 x.b, .int .i64 x.pos] 163)) := But.alloc _ _ _
  have hgI : (w.alloc (.cells #[.int .u8 x.op.toNat, .int .i64 x.a, .int .i64 x.b, .int .i64 x.pos] 163)).heap[w.heap.size]? = some (.cells #[.int .u8 x.op.toNat, .int .i64 x.a, .int .i64 x.b, .int .i64 x.pos] 163) := heap_alloc_new _ _
  generalize (w.alloc (.cells #[.int .u8 x.op.toNat, .int .i64 x.a, .int .i64 x.b, .int .i64 x.pos] 163)) = W at *
  have i1 : W.cell? ⟨w.heap.size, 1, none⟩ = some (.int .i64 x.a) := by rw [cell_of_row W _ 1 _ _ (0, 0) hgI]; rfl
  have i2 : W.cell? ⟨w.heap.size, 2, none⟩ = some (.int .i64 x.b) := by rw [cell_of_row W _ 2 _ _ (0, 0) hgI]; rfl
  have lI := lt_of_block hgI
  have hIW := hI.but hB0
  obtain ⟨g, m, cap, d1, hm, hc, hc2, lbi, lg⟩ := hIW.sig.at hxb
  rw [HEE.out] at hc2
  have hS0 : But (fun _ => False) W W.drew := But.drew _ _
  refine wpTx_begin (But (fun _ => False) W) 11 (by kernel_rfl) ?_
  have fSA := hid (fun wS (h : (But (fun _ => False) W) wS) => (And.intro ((h.cell (p := ⟨w.heap.size, 2, none⟩) lI (fun h => h)).trans i2) (And.intro ((h.cell (p := ⟨bi, 1, none⟩) lbi (fun h => h)).trans d1) ((h.cell (p := ⟨g, x.b * 2 + 1, none⟩) lg (fun h => h)).trans hc2))))
  refine wpTx_take (v := ?vA0) rfl (by kernel_rfl) ?qA0 rfl hS0 ?yA0 ?rA0
  case yA0 => intro wS h; obtain ⟨q0, q1, q2⟩ := fSA.out wS h; clear h; go_simp; try rfl
  case qA0 => exact fun _ _ _ h => h
  dsimp only [Act.put]
  try simp only [puts]
  refine wpTx_take (v := ?vA1) rfl (by kernel_rfl) ?qA1 rfl hS0 ?yA1 ?rA1
  case yA1 => intro wS h; obtain ⟨q0, q1, q2⟩ := fSA.out wS h; clear h; go_simp; try rfl
  case qA1 => exact fun _ _ _ h => h
  dsimp only [Act.put]
  try simp only [puts]
  refine wpTx_take (v := ?vA2) rfl (by kernel_rfl) ?qA2 rfl hS0 ?yA2 ?rA2
  case yA2 => intro wS h; obtain ⟨q0, q1, q2⟩ := fSA.out wS h; clear h; go_simp; try rfl
  case qA2 => exact fun _ _ _ h => h
  dsimp only [Act.put]
  try simp only [puts]
  refine wpTx_take (v := ?vA3) rfl (by kernel_rfl) ?qA3 rfl hS0 ?yA3 ?rA3
  case yA3 => intro wS h; obtain ⟨q0, q1, q2⟩ := fSA.out wS h; clear h; go_simp; try rfl
  case qA3 => exact fun _ _ _ h => h
  dsimp only [Act.put]
  try simp only [puts]
  refine wpTx_take (v := ?vA4) rfl (by kernel_rfl) ?qA4 rfl hS0 ?yA4 ?rA4
  case yA4 => intro wS h; obtain ⟨q0, q1, q2⟩ := fSA.out wS h; clear h; go_simp; try rfl
  case qA4 => exact fun _ _ _ h => h
  dsimp only [Act.put]
  try simp only [puts]
  refine wpTx_take (v := ?vA5) rfl (by kernel_rfl) ?qA5 rfl hS0 ?yA5 ?rA5
  case yA5 => intro wS h; obtain ⟨q0, q1, q2⟩ := fSA.out wS h; clear h; go_simp; try rfl
  case qA5 => exact fun _ _ _ h => h
  dsimp only [Act.put]
  try simp only [puts]
  refine wpTx_take (v := ?vA6) rfl (by kernel_rfl) ?qA6 rfl hS0 ?yA6 ?rA6
  case yA6 => intro wS h; obtain ⟨q0, q1, q2⟩ := fSA.out wS h; clear h; go_simp; try rfl
  case qA6 => exact fun _ _ _ h => h
  dsimp only [Act.put]
  try simp only [puts]
  refine wpTx_take (v := ?vA7) rfl (by kernel_rfl) ?qA7 rfl hS0 ?yA7 ?rA7
  case yA7 => intro wS h; obtain ⟨q0, q1, q2⟩ := fSA.out wS h; clear h; go_simp; try rfl
  case qA7 => exact fun _ _ _ h => h
  dsimp only [Act.put]
  try simp only [puts]
  refine wpTx_take (v := ?vA8) rfl (by kernel_rfl) ?qA8 rfl hS0 ?yA8 ?rA8
  case yA8 => intro wS h; obtain ⟨q0, q1, q2⟩ := fSA.out wS h; clear h; go_simp; try rfl
  case qA8 => exact fun _ _ _ h => h
  dsimp only [Act.put]
  try simp only [puts]
  try clear fSA
  refine wpTx_step (o := ?oA9) (rest := ?rsA9) ?hoA9 ?hrA9 ?stA9
  case hoA9 => rfl
  case hrA9 => kernel_rfl
  case' stA9 =>
  intro KS hKS
  go_simp
  refine hKS.out _ _ (fun _ => (But.alloc _ _ _).trans (But.drew _ _)) ?_
  clear hKS KS
  have hcv := conv1d (E.toNat : Int) E rfl
  refine wpTx_step (o := ?oA10) (rest := ?rsA10) ?hoA10 ?hrA10 ?stA10
  case hoA10 => rfl
  case hrA10 => kernel_rfl
  case' stA10 =>
  intro KS hKS
  go_simp
  refine hKS.out _ _ (fun _ => (But.alloc _ _ _).trans (But.drew _ _)) ?_
  clear hKS KS
  refine wpTx_step (o := ?oA11) (rest := ?rsA11) ?hoA11 ?hrA11 ?stA11
  case hoA11 => rfl
  case hrA11 => kernel_rfl
  case' stA11 =>
  intro KS hKS
  go_simp
  refine hKS.out _ _ (fun h => absurd h (by decide)) ?_
  clear hKS KS
  refine wpTx_done rfl (by kernel_rfl) ?_
  go_wp2_with fail
  go_ret
  exact ⟨rfl, hB0.trans ((But.alloc _ _ _).trans (But.drew _ _))⟩

set_option maxHeartbeats 1600000 in
set_option maxRecDepth 100000 in
theorem push_no (bi : Nat) (im : Img) (nl : Nat) (x : Ins) (w : World) (hI : ImgAt w bi im) (hW : WfI im) (hx : WfX im.classes im.sigs.length nl x) (hv : x.op.toNat ≠ 107 ∧ x.op.toNat ≠ 114 ∧ x.op.toNat ≠ 43 ∧ x.op.toNat ≠ 45 ∧ x.op.toNat ≠ 42 ∧ x.op.toNat ≠ 47 ∧ x.op.toNat ≠ 60 ∧ x.op.toNat ≠ 61 ∧ x.op.toNat ≠ 101 ∧ x.op.toNat ≠ 122 ∧ x.op.toNat ≠ 110 ∧ x.op.toNat ≠ 120 ∧ x.op.toNat ≠ 103 ∧ x.op.toNat ≠ 99) :
    Calls Tryz.prog 129 #[.pointer (some ⟨bi, 0, none⟩), .agg #[.int .u8 x.op.toNat, .int .i64 x.a, .int .i64 x.b, .int .i64 x.pos]] w fun en w' => en = .returned (.string ⟨(pushT im.classes im.sigs x).toArray⟩) ∧ But (fun _ => False) w w' := by
  have hres : pushT im.classes im.sigs x = [] := by simp [pushT, arith, hv.1, hv.2.1, hv.2.2.1, hv.2.2.2.1, hv.2.2.2.2.1, hv.2.2.2.2.2.1, hv.2.2.2.2.2.2.1, hv.2.2.2.2.2.2.2.1, hv.2.2.2.2.2.2.2.2.1, hv.2.2.2.2.2.2.2.2.2.1, hv.2.2.2.2.2.2.2.2.2.2.1, hv.2.2.2.2.2.2.2.2.2.2.2.1, hv.2.2.2.2.2.2.2.2.2.2.2.2.1, hv.2.2.2.2.2.2.2.2.2.2.2.2.2]
  rw [hres]
  clear hres
  have t107 : ((x.op.toNat : Int) == 107) = false := by rw [beq_eq_false_iff_ne]; omega
  have t114 : ((x.op.toNat : Int) == 114) = false := by rw [beq_eq_false_iff_ne]; omega
  have t43 : ((x.op.toNat : Int) == 43) = false := by rw [beq_eq_false_iff_ne]; omega
  have t45 : ((x.op.toNat : Int) == 45) = false := by rw [beq_eq_false_iff_ne]; omega
  have t42 : ((x.op.toNat : Int) == 42) = false := by rw [beq_eq_false_iff_ne]; omega
  have t47 : ((x.op.toNat : Int) == 47) = false := by rw [beq_eq_false_iff_ne]; omega
  have t60 : ((x.op.toNat : Int) == 60) = false := by rw [beq_eq_false_iff_ne]; omega
  have t61 : ((x.op.toNat : Int) == 61) = false := by rw [beq_eq_false_iff_ne]; omega
  have t101 : ((x.op.toNat : Int) == 101) = false := by rw [beq_eq_false_iff_ne]; omega
  have t122 : ((x.op.toNat : Int) == 122) = false := by rw [beq_eq_false_iff_ne]; omega
  have t110 : ((x.op.toNat : Int) == 110) = false := by rw [beq_eq_false_iff_ne]; omega
  have t120 : ((x.op.toNat : Int) == 120) = false := by rw [beq_eq_false_iff_ne]; omega
  have t103 : ((x.op.toNat : Int) == 103) = false := by rw [beq_eq_false_iff_ne]; omega
  have t99 : ((x.op.toNat : Int) == 99) = false := by rw [beq_eq_false_iff_ne]; omega
  clear hv
  go_enter Tryz.func129, Tryz.ntmps129
  go_wp2_with fail
  go_ret
  exact ⟨rfl, But.alloc _ _ _⟩

set_option maxHeartbeats 1600000 in
set_option maxRecDepth 100000 in
theorem push_any (bi : Nat) (im : Img) (nl : Nat) (x : Ins) (w : World) (hI : ImgAt w bi im) (hW : WfI im) (hx : WfX im.classes im.sigs.length nl x) (hdummy : True) :
    Calls Tryz.prog 129 #[.pointer (some ⟨bi, 0, none⟩), .agg #[.int .u8 x.op.toNat, .int .i64 x.a, .int .i64 x.b, .int .i64 x.pos]] w fun en w' => en = .returned (.string ⟨(pushT im.classes im.sigs x).toArray⟩) ∧ But (fun _ => False) w w' := by
  by_cases h1 : x.op.toNat = 107 ∨ x.op.toNat = 114 ∨ x.op.toNat = 43 ∨ x.op.toNat = 45 ∨ x.op.toNat = 42 ∨ x.op.toNat = 47 ∨ x.op.toNat = 60 ∨ x.op.toNat = 61 ∨ x.op.toNat = 101
  · exact push_i bi im nl x w hI hW hx h1
  by_cases h2 : x.op.toNat = 122
  · exact push_z bi im nl x w hI hW hx h2
  by_cases h3 : x.op.toNat = 110 ∨ x.op.toNat = 120
  · exact push_nx bi im nl x w hI hW hx h3
  by_cases h4 : x.op.toNat = 103
  · exact push_g bi im nl x w hI hW hx h4
  by_cases h5 : x.op.toNat = 99
  · exact push_c bi im nl x w hI hW hx h5
  exact push_no bi im nl x w hI hW hx (by omega)
end Go.Proofs.YtmfbojnnoonidaaGreatDoor
