import Derived.Test.YtmfbojnnoonidaaGreatDoorP25
/- The program's reading of an instruction: the walk. Laid by wip/mk/bsf.py. -/
namespace Go.Proofs.YtmfbojnnoonidaaGreatDoor
open Go Go.RowKit Sp
set_option linter.unusedSimpArgs false
set_option linter.unusedVariables false
attribute [local go_sem ↓] Go.wp_at_zero Go.wp_at_succ

section
variable (b base : Nat) (s : ByteArray) (i : Nat) (SC : List Cls) (a0 a1 : Option Addr) (ng nl cap0 cap1 : Nat) (v2 : Value) (w : World)
set_option maxHeartbeats 3200000 in
set_option maxRecDepth 100000 in
theorem xins_f103 (hlt : i < s.size) (hpc : pk s i = 103) (hwf : WfC SC) (hnc : SC.length ≤ 4) (hng : ng ≤ 3) (hnl : nl ≤ 10) (hs : s.size ≤ 2000)
    (hR : XrB w b s i false (.slice a0 SC.length cap0) (.slice a1 ng cap1) v2) (hC : TcV w base (.slice a0 SC.length cap0) (SC.map toX)) (hb : b < base) :
    Calls Tryz.prog 112 #[.pointer (some ⟨b, 0, none⟩), .int .i64 nl] w fun en w' => But (· = b) w w' ∧ ∃ x j bad', en = .returned (itV x) ∧ XrB w' b s j bad' (.slice a0 SC.length cap0) (.slice a1 ng cap1) v2 ∧ InsR s SC ng nl i false x j bad' := by
  have hbw := hR.lt
  have p3 := hR.c3
  have HC := hid (fun (w' : World) (h : But (· = b) w w') (hr : w'.cell? ⟨b, 0, none⟩ = some (.slice a0 SC.length cap0)) => (hC.but h (fun g e cur _ _ hg he => by omega)).tx hr (Nat.lt_of_lt_of_le hbw h.size))
  have HNC := hid hnc
  have HWF0 := hid hwf
  obtain ⟨nc, hncc⟩ : ∃ nc, SC.length = nc := ⟨_, rfl⟩
  rw [hncc] at hR HC hnc
  have HNN := hid hncc
  simp only [hncc]
  clear hncc hC hwf
  have hB0 : But (· = b) w ((w.alloc (.cells #[.int .i64 0, .int .u8 0, .int .u8 0, .int .i64 0] 150)).alloc (.cells #[.int .i64 i, .int .u8 0, .int .u8 45, .int .i64 0] 150)) := (But.alloc _ _ _).trans (But.alloc _ _ _)
  have hR0 := hR.but ((But.alloc (fun _ => False) w (.cells #[.int .i64 0, .int .u8 0, .int .u8 0, .int .i64 0] 150)).trans (But.alloc _ _ (.cells #[.int .i64 i, .int .u8 0, .int .u8 45, .int .i64 0] 150))) (fun h => h)
  have hg0 : ((w.alloc (.cells #[.int .i64 0, .int .u8 0, .int .u8 0, .int .i64 0] 150)).alloc (.cells #[.int .i64 i, .int .u8 0, .int .u8 45, .int .i64 0] 150)).heap[w.heap.size]? = some (.cells #[.int .i64 0, .int .u8 0, .int .u8 0, .int .i64 0] 150) := by
    rw [(But.alloc (fun _ => False) (w.alloc (.cells #[.int .i64 0, .int .u8 0, .int .u8 0, .int .i64 0] 150)) (.cells #[.int .i64 i, .int .u8 0, .int .u8 45, .int .i64 0] 150)).block w.heap.size (lt_of_block (heap_alloc_new w _)) (fun h => h)]
    exact heap_alloc_new w _
  have hg1 : ((w.alloc (.cells #[.int .i64 0, .int .u8 0, .int .u8 0, .int .i64 0] 150)).alloc (.cells #[.int .i64 i, .int .u8 0, .int .u8 45, .int .i64 0] 150)).heap[w.heap.size + 1]? = some (.cells #[.int .i64 i, .int .u8 0, .int .u8 45, .int .i64 0] 150) := heap_alloc_at (by simp) _
  have HW0 := hid (InsW.mk (i := i) hB0 hg0 hg1)
  have HB1 := hid (xtakeByte_any b s i false _ _ v2 _ hs hR0)
  rw [tbP_ok hlt, hpc] at HB1
  clear hB0 hR0 hg0 hg1
  go_enter Tryz.func112, Tryz.ntmps112
  go_wp2_with fail
  refine HB1.out.mono ?_
  rintro en w1 ⟨rfl, hB1, hR1⟩
  have hW1 := HW0.out.next hbw hB1
  obtain ⟨q0, q1, q2, q3⟩ := row4 hW1.item
  obtain ⟨f0, f1, f2, f3⟩ := froz4 hW1.item
  obtain ⟨y0, y1, y2, y3⟩ := row4 hW1.box
  obtain ⟨g0, g1, g2, g3⟩ := froz4 hW1.box
  have hW2 := hW1.set 1 (.int .u8 103) (by omega)
  simp only [if_true, show (1 : Nat) ≠ 0 from by decide, show ¬ (0 : Nat) = 1 from by decide, show ¬ (1 : Nat) = 0 from by decide, show ¬ (1 : Nat) = 2 from by decide, show ¬ (1 : Nat) = 3 from by decide, if_false] at hW2
  have hR2 := hR1.but (But.setB w1 (w.heap.size + 1) 1 (.int .u8 103)) (by omega)
  have HW2 := hid hW2
  clear hW1 hW2 HW0 HB1 p3
  go_wp2_with fail
  refine (xclass_any b s (i + 1) false _ v2 _ nc cap0 a0 (by omega) hs hR2).mono ?_
  rintro en w3 ⟨rfl, hB3, hR3⟩
  obtain ⟨Y, hY⟩ : ∃ Y, ltX s nc (i + 1) false = Y := ⟨_, rfl⟩
  rw [hY] at hR3
  rw [hY]
  have HY := hid (show ltX s SC.length (i + 1) false = Y by rw [HNN.out]; exact hY)
  clear hY
  obtain ⟨kc, j3, b3⟩ := Y
  dsimp only at hR3 ⊢
  clear q0 q1 q2 q3 f0 f1 f2 f3 y0 y1 y2 y3 g0 g1 g2 g3
  have hW3 := HW2.out.next hbw hB3
  obtain ⟨q0, q1, q2, q3⟩ := row4 hW3.item
  obtain ⟨f0, f1, f2, f3⟩ := froz4 hW3.item
  obtain ⟨y0, y1, y2, y3⟩ := row4 hW3.box
  obtain ⟨g0, g1, g2, g3⟩ := froz4 hW3.box
  have hW4 := hW3.set 2 (.int .u8 kc.toNat) (by omega)
  simp only [if_true, if_false, show ¬ (2 : Nat) = 0 from by decide, show ¬ (2 : Nat) = 1 from by decide, show ¬ (2 : Nat) = 3 from by decide, show ¬ (3 : Nat) = 0 from by decide, show ¬ (3 : Nat) = 1 from by decide, show ¬ (3 : Nat) = 2 from by decide] at hW4
  have hR4 := hR3.but (But.setB w3 (w.heap.size + 1) 2 (.int .u8 kc.toNat)) (by omega)
  have HW4 := hid hW4
  clear hW3 hW4
  go_wp2_with fail
  revert HW4 hR4
  generalize (w3.setCell ⟨w.heap.size + 1, 2, none⟩ (.int .u8 kc.toNat)) = X
  intro hR4 HW4
  have hX4 := HC.out X HW4.out.but hR4.c0
  have hfc := xfc_any b (SC.map toX) kc X.drew (by rw [List.length_map]; have := HNC.out; omega) (hX4.but (But.drew _ _))
  have hfl := flds_len HWF0.out HNC.out kc
  obtain ⟨F, hF⟩ : ∃ F, (fldsX (SC.map toX) kc).length = F := ⟨_, rfl⟩
  rw [hF] at hfc hfl
  have HFF := hid hF
  have HFC := hid hfc
  have hF8 : F ≤ 8 := by have := HNC.out; omega
  clear hF hfc hfl hX4
  obtain ⟨x0, x1, x2, x3⟩ := row4 HW4.out.item
  have hgl := lt_of_block HW4.out.item
  have hS0 : But (fun _ => False) X X.drew := But.drew _ _
  refine wpTx_begin (But (fun _ => False) X) 6 (by kernel_rfl) ?_
  refine wpTx_take (v := ?vA0) rfl (by kernel_rfl) ?qA0 rfl hS0 ?yA0 ?rA0
  case yA0 => intro wS h; have q0 := ((h.cell (p := ⟨w.heap.size + 1, 2, none⟩) hgl (fun h => h)).trans x2); clear h; go_simp; try rfl
  case qA0 => exact fun _ _ _ h => h
  dsimp only [Act.put]
  try simp only [puts]
  refine wpTx_take (v := ?vA1) rfl (by kernel_rfl) ?qA1 rfl hS0 ?yA1 ?rA1
  case yA1 => intro wS h; have q0 := ((h.cell (p := ⟨w.heap.size + 1, 2, none⟩) hgl (fun h => h)).trans x2); clear h; go_simp; try rfl
  case qA1 => exact fun _ _ _ h => h
  dsimp only [Act.put]
  try simp only [puts]
  refine wpTx_take (v := ?vA2) rfl (by kernel_rfl) ?qA2 rfl hS0 ?yA2 ?rA2
  case yA2 => intro wS h; have q0 := ((h.cell (p := ⟨w.heap.size + 1, 2, none⟩) hgl (fun h => h)).trans x2); clear h; go_simp; try rfl
  case qA2 => exact fun _ _ _ h => h
  dsimp only [Act.put]
  try simp only [puts]
  refine wpTx_take (v := ?vA3) rfl (by kernel_rfl) ?qA3 rfl hS0 ?yA3 ?rA3
  case yA3 => intro wS h; have q0 := ((h.cell (p := ⟨w.heap.size + 1, 2, none⟩) hgl (fun h => h)).trans x2); clear h; go_simp; try rfl
  case qA3 => exact fun _ _ _ h => h
  dsimp only [Act.put]
  try simp only [puts]
  refine wpTx_take (v := ?vA4) rfl (by kernel_rfl) ?qA4 rfl hS0 ?yA4 ?rA4
  case yA4 => intro wS h; have q0 := ((h.cell (p := ⟨w.heap.size + 1, 2, none⟩) hgl (fun h => h)).trans x2); clear h; go_simp; try rfl
  case qA4 => exact fun _ _ _ h => h
  dsimp only [Act.put]
  try simp only [puts]
  refine wpTx_step (o := ?oA5) (rest := ?rsA5) ?hoA5 ?hrA5 ?stA5
  case hoA5 => rfl
  case hrA5 => kernel_rfl
  case' stA5 =>
  intro KS hKS
  go_simp
  refine HFC.out.mono ?_
  rintro en w4 ⟨rfl, hw4⟩
  rw [hw4]
  clear hw4 w4 HFC
  refine hKS.out _ _ (fun _ => hS0) ?_
  clear hKS KS
  refine wpTx_step (o := ?oA6) (rest := ?rsA6) ?hoA6 ?hrA6 ?stA6
  case hoA6 => rfl
  case hrA6 => kernel_rfl
  case' stA6 =>
  intro KS hKS
  go_simp
  refine hKS.out _ _ (fun h => absurd h (by decide)) ?_
  clear hKS KS
  refine wpTx_done rfl (by kernel_rfl) ?_
  have HW4' := hid (HW4.out.next hbw (But.drew _ _))
  have hR4' := hR4.but hS0 (fun h => h)
  clear HW4 hR4 hS0 x0 x1 x2 x3 hgl
  revert HW4' hR4'
  generalize X.drew = X'
  intro HW4 hR4
  go_wp2_with fail
  refine (xtakeDigit_any b s j3 b3 _ _ v2 _ F (by omega) hs hR4).mono ?_
  rintro en w5 ⟨rfl, hB5, hR5⟩
  obtain ⟨Z, hZ⟩ : ∃ Z, dgX s F j3 b3 = Z := ⟨_, rfl⟩
  rw [hZ] at hR5
  rw [hZ]
  have HZ := hid hZ
  clear hZ
  obtain ⟨d, j5, b5⟩ := Z
  dsimp only at hR5 ⊢
  clear q0 q1 q2 q3 f0 f1 f2 f3 y0 y1 y2 y3 g0 g1 g2 g3
  have hW5 := HW4.out.next hbw hB5
  obtain ⟨q0, q1, q2, q3⟩ := row4 hW5.item
  obtain ⟨f0, f1, f2, f3⟩ := froz4 hW5.item
  obtain ⟨y0, y1, y2, y3⟩ := row4 hW5.box
  obtain ⟨g0, g1, g2, g3⟩ := froz4 hW5.box
  have hW6 := hW5.set 3 (.int .i64 d) (by omega)
  simp only [if_true, if_false, show ¬ (2 : Nat) = 0 from by decide, show ¬ (2 : Nat) = 1 from by decide, show ¬ (2 : Nat) = 3 from by decide, show ¬ (3 : Nat) = 0 from by decide, show ¬ (3 : Nat) = 1 from by decide, show ¬ (3 : Nat) = 2 from by decide] at hW6
  have hR6 := hR5.but (But.setB w5 (w.heap.size + 1) 3 (.int .i64 d)) (by omega)
  have HWF := hid (hW6)
  have hRF := hR6
  go_wp2_with fail
  have h9b := put4_heap HWF.out.box (.int .i64 i) (.int .u8 103) (.int .u8 kc.toNat) (.int .i64 d)
  have h9d := put4_but (w5.setCell ⟨w.heap.size + 1, 3, none⟩ (.int .i64 d)) w.heap.size (.int .i64 i) (.int .u8 103) (.int .u8 kc.toNat) (.int .i64 d)
  unfold put4 at h9b h9d
  revert h9b h9d
  generalize ((((w5.setCell ⟨w.heap.size + 1, 3, none⟩ (.int .i64 d)).setCell ⟨w.heap.size, 0, none⟩ (.int .i64 i)).setCell ⟨w.heap.size, 1, none⟩ (.int .u8 103)).setCell ⟨w.heap.size, 2, none⟩ (.int .u8 kc.toNat)).setCell ⟨w.heap.size, 3, none⟩ (.int .i64 d) = w9
  intro h9b h9d
  obtain ⟨r0, r1, r2, r3⟩ := row4 h9b
  exact bodyPost_ret (v := .agg #[(.int .i64 i), (.int .u8 103), (.int .u8 kc.toNat), (.int .i64 d)]) (by simp [results, Tryz.results112, go_sem, r0, r1, r2, r3]) rfl ⟨HWF.out.but.next h9d (fun k hk h => by omega), ⟨i, 103, kc, d⟩, j5, b5, rfl, hRF.but h9d (by omega), ins_fld (Z := (d, j5, b5)) HNC.out hpc (by simp) HY.out ((congrArg (fun n => dgX s n j3 b3) HFF.out).trans HZ.out)⟩

set_option maxHeartbeats 3200000 in
set_option maxRecDepth 100000 in
theorem xins_f112 (hlt : i < s.size) (hpc : pk s i = 112) (hwf : WfC SC) (hnc : SC.length ≤ 4) (hng : ng ≤ 3) (hnl : nl ≤ 10) (hs : s.size ≤ 2000)
    (hR : XrB w b s i false (.slice a0 SC.length cap0) (.slice a1 ng cap1) v2) (hC : TcV w base (.slice a0 SC.length cap0) (SC.map toX)) (hb : b < base) :
    Calls Tryz.prog 112 #[.pointer (some ⟨b, 0, none⟩), .int .i64 nl] w fun en w' => But (· = b) w w' ∧ ∃ x j bad', en = .returned (itV x) ∧ XrB w' b s j bad' (.slice a0 SC.length cap0) (.slice a1 ng cap1) v2 ∧ InsR s SC ng nl i false x j bad' := by
  have hbw := hR.lt
  have p3 := hR.c3
  have HC := hid (fun (w' : World) (h : But (· = b) w w') (hr : w'.cell? ⟨b, 0, none⟩ = some (.slice a0 SC.length cap0)) => (hC.but h (fun g e cur _ _ hg he => by omega)).tx hr (Nat.lt_of_lt_of_le hbw h.size))
  have HNC := hid hnc
  have HWF0 := hid hwf
  obtain ⟨nc, hncc⟩ : ∃ nc, SC.length = nc := ⟨_, rfl⟩
  rw [hncc] at hR HC hnc
  have HNN := hid hncc
  simp only [hncc]
  clear hncc hC hwf
  have hB0 : But (· = b) w ((w.alloc (.cells #[.int .i64 0, .int .u8 0, .int .u8 0, .int .i64 0] 150)).alloc (.cells #[.int .i64 i, .int .u8 0, .int .u8 45, .int .i64 0] 150)) := (But.alloc _ _ _).trans (But.alloc _ _ _)
  have hR0 := hR.but ((But.alloc (fun _ => False) w (.cells #[.int .i64 0, .int .u8 0, .int .u8 0, .int .i64 0] 150)).trans (But.alloc _ _ (.cells #[.int .i64 i, .int .u8 0, .int .u8 45, .int .i64 0] 150))) (fun h => h)
  have hg0 : ((w.alloc (.cells #[.int .i64 0, .int .u8 0, .int .u8 0, .int .i64 0] 150)).alloc (.cells #[.int .i64 i, .int .u8 0, .int .u8 45, .int .i64 0] 150)).heap[w.heap.size]? = some (.cells #[.int .i64 0, .int .u8 0, .int .u8 0, .int .i64 0] 150) := by
    rw [(But.alloc (fun _ => False) (w.alloc (.cells #[.int .i64 0, .int .u8 0, .int .u8 0, .int .i64 0] 150)) (.cells #[.int .i64 i, .int .u8 0, .int .u8 45, .int .i64 0] 150)).block w.heap.size (lt_of_block (heap_alloc_new w _)) (fun h => h)]
    exact heap_alloc_new w _
  have hg1 : ((w.alloc (.cells #[.int .i64 0, .int .u8 0, .int .u8 0, .int .i64 0] 150)).alloc (.cells #[.int .i64 i, .int .u8 0, .int .u8 45, .int .i64 0] 150)).heap[w.heap.size + 1]? = some (.cells #[.int .i64 i, .int .u8 0, .int .u8 45, .int .i64 0] 150) := heap_alloc_at (by simp) _
  have HW0 := hid (InsW.mk (i := i) hB0 hg0 hg1)
  have HB1 := hid (xtakeByte_any b s i false _ _ v2 _ hs hR0)
  rw [tbP_ok hlt, hpc] at HB1
  clear hB0 hR0 hg0 hg1
  go_enter Tryz.func112, Tryz.ntmps112
  go_wp2_with fail
  refine HB1.out.mono ?_
  rintro en w1 ⟨rfl, hB1, hR1⟩
  have hW1 := HW0.out.next hbw hB1
  obtain ⟨q0, q1, q2, q3⟩ := row4 hW1.item
  obtain ⟨f0, f1, f2, f3⟩ := froz4 hW1.item
  obtain ⟨y0, y1, y2, y3⟩ := row4 hW1.box
  obtain ⟨g0, g1, g2, g3⟩ := froz4 hW1.box
  have hW2 := hW1.set 1 (.int .u8 112) (by omega)
  simp only [if_true, show (1 : Nat) ≠ 0 from by decide, show ¬ (0 : Nat) = 1 from by decide, show ¬ (1 : Nat) = 0 from by decide, show ¬ (1 : Nat) = 2 from by decide, show ¬ (1 : Nat) = 3 from by decide, if_false] at hW2
  have hR2 := hR1.but (But.setB w1 (w.heap.size + 1) 1 (.int .u8 112)) (by omega)
  have HW2 := hid hW2
  clear hW1 hW2 HW0 HB1 p3
  go_wp2_with fail
  refine (xclass_any b s (i + 1) false _ v2 _ nc cap0 a0 (by omega) hs hR2).mono ?_
  rintro en w3 ⟨rfl, hB3, hR3⟩
  obtain ⟨Y, hY⟩ : ∃ Y, ltX s nc (i + 1) false = Y := ⟨_, rfl⟩
  rw [hY] at hR3
  rw [hY]
  have HY := hid (show ltX s SC.length (i + 1) false = Y by rw [HNN.out]; exact hY)
  clear hY
  obtain ⟨kc, j3, b3⟩ := Y
  dsimp only at hR3 ⊢
  clear q0 q1 q2 q3 f0 f1 f2 f3 y0 y1 y2 y3 g0 g1 g2 g3
  have hW3 := HW2.out.next hbw hB3
  obtain ⟨q0, q1, q2, q3⟩ := row4 hW3.item
  obtain ⟨f0, f1, f2, f3⟩ := froz4 hW3.item
  obtain ⟨y0, y1, y2, y3⟩ := row4 hW3.box
  obtain ⟨g0, g1, g2, g3⟩ := froz4 hW3.box
  have hW4 := hW3.set 2 (.int .u8 kc.toNat) (by omega)
  simp only [if_true, if_false, show ¬ (2 : Nat) = 0 from by decide, show ¬ (2 : Nat) = 1 from by decide, show ¬ (2 : Nat) = 3 from by decide, show ¬ (3 : Nat) = 0 from by decide, show ¬ (3 : Nat) = 1 from by decide, show ¬ (3 : Nat) = 2 from by decide] at hW4
  have hR4 := hR3.but (But.setB w3 (w.heap.size + 1) 2 (.int .u8 kc.toNat)) (by omega)
  have HW4 := hid hW4
  clear hW3 hW4
  go_wp2_with fail
  revert HW4 hR4
  generalize (w3.setCell ⟨w.heap.size + 1, 2, none⟩ (.int .u8 kc.toNat)) = X
  intro hR4 HW4
  have hX4 := HC.out X HW4.out.but hR4.c0
  have hfc := xfc_any b (SC.map toX) kc X.drew (by rw [List.length_map]; have := HNC.out; omega) (hX4.but (But.drew _ _))
  have hfl := flds_len HWF0.out HNC.out kc
  obtain ⟨F, hF⟩ : ∃ F, (fldsX (SC.map toX) kc).length = F := ⟨_, rfl⟩
  rw [hF] at hfc hfl
  have HFF := hid hF
  have HFC := hid hfc
  have hF8 : F ≤ 8 := by have := HNC.out; omega
  clear hF hfc hfl hX4
  obtain ⟨x0, x1, x2, x3⟩ := row4 HW4.out.item
  have hgl := lt_of_block HW4.out.item
  have hS0 : But (fun _ => False) X X.drew := But.drew _ _
  refine wpTx_begin (But (fun _ => False) X) 6 (by kernel_rfl) ?_
  refine wpTx_take (v := ?vA0) rfl (by kernel_rfl) ?qA0 rfl hS0 ?yA0 ?rA0
  case yA0 => intro wS h; have q0 := ((h.cell (p := ⟨w.heap.size + 1, 2, none⟩) hgl (fun h => h)).trans x2); clear h; go_simp; try rfl
  case qA0 => exact fun _ _ _ h => h
  dsimp only [Act.put]
  try simp only [puts]
  refine wpTx_take (v := ?vA1) rfl (by kernel_rfl) ?qA1 rfl hS0 ?yA1 ?rA1
  case yA1 => intro wS h; have q0 := ((h.cell (p := ⟨w.heap.size + 1, 2, none⟩) hgl (fun h => h)).trans x2); clear h; go_simp; try rfl
  case qA1 => exact fun _ _ _ h => h
  dsimp only [Act.put]
  try simp only [puts]
  refine wpTx_take (v := ?vA2) rfl (by kernel_rfl) ?qA2 rfl hS0 ?yA2 ?rA2
  case yA2 => intro wS h; have q0 := ((h.cell (p := ⟨w.heap.size + 1, 2, none⟩) hgl (fun h => h)).trans x2); clear h; go_simp; try rfl
  case qA2 => exact fun _ _ _ h => h
  dsimp only [Act.put]
  try simp only [puts]
  refine wpTx_take (v := ?vA3) rfl (by kernel_rfl) ?qA3 rfl hS0 ?yA3 ?rA3
  case yA3 => intro wS h; have q0 := ((h.cell (p := ⟨w.heap.size + 1, 2, none⟩) hgl (fun h => h)).trans x2); clear h; go_simp; try rfl
  case qA3 => exact fun _ _ _ h => h
  dsimp only [Act.put]
  try simp only [puts]
  refine wpTx_take (v := ?vA4) rfl (by kernel_rfl) ?qA4 rfl hS0 ?yA4 ?rA4
  case yA4 => intro wS h; have q0 := ((h.cell (p := ⟨w.heap.size + 1, 2, none⟩) hgl (fun h => h)).trans x2); clear h; go_simp; try rfl
  case qA4 => exact fun _ _ _ h => h
  dsimp only [Act.put]
  try simp only [puts]
  refine wpTx_step (o := ?oA5) (rest := ?rsA5) ?hoA5 ?hrA5 ?stA5
  case hoA5 => rfl
  case hrA5 => kernel_rfl
  case' stA5 =>
  intro KS hKS
  go_simp
  refine HFC.out.mono ?_
  rintro en w4 ⟨rfl, hw4⟩
  rw [hw4]
  clear hw4 w4 HFC
  refine hKS.out _ _ (fun _ => hS0) ?_
  clear hKS KS
  refine wpTx_step (o := ?oA6) (rest := ?rsA6) ?hoA6 ?hrA6 ?stA6
  case hoA6 => rfl
  case hrA6 => kernel_rfl
  case' stA6 =>
  intro KS hKS
  go_simp
  refine hKS.out _ _ (fun h => absurd h (by decide)) ?_
  clear hKS KS
  refine wpTx_done rfl (by kernel_rfl) ?_
  have HW4' := hid (HW4.out.next hbw (But.drew _ _))
  have hR4' := hR4.but hS0 (fun h => h)
  clear HW4 hR4 hS0 x0 x1 x2 x3 hgl
  revert HW4' hR4'
  generalize X.drew = X'
  intro HW4 hR4
  go_wp2_with fail
  refine (xtakeDigit_any b s j3 b3 _ _ v2 _ F (by omega) hs hR4).mono ?_
  rintro en w5 ⟨rfl, hB5, hR5⟩
  obtain ⟨Z, hZ⟩ : ∃ Z, dgX s F j3 b3 = Z := ⟨_, rfl⟩
  rw [hZ] at hR5
  rw [hZ]
  have HZ := hid hZ
  clear hZ
  obtain ⟨d, j5, b5⟩ := Z
  dsimp only at hR5 ⊢
  clear q0 q1 q2 q3 f0 f1 f2 f3 y0 y1 y2 y3 g0 g1 g2 g3
  have hW5 := HW4.out.next hbw hB5
  obtain ⟨q0, q1, q2, q3⟩ := row4 hW5.item
  obtain ⟨f0, f1, f2, f3⟩ := froz4 hW5.item
  obtain ⟨y0, y1, y2, y3⟩ := row4 hW5.box
  obtain ⟨g0, g1, g2, g3⟩ := froz4 hW5.box
  have hW6 := hW5.set 3 (.int .i64 d) (by omega)
  simp only [if_true, if_false, show ¬ (2 : Nat) = 0 from by decide, show ¬ (2 : Nat) = 1 from by decide, show ¬ (2 : Nat) = 3 from by decide, show ¬ (3 : Nat) = 0 from by decide, show ¬ (3 : Nat) = 1 from by decide, show ¬ (3 : Nat) = 2 from by decide] at hW6
  have hR6 := hR5.but (But.setB w5 (w.heap.size + 1) 3 (.int .i64 d)) (by omega)
  have HWF := hid (hW6)
  have hRF := hR6
  go_wp2_with fail
  have h9b := put4_heap HWF.out.box (.int .i64 i) (.int .u8 112) (.int .u8 kc.toNat) (.int .i64 d)
  have h9d := put4_but (w5.setCell ⟨w.heap.size + 1, 3, none⟩ (.int .i64 d)) w.heap.size (.int .i64 i) (.int .u8 112) (.int .u8 kc.toNat) (.int .i64 d)
  unfold put4 at h9b h9d
  revert h9b h9d
  generalize ((((w5.setCell ⟨w.heap.size + 1, 3, none⟩ (.int .i64 d)).setCell ⟨w.heap.size, 0, none⟩ (.int .i64 i)).setCell ⟨w.heap.size, 1, none⟩ (.int .u8 112)).setCell ⟨w.heap.size, 2, none⟩ (.int .u8 kc.toNat)).setCell ⟨w.heap.size, 3, none⟩ (.int .i64 d) = w9
  intro h9b h9d
  obtain ⟨r0, r1, r2, r3⟩ := row4 h9b
  exact bodyPost_ret (v := .agg #[(.int .i64 i), (.int .u8 112), (.int .u8 kc.toNat), (.int .i64 d)]) (by simp [results, Tryz.results112, go_sem, r0, r1, r2, r3]) rfl ⟨HWF.out.but.next h9d (fun k hk h => by omega), ⟨i, 112, kc, d⟩, j5, b5, rfl, hRF.but h9d (by omega), ins_fld (Z := (d, j5, b5)) HNC.out hpc (by simp) HY.out ((congrArg (fun n => dgX s n j3 b3) HFF.out).trans HZ.out)⟩

set_option maxHeartbeats 3200000 in
set_option maxRecDepth 100000 in
theorem xins_c99 (hlt : i < s.size) (hpc : pk s i = 99) (hwf : WfC SC) (hnc : SC.length ≤ 4) (hng : ng ≤ 3) (hnl : nl ≤ 10) (hs : s.size ≤ 2000)
    (hR : XrB w b s i false (.slice a0 SC.length cap0) (.slice a1 ng cap1) v2) (hC : TcV w base (.slice a0 SC.length cap0) (SC.map toX)) (hb : b < base) :
    Calls Tryz.prog 112 #[.pointer (some ⟨b, 0, none⟩), .int .i64 nl] w fun en w' => But (· = b) w w' ∧ ∃ x j bad', en = .returned (itV x) ∧ XrB w' b s j bad' (.slice a0 SC.length cap0) (.slice a1 ng cap1) v2 ∧ InsR s SC ng nl i false x j bad' := by
  have hbw := hR.lt
  have p3 := hR.c3
  have HC := hid (fun (w' : World) (h : But (· = b) w w') (hr : w'.cell? ⟨b, 0, none⟩ = some (.slice a0 SC.length cap0)) => (hC.but h (fun g e cur _ _ hg he => by omega)).tx hr (Nat.lt_of_lt_of_le hbw h.size))
  have HNC := hid hnc
  have HWF0 := hid hwf
  obtain ⟨nc, hncc⟩ : ∃ nc, SC.length = nc := ⟨_, rfl⟩
  rw [hncc] at hR HC hnc
  have HNN := hid hncc
  simp only [hncc]
  clear hncc hC hwf
  have hB0 : But (· = b) w ((w.alloc (.cells #[.int .i64 0, .int .u8 0, .int .u8 0, .int .i64 0] 150)).alloc (.cells #[.int .i64 i, .int .u8 0, .int .u8 45, .int .i64 0] 150)) := (But.alloc _ _ _).trans (But.alloc _ _ _)
  have hR0 := hR.but ((But.alloc (fun _ => False) w (.cells #[.int .i64 0, .int .u8 0, .int .u8 0, .int .i64 0] 150)).trans (But.alloc _ _ (.cells #[.int .i64 i, .int .u8 0, .int .u8 45, .int .i64 0] 150))) (fun h => h)
  have hg0 : ((w.alloc (.cells #[.int .i64 0, .int .u8 0, .int .u8 0, .int .i64 0] 150)).alloc (.cells #[.int .i64 i, .int .u8 0, .int .u8 45, .int .i64 0] 150)).heap[w.heap.size]? = some (.cells #[.int .i64 0, .int .u8 0, .int .u8 0, .int .i64 0] 150) := by
    rw [(But.alloc (fun _ => False) (w.alloc (.cells #[.int .i64 0, .int .u8 0, .int .u8 0, .int .i64 0] 150)) (.cells #[.int .i64 i, .int .u8 0, .int .u8 45, .int .i64 0] 150)).block w.heap.size (lt_of_block (heap_alloc_new w _)) (fun h => h)]
    exact heap_alloc_new w _
  have hg1 : ((w.alloc (.cells #[.int .i64 0, .int .u8 0, .int .u8 0, .int .i64 0] 150)).alloc (.cells #[.int .i64 i, .int .u8 0, .int .u8 45, .int .i64 0] 150)).heap[w.heap.size + 1]? = some (.cells #[.int .i64 i, .int .u8 0, .int .u8 45, .int .i64 0] 150) := heap_alloc_at (by simp) _
  have HW0 := hid (InsW.mk (i := i) hB0 hg0 hg1)
  have HB1 := hid (xtakeByte_any b s i false _ _ v2 _ hs hR0)
  rw [tbP_ok hlt, hpc] at HB1
  clear hB0 hR0 hg0 hg1
  go_enter Tryz.func112, Tryz.ntmps112
  go_wp2_with fail
  refine HB1.out.mono ?_
  rintro en w1 ⟨rfl, hB1, hR1⟩
  have hW1 := HW0.out.next hbw hB1
  obtain ⟨q0, q1, q2, q3⟩ := row4 hW1.item
  obtain ⟨f0, f1, f2, f3⟩ := froz4 hW1.item
  obtain ⟨y0, y1, y2, y3⟩ := row4 hW1.box
  obtain ⟨g0, g1, g2, g3⟩ := froz4 hW1.box
  have hW2 := hW1.set 1 (.int .u8 99) (by omega)
  simp only [if_true, show (1 : Nat) ≠ 0 from by decide, show ¬ (0 : Nat) = 1 from by decide, show ¬ (1 : Nat) = 0 from by decide, show ¬ (1 : Nat) = 2 from by decide, show ¬ (1 : Nat) = 3 from by decide, if_false] at hW2
  have hR2 := hR1.but (But.setB w1 (w.heap.size + 1) 1 (.int .u8 99)) (by omega)
  have HW2 := hid hW2
  clear hW1 hW2 HW0 HB1 p3
  go_wp2_with fail
  refine (xclass_any b s (i + 1) false _ v2 _ nc cap0 a0 (by omega) hs hR2).mono ?_
  rintro en w3 ⟨rfl, hB3, hR3⟩
  obtain ⟨Y, hY⟩ : ∃ Y, ltX s nc (i + 1) false = Y := ⟨_, rfl⟩
  rw [hY] at hR3
  rw [hY]
  have HY := hid (show ltX s SC.length (i + 1) false = Y by rw [HNN.out]; exact hY)
  clear hY
  obtain ⟨kc, j3, b3⟩ := Y
  dsimp only at hR3 ⊢
  clear q0 q1 q2 q3 f0 f1 f2 f3 y0 y1 y2 y3 g0 g1 g2 g3
  have hW3 := HW2.out.next hbw hB3
  obtain ⟨q0, q1, q2, q3⟩ := row4 hW3.item
  obtain ⟨f0, f1, f2, f3⟩ := froz4 hW3.item
  obtain ⟨y0, y1, y2, y3⟩ := row4 hW3.box
  obtain ⟨g0, g1, g2, g3⟩ := froz4 hW3.box
  have hW4 := hW3.set 2 (.int .u8 kc.toNat) (by omega)
  simp only [if_true, if_false, show ¬ (2 : Nat) = 0 from by decide, show ¬ (2 : Nat) = 1 from by decide, show ¬ (2 : Nat) = 3 from by decide, show ¬ (3 : Nat) = 0 from by decide, show ¬ (3 : Nat) = 1 from by decide, show ¬ (3 : Nat) = 2 from by decide] at hW4
  have hR4 := hR3.but (But.setB w3 (w.heap.size + 1) 2 (.int .u8 kc.toNat)) (by omega)
  have HW4 := hid hW4
  clear hW3 hW4
  have p1 := hR4.c1
  go_wp2_with fail
  refine (xtakeDigit_any b s j3 b3 _ _ v2 _ ng (by omega) hs hR4).mono ?_
  rintro en w5 ⟨rfl, hB5, hR5⟩
  obtain ⟨Z, hZ⟩ : ∃ Z, dgX s ng j3 b3 = Z := ⟨_, rfl⟩
  rw [hZ] at hR5
  rw [hZ]
  have HZ := hid hZ
  clear hZ
  obtain ⟨d, j5, b5⟩ := Z
  dsimp only at hR5 ⊢
  clear p1 q0 q1 q2 q3 f0 f1 f2 f3 y0 y1 y2 y3 g0 g1 g2 g3
  have hW5 := HW4.out.next hbw hB5
  obtain ⟨q0, q1, q2, q3⟩ := row4 hW5.item
  obtain ⟨f0, f1, f2, f3⟩ := froz4 hW5.item
  obtain ⟨y0, y1, y2, y3⟩ := row4 hW5.box
  obtain ⟨g0, g1, g2, g3⟩ := froz4 hW5.box
  have hW6 := hW5.set 3 (.int .i64 d) (by omega)
  simp only [if_true, if_false, show ¬ (2 : Nat) = 0 from by decide, show ¬ (2 : Nat) = 1 from by decide, show ¬ (2 : Nat) = 3 from by decide, show ¬ (3 : Nat) = 0 from by decide, show ¬ (3 : Nat) = 1 from by decide, show ¬ (3 : Nat) = 2 from by decide] at hW6
  have hR6 := hR5.but (But.setB w5 (w.heap.size + 1) 3 (.int .i64 d)) (by omega)
  have HWF := hid (hW6)
  have hRF := hR6
  go_wp2_with fail
  have h9b := put4_heap HWF.out.box (.int .i64 i) (.int .u8 99) (.int .u8 kc.toNat) (.int .i64 d)
  have h9d := put4_but (w5.setCell ⟨w.heap.size + 1, 3, none⟩ (.int .i64 d)) w.heap.size (.int .i64 i) (.int .u8 99) (.int .u8 kc.toNat) (.int .i64 d)
  unfold put4 at h9b h9d
  revert h9b h9d
  generalize ((((w5.setCell ⟨w.heap.size + 1, 3, none⟩ (.int .i64 d)).setCell ⟨w.heap.size, 0, none⟩ (.int .i64 i)).setCell ⟨w.heap.size, 1, none⟩ (.int .u8 99)).setCell ⟨w.heap.size, 2, none⟩ (.int .u8 kc.toNat)).setCell ⟨w.heap.size, 3, none⟩ (.int .i64 d) = w9
  intro h9b h9d
  obtain ⟨r0, r1, r2, r3⟩ := row4 h9b
  exact bodyPost_ret (v := .agg #[(.int .i64 i), (.int .u8 99), (.int .u8 kc.toNat), (.int .i64 d)]) (by simp [results, Tryz.results112, go_sem, r0, r1, r2, r3]) rfl ⟨HWF.out.but.next h9d (fun k hk h => by omega), ⟨i, 99, kc, d⟩, j5, b5, rfl, hRF.but h9d (by omega), ins_call HNC.out hpc (by rfl) HY.out HZ.out⟩


theorem letters_cases {c : UInt8} (h : letters.contains c.toNat = true) : c = 107 ∨ c = 114 ∨ c = 119 ∨ c = 108 ∨ c = 115 ∨ c = 43 ∨ c = 45 ∨ c = 42 ∨ c = 47 ∨ c = 60 ∨ c = 61 ∨ c = 101 ∨ c = 110 ∨ c = 122 ∨ c = 103 ∨ c = 112 ∨ c = 99 ∨ c = 120 ∨ c = 100 ∨ c = 106 ∨ c = 102 ∨ c = 116 := by
  have h1 : c.toNat ∈ letters := List.elem_iff.1 h
  simp only [letters, List.mem_cons, List.not_mem_nil, or_false] at h1
  have e : ∀ n : Nat, n < 256 → c.toNat = n → c = UInt8.ofNat n := fun n hn h => (u8n hn).1 h
  rcases h1 with h | h | h | h | h | h | h | h | h | h | h | h | h | h | h | h | h | h | h | h | h | h <;> (have := e _ (by decide) h; simp at this; simp [this])

theorem xinstr_any (bad : Bool) (hwf : WfC SC) (hnc : SC.length ≤ 4) (hng : ng ≤ 3) (hnl : nl ≤ 10) (hs : s.size ≤ 2000)
    (hR : XrB w b s i bad (.slice a0 SC.length cap0) (.slice a1 ng cap1) v2) (hC : TcV w base (.slice a0 SC.length cap0) (SC.map toX)) (hb : b < base) :
    Calls Tryz.prog 112 #[.pointer (some ⟨b, 0, none⟩), .int .i64 nl] w fun en w' => But (· = b) w w' ∧ ∃ x j bad', en = .returned (itV x) ∧ XrB w' b s j bad' (.slice a0 SC.length cap0) (.slice a1 ng cap1) v2 ∧ InsR s SC ng nl i bad x j bad' := by
  by_cases hz : bad = true ∨ s.size ≤ i
  · exact xins_end b s i SC a0 a1 ng nl cap0 cap1 v2 w bad hz hnc hng hnl hs hR
  have hz' := not_or.1 hz
  have hbf : bad = false := by simpa using hz'.1
  subst hbf
  have hlt : i < s.size := by omega
  cases hl : letters.contains (pk s i).toNat with
  | false => exact xins_no b base s i SC a0 a1 ng nl cap0 cap1 v2 w hlt (pk s i) hl rfl hwf hnc hng hnl hs hR hC hb
  | true =>
    rcases letters_cases hl with h | h | h | h | h | h | h | h | h | h | h | h | h | h | h | h | h | h | h | h | h | h
    · exact xins_d107 b base s i SC a0 a1 ng nl cap0 cap1 v2 w hlt h hwf hnc hng hnl hs hR hC hb
    · exact xins_a114 b base s i SC a0 a1 ng nl cap0 cap1 v2 w hlt h hwf hnc hng hnl hs hR hC hb
    · exact xins_a119 b base s i SC a0 a1 ng nl cap0 cap1 v2 w hlt h hwf hnc hng hnl hs hR hC hb
    · exact xins_d108 b base s i SC a0 a1 ng nl cap0 cap1 v2 w hlt h hwf hnc hng hnl hs hR hC hb
    · exact xins_d115 b base s i SC a0 a1 ng nl cap0 cap1 v2 w hlt h hwf hnc hng hnl hs hR hC hb
    · exact xins_a43 b base s i SC a0 a1 ng nl cap0 cap1 v2 w hlt h hwf hnc hng hnl hs hR hC hb
    · exact xins_a45 b base s i SC a0 a1 ng nl cap0 cap1 v2 w hlt h hwf hnc hng hnl hs hR hC hb
    · exact xins_a42 b base s i SC a0 a1 ng nl cap0 cap1 v2 w hlt h hwf hnc hng hnl hs hR hC hb
    · exact xins_a47 b base s i SC a0 a1 ng nl cap0 cap1 v2 w hlt h hwf hnc hng hnl hs hR hC hb
    · exact xins_a60 b base s i SC a0 a1 ng nl cap0 cap1 v2 w hlt h hwf hnc hng hnl hs hR hC hb
    · exact xins_a61 b base s i SC a0 a1 ng nl cap0 cap1 v2 w hlt h hwf hnc hng hnl hs hR hC hb
    · exact xins_a101 b base s i SC a0 a1 ng nl cap0 cap1 v2 w hlt h hwf hnc hng hnl hs hR hC hb
    · exact xins_c110 b base s i SC a0 a1 ng nl cap0 cap1 v2 w hlt h hwf hnc hng hnl hs hR hC hb
    · exact xins_a122 b base s i SC a0 a1 ng nl cap0 cap1 v2 w hlt h hwf hnc hng hnl hs hR hC hb
    · exact xins_f103 b base s i SC a0 a1 ng nl cap0 cap1 v2 w hlt h hwf hnc hng hnl hs hR hC hb
    · exact xins_f112 b base s i SC a0 a1 ng nl cap0 cap1 v2 w hlt h hwf hnc hng hnl hs hR hC hb
    · exact xins_c99 b base s i SC a0 a1 ng nl cap0 cap1 v2 w hlt h hwf hnc hng hnl hs hR hC hb
    · exact xins_c120 b base s i SC a0 a1 ng nl cap0 cap1 v2 w hlt h hwf hnc hng hnl hs hR hC hb
    · exact xins_a100 b base s i SC a0 a1 ng nl cap0 cap1 v2 w hlt h hwf hnc hng hnl hs hR hC hb
    · exact xins_t106 b base s i SC a0 a1 ng nl cap0 cap1 v2 w hlt h hwf hnc hng hnl hs hR hC hb
    · exact xins_t102 b base s i SC a0 a1 ng nl cap0 cap1 v2 w hlt h hwf hnc hng hnl hs hR hC hb
    · exact xins_a116 b base s i SC a0 a1 ng nl cap0 cap1 v2 w hlt h hwf hnc hng hnl hs hR hC hb
end
end Go.Proofs.YtmfbojnnoonidaaGreatDoor
