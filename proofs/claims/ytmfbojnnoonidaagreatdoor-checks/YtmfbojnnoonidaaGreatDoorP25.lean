import Derived.Test.YtmfbojnnoonidaaGreatDoorP24
/- The program's reading of an instruction: the walk. Laid by wip/mk/bsf.py. -/
namespace Go.Proofs.YtmfbojnnoonidaaGreatDoor
open Go Go.RowKit Sp
set_option linter.unusedSimpArgs false
set_option linter.unusedVariables false
attribute [local go_sem ↓] Go.wp_at_zero Go.wp_at_succ

/-- What is known behind the first byte: the world w1, the two boxes. -/
structure InsW (w w1 : World) (b i : Nat) (p o c n : Value) : Prop where
  but : But (· = b) w w1
  box : w1.heap[w.heap.size]? = some (.cells #[.int .i64 0, .int .u8 0, .int .u8 0, .int .i64 0] 150)
  item : w1.heap[w.heap.size + 1]? = some (.cells #[p, o, c, n] 150)
theorem InsW.next {w w1 w2 : World} {b i : Nat} {p o c n : Value} (h : InsW w w1 b i p o c n) (hb : b < w.heap.size) (h2 : But (· = b) w1 w2) : InsW w w2 b i p o c n :=
  ⟨h.but.trans h2, (h2.block _ (lt_of_block h.box) (by omega)).trans h.box, (h2.block _ (lt_of_block h.item) (by omega)).trans h.item⟩
theorem InsW.set {w w1 : World} {b i : Nat} {p o c n : Value} (h : InsW w w1 b i p o c n) (k : Nat) (v : Value) (hk : k < 4) : InsW w (w1.setCell ⟨w.heap.size + 1, k, none⟩ v) b i (if k = 0 then v else p) (if k = 1 then v else o) (if k = 2 then v else c) (if k = 3 then v else n) := by
  refine ⟨h.but.next (But.setB _ _ _ _) (fun j hj e => by omega), ((But.setB w1 (w.heap.size + 1) k v).block _ (lt_of_block h.box) (by omega)).trans h.box, ?_⟩
  rw [heap_setCell_same w1 (w.heap.size + 1) k _ _ v h.item]
  match k, hk with
  | 0, _ => rfl
  | 1, _ => rfl
  | 2, _ => rfl
  | 3, _ => rfl

section
variable (b base : Nat) (s : ByteArray) (i : Nat) (SC : List Cls) (a0 a1 : Option Addr) (ng nl cap0 cap1 : Nat) (v2 : Value) (w : World)
set_option maxHeartbeats 3200000 in
set_option maxRecDepth 100000 in
theorem xins_end (bad : Bool) (hz : bad = true ∨ s.size ≤ i) (hnc : SC.length ≤ 4) (hng : ng ≤ 3) (hnl : nl ≤ 10) (hs : s.size ≤ 2000)
    (hR : XrB w b s i bad (.slice a0 SC.length cap0) (.slice a1 ng cap1) v2) :
    Calls Tryz.prog 112 #[.pointer (some ⟨b, 0, none⟩), .int .i64 nl] w fun en w' => But (· = b) w w' ∧ ∃ x j bad', en = .returned (itV x) ∧ XrB w' b s j bad' (.slice a0 SC.length cap0) (.slice a1 ng cap1) v2 ∧ InsR s SC ng nl i bad x j bad' := by
  have hbw := hR.lt
  have p3 := hR.c3
  have HNC := hid hnc
  obtain ⟨nc, hncc⟩ : ∃ nc, SC.length = nc := ⟨_, rfl⟩
  rw [hncc] at hR hnc
  have HNN := hid hncc
  simp only [hncc]
  clear hncc
  have hB0 : But (· = b) w ((w.alloc (.cells #[.int .i64 0, .int .u8 0, .int .u8 0, .int .i64 0] 150)).alloc (.cells #[.int .i64 i, .int .u8 0, .int .u8 45, .int .i64 0] 150)) := (But.alloc _ _ _).trans (But.alloc _ _ _)
  have hR0 := hR.but ((But.alloc (fun _ => False) w (.cells #[.int .i64 0, .int .u8 0, .int .u8 0, .int .i64 0] 150)).trans (But.alloc _ _ (.cells #[.int .i64 i, .int .u8 0, .int .u8 45, .int .i64 0] 150))) (fun h => h)
  have hg0 : ((w.alloc (.cells #[.int .i64 0, .int .u8 0, .int .u8 0, .int .i64 0] 150)).alloc (.cells #[.int .i64 i, .int .u8 0, .int .u8 45, .int .i64 0] 150)).heap[w.heap.size]? = some (.cells #[.int .i64 0, .int .u8 0, .int .u8 0, .int .i64 0] 150) := by
    rw [(But.alloc (fun _ => False) (w.alloc (.cells #[.int .i64 0, .int .u8 0, .int .u8 0, .int .i64 0] 150)) (.cells #[.int .i64 i, .int .u8 0, .int .u8 45, .int .i64 0] 150)).block w.heap.size (lt_of_block (heap_alloc_new w _)) (fun h => h)]
    exact heap_alloc_new w _
  have hg1 : ((w.alloc (.cells #[.int .i64 0, .int .u8 0, .int .u8 0, .int .i64 0] 150)).alloc (.cells #[.int .i64 i, .int .u8 0, .int .u8 45, .int .i64 0] 150)).heap[w.heap.size + 1]? = some (.cells #[.int .i64 i, .int .u8 0, .int .u8 45, .int .i64 0] 150) := heap_alloc_at (by simp) _
  have HW0 := hid (InsW.mk (i := i) hB0 hg0 hg1)
  have HB1 := hid (xtakeByte_any b s i bad _ _ v2 _ hs hR0)
  rw [tbP_zero hz] at HB1
  clear hB0 hR0 hg0 hg1
  go_enter Tryz.func112, Tryz.ntmps112
  go_wp2_with fail
  refine HB1.out.mono ?_
  rintro en w1 ⟨rfl, hB1, hR1⟩
  have hW1 := HW0.out.next hbw hB1
  obtain ⟨q0, q1, q2, q3⟩ := row4 hW1.item
  obtain ⟨f0, f1, f2, f3⟩ := froz4 hW1.item
  obtain ⟨y0, y1, y2, y3⟩ := row4 hW1.box
  obtain ⟨g0, g1, g2, g3⟩ := froz4 hW1.box
  have hW2 := hW1.set 1 (.int .u8 0) (by omega)
  simp only [if_true, show (1 : Nat) ≠ 0 from by decide, show ¬ (0 : Nat) = 1 from by decide, show ¬ (1 : Nat) = 0 from by decide, show ¬ (1 : Nat) = 2 from by decide, show ¬ (1 : Nat) = 3 from by decide, if_false] at hW2
  have hR2 := hR1.but (But.setB w1 (w.heap.size + 1) 1 (.int .u8 0)) (by omega)
  have HW2 := hid hW2
  clear hW1 hW2 HW0 HB1 p3
  go_wp2_with fail
  refine (xrefuse_bad b s i _ _ v2 _ i hR2).mono ?_
  rintro en w3 ⟨rfl, hB3, hR3⟩
  clear q0 q1 q2 q3 f0 f1 f2 f3 y0 y1 y2 y3 g0 g1 g2 g3
  have hW3 := HW2.out.next hbw hB3
  obtain ⟨q0, q1, q2, q3⟩ := row4 hW3.item
  obtain ⟨f0, f1, f2, f3⟩ := froz4 hW3.item
  obtain ⟨y0, y1, y2, y3⟩ := row4 hW3.box
  obtain ⟨g0, g1, g2, g3⟩ := froz4 hW3.box
  have HWF := hid (hW3)
  have hRF := hR3
  go_wp2_with fail
  have h9b := put4_heap HWF.out.box (.int .i64 i) (.int .u8 0) (.int .u8 45) (.int .i64 0)
  have h9d := put4_but w3 w.heap.size (.int .i64 i) (.int .u8 0) (.int .u8 45) (.int .i64 0)
  unfold put4 at h9b h9d
  revert h9b h9d
  generalize (((w3.setCell ⟨w.heap.size, 0, none⟩ (.int .i64 i)).setCell ⟨w.heap.size, 1, none⟩ (.int .u8 0)).setCell ⟨w.heap.size, 2, none⟩ (.int .u8 45)).setCell ⟨w.heap.size, 3, none⟩ (.int .i64 0) = w9
  intro h9b h9d
  obtain ⟨r0, r1, r2, r3⟩ := row4 h9b
  exact bodyPost_ret (v := .agg #[(.int .i64 i), (.int .u8 0), (.int .u8 45), (.int .i64 0)]) (by simp [results, Tryz.results112, go_sem, r0, r1, r2, r3]) rfl ⟨HWF.out.but.next h9d (fun k hk h => by omega), ⟨i, 0, 45, 0⟩, i, true, rfl, hRF.but h9d (by omega), ins_end hz⟩

set_option maxHeartbeats 3200000 in
set_option maxRecDepth 100000 in
theorem xins_no (hlt : i < s.size) (c : UInt8) (hno : letters.contains c.toNat = false) (hpc : pk s i = c) (hwf : WfC SC) (hnc : SC.length ≤ 4) (hng : ng ≤ 3) (hnl : nl ≤ 10) (hs : s.size ≤ 2000)
    (hR : XrB w b s i false (.slice a0 SC.length cap0) (.slice a1 ng cap1) v2) (hC : TcV w base (.slice a0 SC.length cap0) (SC.map toX)) (hb : b < base) :
    Calls Tryz.prog 112 #[.pointer (some ⟨b, 0, none⟩), .int .i64 nl] w fun en w' => But (· = b) w w' ∧ ∃ x j bad', en = .returned (itV x) ∧ XrB w' b s j bad' (.slice a0 SC.length cap0) (.slice a1 ng cap1) v2 ∧ InsR s SC ng nl i false x j bad' := by
  have hbw := hR.lt
  have p3 := hR.c3
  have HC := hid (fun (w' : World) (h : But (· = b) w w') (hr : w'.cell? ⟨b, 0, none⟩ = some (.slice a0 SC.length cap0)) => (hC.but h (fun g e cur _ _ hg he => by omega)).tx hr (Nat.lt_of_lt_of_le hbw h.size))
  have HNC := hid hnc
  have HWF0 := hid hwf
  obtain ⟨nc, hncc⟩ : ∃ nc, SC.length = nc := ⟨_, rfl⟩
  rw [hncc] at hR HC hnc
  have HNN := hid hncc
  simp only [hncc]
  clear hncc hC hwf
  have hB0 : But (· = b) w ((w.alloc (.cells #[.int .i64 0, .int .u8 0, .int .u8 0, .int .i64 0] 150)).alloc (.cells #[.int .i64 i, .int .u8 0, .int .u8 45, .int .i64 0] 150)) := (But.alloc _ _ _).trans (But.alloc _ _ _)
  have hR0 := hR.but ((But.alloc (fun _ => False) w (.cells #[.int .i64 0, .int .u8 0, .int .u8 0, .int .i64 0] 150)).trans (But.alloc _ _ (.cells #[.int .i64 i, .int .u8 0, .int .u8 45, .int .i64 0] 150))) (fun h => h)
  have hg0 : ((w.alloc (.cells #[.int .i64 0, .int .u8 0, .int .u8 0, .int .i64 0] 150)).alloc (.cells #[.int .i64 i, .int .u8 0, .int .u8 45, .int .i64 0] 150)).heap[w.heap.size]? = some (.cells #[.int .i64 0, .int .u8 0, .int .u8 0, .int .i64 0] 150) := by
    rw [(But.alloc (fun _ => False) (w.alloc (.cells #[.int .i64 0, .int .u8 0, .int .u8 0, .int .i64 0] 150)) (.cells #[.int .i64 i, .int .u8 0, .int .u8 45, .int .i64 0] 150)).block w.heap.size (lt_of_block (heap_alloc_new w _)) (fun h => h)]
    exact heap_alloc_new w _
  have hg1 : ((w.alloc (.cells #[.int .i64 0, .int .u8 0, .int .u8 0, .int .i64 0] 150)).alloc (.cells #[.int .i64 i, .int .u8 0, .int .u8 45, .int .i64 0] 150)).heap[w.heap.size + 1]? = some (.cells #[.int .i64 i, .int .u8 0, .int .u8 45, .int .i64 0] 150) := heap_alloc_at (by simp) _
  have HW0 := hid (InsW.mk (i := i) hB0 hg0 hg1)
  have HB1 := hid (xtakeByte_any b s i false _ _ v2 _ hs hR0)
  rw [tbP_ok hlt, hpc] at HB1
  have hne : ∀ k ∈ letters, ((c.toNat : Int) == (k : Int)) = false := fun k hk => by
    rw [beq_eq_false_iff_ne]
    intro h
    have : letters.contains c.toNat = true := List.elem_iff.2 (by rw [show c.toNat = k from by omega]; exact hk)
    rw [hno] at this
    cases this
  have e107 : ((c.toNat : Int) == 107) = false := hne 107 (by decide)
  have e114 : ((c.toNat : Int) == 114) = false := hne 114 (by decide)
  have e119 : ((c.toNat : Int) == 119) = false := hne 119 (by decide)
  have e108 : ((c.toNat : Int) == 108) = false := hne 108 (by decide)
  have e115 : ((c.toNat : Int) == 115) = false := hne 115 (by decide)
  have e43 : ((c.toNat : Int) == 43) = false := hne 43 (by decide)
  have e45 : ((c.toNat : Int) == 45) = false := hne 45 (by decide)
  have e42 : ((c.toNat : Int) == 42) = false := hne 42 (by decide)
  have e47 : ((c.toNat : Int) == 47) = false := hne 47 (by decide)
  have e60 : ((c.toNat : Int) == 60) = false := hne 60 (by decide)
  have e61 : ((c.toNat : Int) == 61) = false := hne 61 (by decide)
  have e101 : ((c.toNat : Int) == 101) = false := hne 101 (by decide)
  have e110 : ((c.toNat : Int) == 110) = false := hne 110 (by decide)
  have e122 : ((c.toNat : Int) == 122) = false := hne 122 (by decide)
  have e103 : ((c.toNat : Int) == 103) = false := hne 103 (by decide)
  have e112 : ((c.toNat : Int) == 112) = false := hne 112 (by decide)
  have e99 : ((c.toNat : Int) == 99) = false := hne 99 (by decide)
  have e120 : ((c.toNat : Int) == 120) = false := hne 120 (by decide)
  have e100 : ((c.toNat : Int) == 100) = false := hne 100 (by decide)
  have e106 : ((c.toNat : Int) == 106) = false := hne 106 (by decide)
  have e102 : ((c.toNat : Int) == 102) = false := hne 102 (by decide)
  have e116 : ((c.toNat : Int) == 116) = false := hne 116 (by decide)
  clear hne
  clear hB0 hR0 hg0 hg1
  go_enter Tryz.func112, Tryz.ntmps112
  go_wp2_with fail
  refine HB1.out.mono ?_
  rintro en w1 ⟨rfl, hB1, hR1⟩
  have hW1 := HW0.out.next hbw hB1
  obtain ⟨q0, q1, q2, q3⟩ := row4 hW1.item
  obtain ⟨f0, f1, f2, f3⟩ := froz4 hW1.item
  obtain ⟨y0, y1, y2, y3⟩ := row4 hW1.box
  obtain ⟨g0, g1, g2, g3⟩ := froz4 hW1.box
  have hW2 := hW1.set 1 (.int .u8 c.toNat) (by omega)
  simp only [if_true, show (1 : Nat) ≠ 0 from by decide, show ¬ (0 : Nat) = 1 from by decide, show ¬ (1 : Nat) = 0 from by decide, show ¬ (1 : Nat) = 2 from by decide, show ¬ (1 : Nat) = 3 from by decide, if_false] at hW2
  have hR2 := hR1.but (But.setB w1 (w.heap.size + 1) 1 (.int .u8 c.toNat)) (by omega)
  have HW2 := hid hW2
  clear hW1 hW2 HW0 HB1 p3
  go_wp2_with fail
  refine (xrefuse_ok b s (i + 1) _ _ v2 _ i hR2).mono ?_
  rintro en w3 ⟨rfl, hB3, hR3⟩
  clear q0 q1 q2 q3 f0 f1 f2 f3 y0 y1 y2 y3 g0 g1 g2 g3
  have hW3 := HW2.out.next hbw hB3
  obtain ⟨q0, q1, q2, q3⟩ := row4 hW3.item
  obtain ⟨f0, f1, f2, f3⟩ := froz4 hW3.item
  obtain ⟨y0, y1, y2, y3⟩ := row4 hW3.box
  obtain ⟨g0, g1, g2, g3⟩ := froz4 hW3.box
  have HWF := hid (hW3)
  have hRF := hR3
  go_wp2_with fail
  have h9b := put4_heap HWF.out.box (.int .i64 i) (.int .u8 c.toNat) (.int .u8 45) (.int .i64 0)
  have h9d := put4_but w3 w.heap.size (.int .i64 i) (.int .u8 c.toNat) (.int .u8 45) (.int .i64 0)
  unfold put4 at h9b h9d
  revert h9b h9d
  generalize (((w3.setCell ⟨w.heap.size, 0, none⟩ (.int .i64 i)).setCell ⟨w.heap.size, 1, none⟩ (.int .u8 c.toNat)).setCell ⟨w.heap.size, 2, none⟩ (.int .u8 45)).setCell ⟨w.heap.size, 3, none⟩ (.int .i64 0) = w9
  intro h9b h9d
  obtain ⟨r0, r1, r2, r3⟩ := row4 h9b
  exact bodyPost_ret (v := .agg #[(.int .i64 i), (.int .u8 c.toNat), (.int .u8 45), (.int .i64 0)]) (by simp [results, Tryz.results112, go_sem, r0, r1, r2, r3]) rfl ⟨HWF.out.but.next h9d (fun k hk h => by omega), ⟨i, c, 45, 0⟩, i, true, rfl, hRF.but h9d (by omega), ins_no (by rw [hpc]; exact hno)⟩

set_option maxHeartbeats 3200000 in
set_option maxRecDepth 100000 in
theorem xins_a114 (hlt : i < s.size) (hpc : pk s i = 114) (hwf : WfC SC) (hnc : SC.length ≤ 4) (hng : ng ≤ 3) (hnl : nl ≤ 10) (hs : s.size ≤ 2000)
    (hR : XrB w b s i false (.slice a0 SC.length cap0) (.slice a1 ng cap1) v2) (hC : TcV w base (.slice a0 SC.length cap0) (SC.map toX)) (hb : b < base) :
    Calls Tryz.prog 112 #[.pointer (some ⟨b, 0, none⟩), .int .i64 nl] w fun en w' => But (· = b) w w' ∧ ∃ x j bad', en = .returned (itV x) ∧ XrB w' b s j bad' (.slice a0 SC.length cap0) (.slice a1 ng cap1) v2 ∧ InsR s SC ng nl i false x j bad' := by
  have hbw := hR.lt
  have p3 := hR.c3
  have HC := hid (fun (w' : World) (h : But (· = b) w w') (hr : w'.cell? ⟨b, 0, none⟩ = some (.slice a0 SC.length cap0)) => (hC.but h (fun g e cur _ _ hg he => by omega)).tx hr (Nat.lt_of_lt_of_le hbw h.size))
  have HNC := hid hnc
  have HWF0 := hid hwf
  obtain ⟨nc, hncc⟩ : ∃ nc, SC.length = nc := ⟨_, rfl⟩
  rw [hncc] at hR HC hnc
  have HNN := hid hncc
  simp only [hncc]
  clear hncc hC hwf
  have hB0 : But (· = b) w ((w.alloc (.cells #[.int .i64 0, .int .u8 0, .int .u8 0, .int .i64 0] 150)).alloc (.cells #[.int .i64 i, .int .u8 0, .int .u8 45, .int .i64 0] 150)) := (But.alloc _ _ _).trans (But.alloc _ _ _)
  have hR0 := hR.but ((But.alloc (fun _ => False) w (.cells #[.int .i64 0, .int .u8 0, .int .u8 0, .int .i64 0] 150)).trans (But.alloc _ _ (.cells #[.int .i64 i, .int .u8 0, .int .u8 45, .int .i64 0] 150))) (fun h => h)
  have hg0 : ((w.alloc (.cells #[.int .i64 0, .int .u8 0, .int .u8 0, .int .i64 0] 150)).alloc (.cells #[.int .i64 i, .int .u8 0, .int .u8 45, .int .i64 0] 150)).heap[w.heap.size]? = some (.cells #[.int .i64 0, .int .u8 0, .int .u8 0, .int .i64 0] 150) := by
    rw [(But.alloc (fun _ => False) (w.alloc (.cells #[.int .i64 0, .int .u8 0, .int .u8 0, .int .i64 0] 150)) (.cells #[.int .i64 i, .int .u8 0, .int .u8 45, .int .i64 0] 150)).block w.heap.size (lt_of_block (heap_alloc_new w _)) (fun h => h)]
    exact heap_alloc_new w _
  have hg1 : ((w.alloc (.cells #[.int .i64 0, .int .u8 0, .int .u8 0, .int .i64 0] 150)).alloc (.cells #[.int .i64 i, .int .u8 0, .int .u8 45, .int .i64 0] 150)).heap[w.heap.size + 1]? = some (.cells #[.int .i64 i, .int .u8 0, .int .u8 45, .int .i64 0] 150) := heap_alloc_at (by simp) _
  have HW0 := hid (InsW.mk (i := i) hB0 hg0 hg1)
  have HB1 := hid (xtakeByte_any b s i false _ _ v2 _ hs hR0)
  rw [tbP_ok hlt, hpc] at HB1
  clear hB0 hR0 hg0 hg1
  go_enter Tryz.func112, Tryz.ntmps112
  go_wp2_with fail
  refine HB1.out.mono ?_
  rintro en w1 ⟨rfl, hB1, hR1⟩
  have hW1 := HW0.out.next hbw hB1
  obtain ⟨q0, q1, q2, q3⟩ := row4 hW1.item
  obtain ⟨f0, f1, f2, f3⟩ := froz4 hW1.item
  obtain ⟨y0, y1, y2, y3⟩ := row4 hW1.box
  obtain ⟨g0, g1, g2, g3⟩ := froz4 hW1.box
  have hW2 := hW1.set 1 (.int .u8 114) (by omega)
  simp only [if_true, show (1 : Nat) ≠ 0 from by decide, show ¬ (0 : Nat) = 1 from by decide, show ¬ (1 : Nat) = 0 from by decide, show ¬ (1 : Nat) = 2 from by decide, show ¬ (1 : Nat) = 3 from by decide, if_false] at hW2
  have hR2 := hR1.but (But.setB w1 (w.heap.size + 1) 1 (.int .u8 114)) (by omega)
  have HW2 := hid hW2
  clear hW1 hW2 HW0 HB1 p3
  have HWF := hid (HW2.out)
  have hRF := hR2
  go_wp2_with fail
  have h9b := put4_heap HWF.out.box (.int .i64 i) (.int .u8 114) (.int .u8 45) (.int .i64 0)
  have h9d := put4_but (w1.setCell ⟨w.heap.size + 1, 1, none⟩ (.int .u8 114)) w.heap.size (.int .i64 i) (.int .u8 114) (.int .u8 45) (.int .i64 0)
  unfold put4 at h9b h9d
  revert h9b h9d
  generalize ((((w1.setCell ⟨w.heap.size + 1, 1, none⟩ (.int .u8 114)).setCell ⟨w.heap.size, 0, none⟩ (.int .i64 i)).setCell ⟨w.heap.size, 1, none⟩ (.int .u8 114)).setCell ⟨w.heap.size, 2, none⟩ (.int .u8 45)).setCell ⟨w.heap.size, 3, none⟩ (.int .i64 0) = w9
  intro h9b h9d
  obtain ⟨r0, r1, r2, r3⟩ := row4 h9b
  exact bodyPost_ret (v := .agg #[(.int .i64 i), (.int .u8 114), (.int .u8 45), (.int .i64 0)]) (by simp [results, Tryz.results112, go_sem, r0, r1, r2, r3]) rfl ⟨HWF.out.but.next h9d (fun k hk h => by omega), ⟨i, 114, 45, 0⟩, i + 1, false, rfl, hRF.but h9d (by omega), ins_alone hpc (by decide) (by rfl) (by decide)⟩

set_option maxHeartbeats 3200000 in
set_option maxRecDepth 100000 in
theorem xins_a119 (hlt : i < s.size) (hpc : pk s i = 119) (hwf : WfC SC) (hnc : SC.length ≤ 4) (hng : ng ≤ 3) (hnl : nl ≤ 10) (hs : s.size ≤ 2000)
    (hR : XrB w b s i false (.slice a0 SC.length cap0) (.slice a1 ng cap1) v2) (hC : TcV w base (.slice a0 SC.length cap0) (SC.map toX)) (hb : b < base) :
    Calls Tryz.prog 112 #[.pointer (some ⟨b, 0, none⟩), .int .i64 nl] w fun en w' => But (· = b) w w' ∧ ∃ x j bad', en = .returned (itV x) ∧ XrB w' b s j bad' (.slice a0 SC.length cap0) (.slice a1 ng cap1) v2 ∧ InsR s SC ng nl i false x j bad' := by
  have hbw := hR.lt
  have p3 := hR.c3
  have HC := hid (fun (w' : World) (h : But (· = b) w w') (hr : w'.cell? ⟨b, 0, none⟩ = some (.slice a0 SC.length cap0)) => (hC.but h (fun g e cur _ _ hg he => by omega)).tx hr (Nat.lt_of_lt_of_le hbw h.size))
  have HNC := hid hnc
  have HWF0 := hid hwf
  obtain ⟨nc, hncc⟩ : ∃ nc, SC.length = nc := ⟨_, rfl⟩
  rw [hncc] at hR HC hnc
  have HNN := hid hncc
  simp only [hncc]
  clear hncc hC hwf
  have hB0 : But (· = b) w ((w.alloc (.cells #[.int .i64 0, .int .u8 0, .int .u8 0, .int .i64 0] 150)).alloc (.cells #[.int .i64 i, .int .u8 0, .int .u8 45, .int .i64 0] 150)) := (But.alloc _ _ _).trans (But.alloc _ _ _)
  have hR0 := hR.but ((But.alloc (fun _ => False) w (.cells #[.int .i64 0, .int .u8 0, .int .u8 0, .int .i64 0] 150)).trans (But.alloc _ _ (.cells #[.int .i64 i, .int .u8 0, .int .u8 45, .int .i64 0] 150))) (fun h => h)
  have hg0 : ((w.alloc (.cells #[.int .i64 0, .int .u8 0, .int .u8 0, .int .i64 0] 150)).alloc (.cells #[.int .i64 i, .int .u8 0, .int .u8 45, .int .i64 0] 150)).heap[w.heap.size]? = some (.cells #[.int .i64 0, .int .u8 0, .int .u8 0, .int .i64 0] 150) := by
    rw [(But.alloc (fun _ => False) (w.alloc (.cells #[.int .i64 0, .int .u8 0, .int .u8 0, .int .i64 0] 150)) (.cells #[.int .i64 i, .int .u8 0, .int .u8 45, .int .i64 0] 150)).block w.heap.size (lt_of_block (heap_alloc_new w _)) (fun h => h)]
    exact heap_alloc_new w _
  have hg1 : ((w.alloc (.cells #[.int .i64 0, .int .u8 0, .int .u8 0, .int .i64 0] 150)).alloc (.cells #[.int .i64 i, .int .u8 0, .int .u8 45, .int .i64 0] 150)).heap[w.heap.size + 1]? = some (.cells #[.int .i64 i, .int .u8 0, .int .u8 45, .int .i64 0] 150) := heap_alloc_at (by simp) _
  have HW0 := hid (InsW.mk (i := i) hB0 hg0 hg1)
  have HB1 := hid (xtakeByte_any b s i false _ _ v2 _ hs hR0)
  rw [tbP_ok hlt, hpc] at HB1
  clear hB0 hR0 hg0 hg1
  go_enter Tryz.func112, Tryz.ntmps112
  go_wp2_with fail
  refine HB1.out.mono ?_
  rintro en w1 ⟨rfl, hB1, hR1⟩
  have hW1 := HW0.out.next hbw hB1
  obtain ⟨q0, q1, q2, q3⟩ := row4 hW1.item
  obtain ⟨f0, f1, f2, f3⟩ := froz4 hW1.item
  obtain ⟨y0, y1, y2, y3⟩ := row4 hW1.box
  obtain ⟨g0, g1, g2, g3⟩ := froz4 hW1.box
  have hW2 := hW1.set 1 (.int .u8 119) (by omega)
  simp only [if_true, show (1 : Nat) ≠ 0 from by decide, show ¬ (0 : Nat) = 1 from by decide, show ¬ (1 : Nat) = 0 from by decide, show ¬ (1 : Nat) = 2 from by decide, show ¬ (1 : Nat) = 3 from by decide, if_false] at hW2
  have hR2 := hR1.but (But.setB w1 (w.heap.size + 1) 1 (.int .u8 119)) (by omega)
  have HW2 := hid hW2
  clear hW1 hW2 HW0 HB1 p3
  have HWF := hid (HW2.out)
  have hRF := hR2
  go_wp2_with fail
  have h9b := put4_heap HWF.out.box (.int .i64 i) (.int .u8 119) (.int .u8 45) (.int .i64 0)
  have h9d := put4_but (w1.setCell ⟨w.heap.size + 1, 1, none⟩ (.int .u8 119)) w.heap.size (.int .i64 i) (.int .u8 119) (.int .u8 45) (.int .i64 0)
  unfold put4 at h9b h9d
  revert h9b h9d
  generalize ((((w1.setCell ⟨w.heap.size + 1, 1, none⟩ (.int .u8 119)).setCell ⟨w.heap.size, 0, none⟩ (.int .i64 i)).setCell ⟨w.heap.size, 1, none⟩ (.int .u8 119)).setCell ⟨w.heap.size, 2, none⟩ (.int .u8 45)).setCell ⟨w.heap.size, 3, none⟩ (.int .i64 0) = w9
  intro h9b h9d
  obtain ⟨r0, r1, r2, r3⟩ := row4 h9b
  exact bodyPost_ret (v := .agg #[(.int .i64 i), (.int .u8 119), (.int .u8 45), (.int .i64 0)]) (by simp [results, Tryz.results112, go_sem, r0, r1, r2, r3]) rfl ⟨HWF.out.but.next h9d (fun k hk h => by omega), ⟨i, 119, 45, 0⟩, i + 1, false, rfl, hRF.but h9d (by omega), ins_alone hpc (by decide) (by rfl) (by decide)⟩

set_option maxHeartbeats 3200000 in
set_option maxRecDepth 100000 in
theorem xins_a43 (hlt : i < s.size) (hpc : pk s i = 43) (hwf : WfC SC) (hnc : SC.length ≤ 4) (hng : ng ≤ 3) (hnl : nl ≤ 10) (hs : s.size ≤ 2000)
    (hR : XrB w b s i false (.slice a0 SC.length cap0) (.slice a1 ng cap1) v2) (hC : TcV w base (.slice a0 SC.length cap0) (SC.map toX)) (hb : b < base) :
    Calls Tryz.prog 112 #[.pointer (some ⟨b, 0, none⟩), .int .i64 nl] w fun en w' => But (· = b) w w' ∧ ∃ x j bad', en = .returned (itV x) ∧ XrB w' b s j bad' (.slice a0 SC.length cap0) (.slice a1 ng cap1) v2 ∧ InsR s SC ng nl i false x j bad' := by
  have hbw := hR.lt
  have p3 := hR.c3
  have HC := hid (fun (w' : World) (h : But (· = b) w w') (hr : w'.cell? ⟨b, 0, none⟩ = some (.slice a0 SC.length cap0)) => (hC.but h (fun g e cur _ _ hg he => by omega)).tx hr (Nat.lt_of_lt_of_le hbw h.size))
  have HNC := hid hnc
  have HWF0 := hid hwf
  obtain ⟨nc, hncc⟩ : ∃ nc, SC.length = nc := ⟨_, rfl⟩
  rw [hncc] at hR HC hnc
  have HNN := hid hncc
  simp only [hncc]
  clear hncc hC hwf
  have hB0 : But (· = b) w ((w.alloc (.cells #[.int .i64 0, .int .u8 0, .int .u8 0, .int .i64 0] 150)).alloc (.cells #[.int .i64 i, .int .u8 0, .int .u8 45, .int .i64 0] 150)) := (But.alloc _ _ _).trans (But.alloc _ _ _)
  have hR0 := hR.but ((But.alloc (fun _ => False) w (.cells #[.int .i64 0, .int .u8 0, .int .u8 0, .int .i64 0] 150)).trans (But.alloc _ _ (.cells #[.int .i64 i, .int .u8 0, .int .u8 45, .int .i64 0] 150))) (fun h => h)
  have hg0 : ((w.alloc (.cells #[.int .i64 0, .int .u8 0, .int .u8 0, .int .i64 0] 150)).alloc (.cells #[.int .i64 i, .int .u8 0, .int .u8 45, .int .i64 0] 150)).heap[w.heap.size]? = some (.cells #[.int .i64 0, .int .u8 0, .int .u8 0, .int .i64 0] 150) := by
    rw [(But.alloc (fun _ => False) (w.alloc (.cells #[.int .i64 0, .int .u8 0, .int .u8 0, .int .i64 0] 150)) (.cells #[.int .i64 i, .int .u8 0, .int .u8 45, .int .i64 0] 150)).block w.heap.size (lt_of_block (heap_alloc_new w _)) (fun h => h)]
    exact heap_alloc_new w _
  have hg1 : ((w.alloc (.cells #[.int .i64 0, .int .u8 0, .int .u8 0, .int .i64 0] 150)).alloc (.cells #[.int .i64 i, .int .u8 0, .int .u8 45, .int .i64 0] 150)).heap[w.heap.size + 1]? = some (.cells #[.int .i64 i, .int .u8 0, .int .u8 45, .int .i64 0] 150) := heap_alloc_at (by simp) _
  have HW0 := hid (InsW.mk (i := i) hB0 hg0 hg1)
  have HB1 := hid (xtakeByte_any b s i false _ _ v2 _ hs hR0)
  rw [tbP_ok hlt, hpc] at HB1
  clear hB0 hR0 hg0 hg1
  go_enter Tryz.func112, Tryz.ntmps112
  go_wp2_with fail
  refine HB1.out.mono ?_
  rintro en w1 ⟨rfl, hB1, hR1⟩
  have hW1 := HW0.out.next hbw hB1
  obtain ⟨q0, q1, q2, q3⟩ := row4 hW1.item
  obtain ⟨f0, f1, f2, f3⟩ := froz4 hW1.item
  obtain ⟨y0, y1, y2, y3⟩ := row4 hW1.box
  obtain ⟨g0, g1, g2, g3⟩ := froz4 hW1.box
  have hW2 := hW1.set 1 (.int .u8 43) (by omega)
  simp only [if_true, show (1 : Nat) ≠ 0 from by decide, show ¬ (0 : Nat) = 1 from by decide, show ¬ (1 : Nat) = 0 from by decide, show ¬ (1 : Nat) = 2 from by decide, show ¬ (1 : Nat) = 3 from by decide, if_false] at hW2
  have hR2 := hR1.but (But.setB w1 (w.heap.size + 1) 1 (.int .u8 43)) (by omega)
  have HW2 := hid hW2
  clear hW1 hW2 HW0 HB1 p3
  have HWF := hid (HW2.out)
  have hRF := hR2
  go_wp2_with fail
  have h9b := put4_heap HWF.out.box (.int .i64 i) (.int .u8 43) (.int .u8 45) (.int .i64 0)
  have h9d := put4_but (w1.setCell ⟨w.heap.size + 1, 1, none⟩ (.int .u8 43)) w.heap.size (.int .i64 i) (.int .u8 43) (.int .u8 45) (.int .i64 0)
  unfold put4 at h9b h9d
  revert h9b h9d
  generalize ((((w1.setCell ⟨w.heap.size + 1, 1, none⟩ (.int .u8 43)).setCell ⟨w.heap.size, 0, none⟩ (.int .i64 i)).setCell ⟨w.heap.size, 1, none⟩ (.int .u8 43)).setCell ⟨w.heap.size, 2, none⟩ (.int .u8 45)).setCell ⟨w.heap.size, 3, none⟩ (.int .i64 0) = w9
  intro h9b h9d
  obtain ⟨r0, r1, r2, r3⟩ := row4 h9b
  exact bodyPost_ret (v := .agg #[(.int .i64 i), (.int .u8 43), (.int .u8 45), (.int .i64 0)]) (by simp [results, Tryz.results112, go_sem, r0, r1, r2, r3]) rfl ⟨HWF.out.but.next h9d (fun k hk h => by omega), ⟨i, 43, 45, 0⟩, i + 1, false, rfl, hRF.but h9d (by omega), ins_alone hpc (by decide) (by rfl) (by decide)⟩

set_option maxHeartbeats 3200000 in
set_option maxRecDepth 100000 in
theorem xins_a45 (hlt : i < s.size) (hpc : pk s i = 45) (hwf : WfC SC) (hnc : SC.length ≤ 4) (hng : ng ≤ 3) (hnl : nl ≤ 10) (hs : s.size ≤ 2000)
    (hR : XrB w b s i false (.slice a0 SC.length cap0) (.slice a1 ng cap1) v2) (hC : TcV w base (.slice a0 SC.length cap0) (SC.map toX)) (hb : b < base) :
    Calls Tryz.prog 112 #[.pointer (some ⟨b, 0, none⟩), .int .i64 nl] w fun en w' => But (· = b) w w' ∧ ∃ x j bad', en = .returned (itV x) ∧ XrB w' b s j bad' (.slice a0 SC.length cap0) (.slice a1 ng cap1) v2 ∧ InsR s SC ng nl i false x j bad' := by
  have hbw := hR.lt
  have p3 := hR.c3
  have HC := hid (fun (w' : World) (h : But (· = b) w w') (hr : w'.cell? ⟨b, 0, none⟩ = some (.slice a0 SC.length cap0)) => (hC.but h (fun g e cur _ _ hg he => by omega)).tx hr (Nat.lt_of_lt_of_le hbw h.size))
  have HNC := hid hnc
  have HWF0 := hid hwf
  obtain ⟨nc, hncc⟩ : ∃ nc, SC.length = nc := ⟨_, rfl⟩
  rw [hncc] at hR HC hnc
  have HNN := hid hncc
  simp only [hncc]
  clear hncc hC hwf
  have hB0 : But (· = b) w ((w.alloc (.cells #[.int .i64 0, .int .u8 0, .int .u8 0, .int .i64 0] 150)).alloc (.cells #[.int .i64 i, .int .u8 0, .int .u8 45, .int .i64 0] 150)) := (But.alloc _ _ _).trans (But.alloc _ _ _)
  have hR0 := hR.but ((But.alloc (fun _ => False) w (.cells #[.int .i64 0, .int .u8 0, .int .u8 0, .int .i64 0] 150)).trans (But.alloc _ _ (.cells #[.int .i64 i, .int .u8 0, .int .u8 45, .int .i64 0] 150))) (fun h => h)
  have hg0 : ((w.alloc (.cells #[.int .i64 0, .int .u8 0, .int .u8 0, .int .i64 0] 150)).alloc (.cells #[.int .i64 i, .int .u8 0, .int .u8 45, .int .i64 0] 150)).heap[w.heap.size]? = some (.cells #[.int .i64 0, .int .u8 0, .int .u8 0, .int .i64 0] 150) := by
    rw [(But.alloc (fun _ => False) (w.alloc (.cells #[.int .i64 0, .int .u8 0, .int .u8 0, .int .i64 0] 150)) (.cells #[.int .i64 i, .int .u8 0, .int .u8 45, .int .i64 0] 150)).block w.heap.size (lt_of_block (heap_alloc_new w _)) (fun h => h)]
    exact heap_alloc_new w _
  have hg1 : ((w.alloc (.cells #[.int .i64 0, .int .u8 0, .int .u8 0, .int .i64 0] 150)).alloc (.cells #[.int .i64 i, .int .u8 0, .int .u8 45, .int .i64 0] 150)).heap[w.heap.size + 1]? = some (.cells #[.int .i64 i, .int .u8 0, .int .u8 45, .int .i64 0] 150) := heap_alloc_at (by simp) _
  have HW0 := hid (InsW.mk (i := i) hB0 hg0 hg1)
  have HB1 := hid (xtakeByte_any b s i false _ _ v2 _ hs hR0)
  rw [tbP_ok hlt, hpc] at HB1
  clear hB0 hR0 hg0 hg1
  go_enter Tryz.func112, Tryz.ntmps112
  go_wp2_with fail
  refine HB1.out.mono ?_
  rintro en w1 ⟨rfl, hB1, hR1⟩
  have hW1 := HW0.out.next hbw hB1
  obtain ⟨q0, q1, q2, q3⟩ := row4 hW1.item
  obtain ⟨f0, f1, f2, f3⟩ := froz4 hW1.item
  obtain ⟨y0, y1, y2, y3⟩ := row4 hW1.box
  obtain ⟨g0, g1, g2, g3⟩ := froz4 hW1.box
  have hW2 := hW1.set 1 (.int .u8 45) (by omega)
  simp only [if_true, show (1 : Nat) ≠ 0 from by decide, show ¬ (0 : Nat) = 1 from by decide, show ¬ (1 : Nat) = 0 from by decide, show ¬ (1 : Nat) = 2 from by decide, show ¬ (1 : Nat) = 3 from by decide, if_false] at hW2
  have hR2 := hR1.but (But.setB w1 (w.heap.size + 1) 1 (.int .u8 45)) (by omega)
  have HW2 := hid hW2
  clear hW1 hW2 HW0 HB1 p3
  have HWF := hid (HW2.out)
  have hRF := hR2
  go_wp2_with fail
  have h9b := put4_heap HWF.out.box (.int .i64 i) (.int .u8 45) (.int .u8 45) (.int .i64 0)
  have h9d := put4_but (w1.setCell ⟨w.heap.size + 1, 1, none⟩ (.int .u8 45)) w.heap.size (.int .i64 i) (.int .u8 45) (.int .u8 45) (.int .i64 0)
  unfold put4 at h9b h9d
  revert h9b h9d
  generalize ((((w1.setCell ⟨w.heap.size + 1, 1, none⟩ (.int .u8 45)).setCell ⟨w.heap.size, 0, none⟩ (.int .i64 i)).setCell ⟨w.heap.size, 1, none⟩ (.int .u8 45)).setCell ⟨w.heap.size, 2, none⟩ (.int .u8 45)).setCell ⟨w.heap.size, 3, none⟩ (.int .i64 0) = w9
  intro h9b h9d
  obtain ⟨r0, r1, r2, r3⟩ := row4 h9b
  exact bodyPost_ret (v := .agg #[(.int .i64 i), (.int .u8 45), (.int .u8 45), (.int .i64 0)]) (by simp [results, Tryz.results112, go_sem, r0, r1, r2, r3]) rfl ⟨HWF.out.but.next h9d (fun k hk h => by omega), ⟨i, 45, 45, 0⟩, i + 1, false, rfl, hRF.but h9d (by omega), ins_alone hpc (by decide) (by rfl) (by decide)⟩

set_option maxHeartbeats 3200000 in
set_option maxRecDepth 100000 in
theorem xins_a42 (hlt : i < s.size) (hpc : pk s i = 42) (hwf : WfC SC) (hnc : SC.length ≤ 4) (hng : ng ≤ 3) (hnl : nl ≤ 10) (hs : s.size ≤ 2000)
    (hR : XrB w b s i false (.slice a0 SC.length cap0) (.slice a1 ng cap1) v2) (hC : TcV w base (.slice a0 SC.length cap0) (SC.map toX)) (hb : b < base) :
    Calls Tryz.prog 112 #[.pointer (some ⟨b, 0, none⟩), .int .i64 nl] w fun en w' => But (· = b) w w' ∧ ∃ x j bad', en = .returned (itV x) ∧ XrB w' b s j bad' (.slice a0 SC.length cap0) (.slice a1 ng cap1) v2 ∧ InsR s SC ng nl i false x j bad' := by
  have hbw := hR.lt
  have p3 := hR.c3
  have HC := hid (fun (w' : World) (h : But (· = b) w w') (hr : w'.cell? ⟨b, 0, none⟩ = some (.slice a0 SC.length cap0)) => (hC.but h (fun g e cur _ _ hg he => by omega)).tx hr (Nat.lt_of_lt_of_le hbw h.size))
  have HNC := hid hnc
  have HWF0 := hid hwf
  obtain ⟨nc, hncc⟩ : ∃ nc, SC.length = nc := ⟨_, rfl⟩
  rw [hncc] at hR HC hnc
  have HNN := hid hncc
  simp only [hncc]
  clear hncc hC hwf
  have hB0 : But (· = b) w ((w.alloc (.cells #[.int .i64 0, .int .u8 0, .int .u8 0, .int .i64 0] 150)).alloc (.cells #[.int .i64 i, .int .u8 0, .int .u8 45, .int .i64 0] 150)) := (But.alloc _ _ _).trans (But.alloc _ _ _)
  have hR0 := hR.but ((But.alloc (fun _ => False) w (.cells #[.int .i64 0, .int .u8 0, .int .u8 0, .int .i64 0] 150)).trans (But.alloc _ _ (.cells #[.int .i64 i, .int .u8 0, .int .u8 45, .int .i64 0] 150))) (fun h => h)
  have hg0 : ((w.alloc (.cells #[.int .i64 0, .int .u8 0, .int .u8 0, .int .i64 0] 150)).alloc (.cells #[.int .i64 i, .int .u8 0, .int .u8 45, .int .i64 0] 150)).heap[w.heap.size]? = some (.cells #[.int .i64 0, .int .u8 0, .int .u8 0, .int .i64 0] 150) := by
    rw [(But.alloc (fun _ => False) (w.alloc (.cells #[.int .i64 0, .int .u8 0, .int .u8 0, .int .i64 0] 150)) (.cells #[.int .i64 i, .int .u8 0, .int .u8 45, .int .i64 0] 150)).block w.heap.size (lt_of_block (heap_alloc_new w _)) (fun h => h)]
    exact heap_alloc_new w _
  have hg1 : ((w.alloc (.cells #[.int .i64 0, .int .u8 0, .int .u8 0, .int .i64 0] 150)).alloc (.cells #[.int .i64 i, .int .u8 0, .int .u8 45, .int .i64 0] 150)).heap[w.heap.size + 1]? = some (.cells #[.int .i64 i, .int .u8 0, .int .u8 45, .int .i64 0] 150) := heap_alloc_at (by simp) _
  have HW0 := hid (InsW.mk (i := i) hB0 hg0 hg1)
  have HB1 := hid (xtakeByte_any b s i false _ _ v2 _ hs hR0)
  rw [tbP_ok hlt, hpc] at HB1
  clear hB0 hR0 hg0 hg1
  go_enter Tryz.func112, Tryz.ntmps112
  go_wp2_with fail
  refine HB1.out.mono ?_
  rintro en w1 ⟨rfl, hB1, hR1⟩
  have hW1 := HW0.out.next hbw hB1
  obtain ⟨q0, q1, q2, q3⟩ := row4 hW1.item
  obtain ⟨f0, f1, f2, f3⟩ := froz4 hW1.item
  obtain ⟨y0, y1, y2, y3⟩ := row4 hW1.box
  obtain ⟨g0, g1, g2, g3⟩ := froz4 hW1.box
  have hW2 := hW1.set 1 (.int .u8 42) (by omega)
  simp only [if_true, show (1 : Nat) ≠ 0 from by decide, show ¬ (0 : Nat) = 1 from by decide, show ¬ (1 : Nat) = 0 from by decide, show ¬ (1 : Nat) = 2 from by decide, show ¬ (1 : Nat) = 3 from by decide, if_false] at hW2
  have hR2 := hR1.but (But.setB w1 (w.heap.size + 1) 1 (.int .u8 42)) (by omega)
  have HW2 := hid hW2
  clear hW1 hW2 HW0 HB1 p3
  have HWF := hid (HW2.out)
  have hRF := hR2
  go_wp2_with fail
  have h9b := put4_heap HWF.out.box (.int .i64 i) (.int .u8 42) (.int .u8 45) (.int .i64 0)
  have h9d := put4_but (w1.setCell ⟨w.heap.size + 1, 1, none⟩ (.int .u8 42)) w.heap.size (.int .i64 i) (.int .u8 42) (.int .u8 45) (.int .i64 0)
  unfold put4 at h9b h9d
  revert h9b h9d
  generalize ((((w1.setCell ⟨w.heap.size + 1, 1, none⟩ (.int .u8 42)).setCell ⟨w.heap.size, 0, none⟩ (.int .i64 i)).setCell ⟨w.heap.size, 1, none⟩ (.int .u8 42)).setCell ⟨w.heap.size, 2, none⟩ (.int .u8 45)).setCell ⟨w.heap.size, 3, none⟩ (.int .i64 0) = w9
  intro h9b h9d
  obtain ⟨r0, r1, r2, r3⟩ := row4 h9b
  exact bodyPost_ret (v := .agg #[(.int .i64 i), (.int .u8 42), (.int .u8 45), (.int .i64 0)]) (by simp [results, Tryz.results112, go_sem, r0, r1, r2, r3]) rfl ⟨HWF.out.but.next h9d (fun k hk h => by omega), ⟨i, 42, 45, 0⟩, i + 1, false, rfl, hRF.but h9d (by omega), ins_alone hpc (by decide) (by rfl) (by decide)⟩

set_option maxHeartbeats 3200000 in
set_option maxRecDepth 100000 in
theorem xins_a47 (hlt : i < s.size) (hpc : pk s i = 47) (hwf : WfC SC) (hnc : SC.length ≤ 4) (hng : ng ≤ 3) (hnl : nl ≤ 10) (hs : s.size ≤ 2000)
    (hR : XrB w b s i false (.slice a0 SC.length cap0) (.slice a1 ng cap1) v2) (hC : TcV w base (.slice a0 SC.length cap0) (SC.map toX)) (hb : b < base) :
    Calls Tryz.prog 112 #[.pointer (some ⟨b, 0, none⟩), .int .i64 nl] w fun en w' => But (· = b) w w' ∧ ∃ x j bad', en = .returned (itV x) ∧ XrB w' b s j bad' (.slice a0 SC.length cap0) (.slice a1 ng cap1) v2 ∧ InsR s SC ng nl i false x j bad' := by
  have hbw := hR.lt
  have p3 := hR.c3
  have HC := hid (fun (w' : World) (h : But (· = b) w w') (hr : w'.cell? ⟨b, 0, none⟩ = some (.slice a0 SC.length cap0)) => (hC.but h (fun g e cur _ _ hg he => by omega)).tx hr (Nat.lt_of_lt_of_le hbw h.size))
  have HNC := hid hnc
  have HWF0 := hid hwf
  obtain ⟨nc, hncc⟩ : ∃ nc, SC.length = nc := ⟨_, rfl⟩
  rw [hncc] at hR HC hnc
  have HNN := hid hncc
  simp only [hncc]
  clear hncc hC hwf
  have hB0 : But (· = b) w ((w.alloc (.cells #[.int .i64 0, .int .u8 0, .int .u8 0, .int .i64 0] 150)).alloc (.cells #[.int .i64 i, .int .u8 0, .int .u8 45, .int .i64 0] 150)) := (But.alloc _ _ _).trans (But.alloc _ _ _)
  have hR0 := hR.but ((But.alloc (fun _ => False) w (.cells #[.int .i64 0, .int .u8 0, .int .u8 0, .int .i64 0] 150)).trans (But.alloc _ _ (.cells #[.int .i64 i, .int .u8 0, .int .u8 45, .int .i64 0] 150))) (fun h => h)
  have hg0 : ((w.alloc (.cells #[.int .i64 0, .int .u8 0, .int .u8 0, .int .i64 0] 150)).alloc (.cells #[.int .i64 i, .int .u8 0, .int .u8 45, .int .i64 0] 150)).heap[w.heap.size]? = some (.cells #[.int .i64 0, .int .u8 0, .int .u8 0, .int .i64 0] 150) := by
    rw [(But.alloc (fun _ => False) (w.alloc (.cells #[.int .i64 0, .int .u8 0, .int .u8 0, .int .i64 0] 150)) (.cells #[.int .i64 i, .int .u8 0, .int .u8 45, .int .i64 0] 150)).block w.heap.size (lt_of_block (heap_alloc_new w _)) (fun h => h)]
    exact heap_alloc_new w _
  have hg1 : ((w.alloc (.cells #[.int .i64 0, .int .u8 0, .int .u8 0, .int .i64 0] 150)).alloc (.cells #[.int .i64 i, .int .u8 0, .int .u8 45, .int .i64 0] 150)).heap[w.heap.size + 1]? = some (.cells #[.int .i64 i, .int .u8 0, .int .u8 45, .int .i64 0] 150) := heap_alloc_at (by simp) _
  have HW0 := hid (InsW.mk (i := i) hB0 hg0 hg1)
  have HB1 := hid (xtakeByte_any b s i false _ _ v2 _ hs hR0)
  rw [tbP_ok hlt, hpc] at HB1
  clear hB0 hR0 hg0 hg1
  go_enter Tryz.func112, Tryz.ntmps112
  go_wp2_with fail
  refine HB1.out.mono ?_
  rintro en w1 ⟨rfl, hB1, hR1⟩
  have hW1 := HW0.out.next hbw hB1
  obtain ⟨q0, q1, q2, q3⟩ := row4 hW1.item
  obtain ⟨f0, f1, f2, f3⟩ := froz4 hW1.item
  obtain ⟨y0, y1, y2, y3⟩ := row4 hW1.box
  obtain ⟨g0, g1, g2, g3⟩ := froz4 hW1.box
  have hW2 := hW1.set 1 (.int .u8 47) (by omega)
  simp only [if_true, show (1 : Nat) ≠ 0 from by decide, show ¬ (0 : Nat) = 1 from by decide, show ¬ (1 : Nat) = 0 from by decide, show ¬ (1 : Nat) = 2 from by decide, show ¬ (1 : Nat) = 3 from by decide, if_false] at hW2
  have hR2 := hR1.but (But.setB w1 (w.heap.size + 1) 1 (.int .u8 47)) (by omega)
  have HW2 := hid hW2
  clear hW1 hW2 HW0 HB1 p3
  have HWF := hid (HW2.out)
  have hRF := hR2
  go_wp2_with fail
  have h9b := put4_heap HWF.out.box (.int .i64 i) (.int .u8 47) (.int .u8 45) (.int .i64 0)
  have h9d := put4_but (w1.setCell ⟨w.heap.size + 1, 1, none⟩ (.int .u8 47)) w.heap.size (.int .i64 i) (.int .u8 47) (.int .u8 45) (.int .i64 0)
  unfold put4 at h9b h9d
  revert h9b h9d
  generalize ((((w1.setCell ⟨w.heap.size + 1, 1, none⟩ (.int .u8 47)).setCell ⟨w.heap.size, 0, none⟩ (.int .i64 i)).setCell ⟨w.heap.size, 1, none⟩ (.int .u8 47)).setCell ⟨w.heap.size, 2, none⟩ (.int .u8 45)).setCell ⟨w.heap.size, 3, none⟩ (.int .i64 0) = w9
  intro h9b h9d
  obtain ⟨r0, r1, r2, r3⟩ := row4 h9b
  exact bodyPost_ret (v := .agg #[(.int .i64 i), (.int .u8 47), (.int .u8 45), (.int .i64 0)]) (by simp [results, Tryz.results112, go_sem, r0, r1, r2, r3]) rfl ⟨HWF.out.but.next h9d (fun k hk h => by omega), ⟨i, 47, 45, 0⟩, i + 1, false, rfl, hRF.but h9d (by omega), ins_alone hpc (by decide) (by rfl) (by decide)⟩

set_option maxHeartbeats 3200000 in
set_option maxRecDepth 100000 in
theorem xins_a60 (hlt : i < s.size) (hpc : pk s i = 60) (hwf : WfC SC) (hnc : SC.length ≤ 4) (hng : ng ≤ 3) (hnl : nl ≤ 10) (hs : s.size ≤ 2000)
    (hR : XrB w b s i false (.slice a0 SC.length cap0) (.slice a1 ng cap1) v2) (hC : TcV w base (.slice a0 SC.length cap0) (SC.map toX)) (hb : b < base) :
    Calls Tryz.prog 112 #[.pointer (some ⟨b, 0, none⟩), .int .i64 nl] w fun en w' => But (· = b) w w' ∧ ∃ x j bad', en = .returned (itV x) ∧ XrB w' b s j bad' (.slice a0 SC.length cap0) (.slice a1 ng cap1) v2 ∧ InsR s SC ng nl i false x j bad' := by
  have hbw := hR.lt
  have p3 := hR.c3
  have HC := hid (fun (w' : World) (h : But (· = b) w w') (hr : w'.cell? ⟨b, 0, none⟩ = some (.slice a0 SC.length cap0)) => (hC.but h (fun g e cur _ _ hg he => by omega)).tx hr (Nat.lt_of_lt_of_le hbw h.size))
  have HNC := hid hnc
  have HWF0 := hid hwf
  obtain ⟨nc, hncc⟩ : ∃ nc, SC.length = nc := ⟨_, rfl⟩
  rw [hncc] at hR HC hnc
  have HNN := hid hncc
  simp only [hncc]
  clear hncc hC hwf
  have hB0 : But (· = b) w ((w.alloc (.cells #[.int .i64 0, .int .u8 0, .int .u8 0, .int .i64 0] 150)).alloc (.cells #[.int .i64 i, .int .u8 0, .int .u8 45, .int .i64 0] 150)) := (But.alloc _ _ _).trans (But.alloc _ _ _)
  have hR0 := hR.but ((But.alloc (fun _ => False) w (.cells #[.int .i64 0, .int .u8 0, .int .u8 0, .int .i64 0] 150)).trans (But.alloc _ _ (.cells #[.int .i64 i, .int .u8 0, .int .u8 45, .int .i64 0] 150))) (fun h => h)
  have hg0 : ((w.alloc (.cells #[.int .i64 0, .int .u8 0, .int .u8 0, .int .i64 0] 150)).alloc (.cells #[.int .i64 i, .int .u8 0, .int .u8 45, .int .i64 0] 150)).heap[w.heap.size]? = some (.cells #[.int .i64 0, .int .u8 0, .int .u8 0, .int .i64 0] 150) := by
    rw [(But.alloc (fun _ => False) (w.alloc (.cells #[.int .i64 0, .int .u8 0, .int .u8 0, .int .i64 0] 150)) (.cells #[.int .i64 i, .int .u8 0, .int .u8 45, .int .i64 0] 150)).block w.heap.size (lt_of_block (heap_alloc_new w _)) (fun h => h)]
    exact heap_alloc_new w _
  have hg1 : ((w.alloc (.cells #[.int .i64 0, .int .u8 0, .int .u8 0, .int .i64 0] 150)).alloc (.cells #[.int .i64 i, .int .u8 0, .int .u8 45, .int .i64 0] 150)).heap[w.heap.size + 1]? = some (.cells #[.int .i64 i, .int .u8 0, .int .u8 45, .int .i64 0] 150) := heap_alloc_at (by simp) _
  have HW0 := hid (InsW.mk (i := i) hB0 hg0 hg1)
  have HB1 := hid (xtakeByte_any b s i false _ _ v2 _ hs hR0)
  rw [tbP_ok hlt, hpc] at HB1
  clear hB0 hR0 hg0 hg1
  go_enter Tryz.func112, Tryz.ntmps112
  go_wp2_with fail
  refine HB1.out.mono ?_
  rintro en w1 ⟨rfl, hB1, hR1⟩
  have hW1 := HW0.out.next hbw hB1
  obtain ⟨q0, q1, q2, q3⟩ := row4 hW1.item
  obtain ⟨f0, f1, f2, f3⟩ := froz4 hW1.item
  obtain ⟨y0, y1, y2, y3⟩ := row4 hW1.box
  obtain ⟨g0, g1, g2, g3⟩ := froz4 hW1.box
  have hW2 := hW1.set 1 (.int .u8 60) (by omega)
  simp only [if_true, show (1 : Nat) ≠ 0 from by decide, show ¬ (0 : Nat) = 1 from by decide, show ¬ (1 : Nat) = 0 from by decide, show ¬ (1 : Nat) = 2 from by decide, show ¬ (1 : Nat) = 3 from by decide, if_false] at hW2
  have hR2 := hR1.but (But.setB w1 (w.heap.size + 1) 1 (.int .u8 60)) (by omega)
  have HW2 := hid hW2
  clear hW1 hW2 HW0 HB1 p3
  have HWF := hid (HW2.out)
  have hRF := hR2
  go_wp2_with fail
  have h9b := put4_heap HWF.out.box (.int .i64 i) (.int .u8 60) (.int .u8 45) (.int .i64 0)
  have h9d := put4_but (w1.setCell ⟨w.heap.size + 1, 1, none⟩ (.int .u8 60)) w.heap.size (.int .i64 i) (.int .u8 60) (.int .u8 45) (.int .i64 0)
  unfold put4 at h9b h9d
  revert h9b h9d
  generalize ((((w1.setCell ⟨w.heap.size + 1, 1, none⟩ (.int .u8 60)).setCell ⟨w.heap.size, 0, none⟩ (.int .i64 i)).setCell ⟨w.heap.size, 1, none⟩ (.int .u8 60)).setCell ⟨w.heap.size, 2, none⟩ (.int .u8 45)).setCell ⟨w.heap.size, 3, none⟩ (.int .i64 0) = w9
  intro h9b h9d
  obtain ⟨r0, r1, r2, r3⟩ := row4 h9b
  exact bodyPost_ret (v := .agg #[(.int .i64 i), (.int .u8 60), (.int .u8 45), (.int .i64 0)]) (by simp [results, Tryz.results112, go_sem, r0, r1, r2, r3]) rfl ⟨HWF.out.but.next h9d (fun k hk h => by omega), ⟨i, 60, 45, 0⟩, i + 1, false, rfl, hRF.but h9d (by omega), ins_alone hpc (by decide) (by rfl) (by decide)⟩

set_option maxHeartbeats 3200000 in
set_option maxRecDepth 100000 in
theorem xins_a61 (hlt : i < s.size) (hpc : pk s i = 61) (hwf : WfC SC) (hnc : SC.length ≤ 4) (hng : ng ≤ 3) (hnl : nl ≤ 10) (hs : s.size ≤ 2000)
    (hR : XrB w b s i false (.slice a0 SC.length cap0) (.slice a1 ng cap1) v2) (hC : TcV w base (.slice a0 SC.length cap0) (SC.map toX)) (hb : b < base) :
    Calls Tryz.prog 112 #[.pointer (some ⟨b, 0, none⟩), .int .i64 nl] w fun en w' => But (· = b) w w' ∧ ∃ x j bad', en = .returned (itV x) ∧ XrB w' b s j bad' (.slice a0 SC.length cap0) (.slice a1 ng cap1) v2 ∧ InsR s SC ng nl i false x j bad' := by
  have hbw := hR.lt
  have p3 := hR.c3
  have HC := hid (fun (w' : World) (h : But (· = b) w w') (hr : w'.cell? ⟨b, 0, none⟩ = some (.slice a0 SC.length cap0)) => (hC.but h (fun g e cur _ _ hg he => by omega)).tx hr (Nat.lt_of_lt_of_le hbw h.size))
  have HNC := hid hnc
  have HWF0 := hid hwf
  obtain ⟨nc, hncc⟩ : ∃ nc, SC.length = nc := ⟨_, rfl⟩
  rw [hncc] at hR HC hnc
  have HNN := hid hncc
  simp only [hncc]
  clear hncc hC hwf
  have hB0 : But (· = b) w ((w.alloc (.cells #[.int .i64 0, .int .u8 0, .int .u8 0, .int .i64 0] 150)).alloc (.cells #[.int .i64 i, .int .u8 0, .int .u8 45, .int .i64 0] 150)) := (But.alloc _ _ _).trans (But.alloc _ _ _)
  have hR0 := hR.but ((But.alloc (fun _ => False) w (.cells #[.int .i64 0, .int .u8 0, .int .u8 0, .int .i64 0] 150)).trans (But.alloc _ _ (.cells #[.int .i64 i, .int .u8 0, .int .u8 45, .int .i64 0] 150))) (fun h => h)
  have hg0 : ((w.alloc (.cells #[.int .i64 0, .int .u8 0, .int .u8 0, .int .i64 0] 150)).alloc (.cells #[.int .i64 i, .int .u8 0, .int .u8 45, .int .i64 0] 150)).heap[w.heap.size]? = some (.cells #[.int .i64 0, .int .u8 0, .int .u8 0, .int .i64 0] 150) := by
    rw [(But.alloc (fun _ => False) (w.alloc (.cells #[.int .i64 0, .int .u8 0, .int .u8 0, .int .i64 0] 150)) (.cells #[.int .i64 i, .int .u8 0, .int .u8 45, .int .i64 0] 150)).block w.heap.size (lt_of_block (heap_alloc_new w _)) (fun h => h)]
    exact heap_alloc_new w _
  have hg1 : ((w.alloc (.cells #[.int .i64 0, .int .u8 0, .int .u8 0, .int .i64 0] 150)).alloc (.cells #[.int .i64 i, .int .u8 0, .int .u8 45, .int .i64 0] 150)).heap[w.heap.size + 1]? = some (.cells #[.int .i64 i, .int .u8 0, .int .u8 45, .int .i64 0] 150) := heap_alloc_at (by simp) _
  have HW0 := hid (InsW.mk (i := i) hB0 hg0 hg1)
  have HB1 := hid (xtakeByte_any b s i false _ _ v2 _ hs hR0)
  rw [tbP_ok hlt, hpc] at HB1
  clear hB0 hR0 hg0 hg1
  go_enter Tryz.func112, Tryz.ntmps112
  go_wp2_with fail
  refine HB1.out.mono ?_
  rintro en w1 ⟨rfl, hB1, hR1⟩
  have hW1 := HW0.out.next hbw hB1
  obtain ⟨q0, q1, q2, q3⟩ := row4 hW1.item
  obtain ⟨f0, f1, f2, f3⟩ := froz4 hW1.item
  obtain ⟨y0, y1, y2, y3⟩ := row4 hW1.box
  obtain ⟨g0, g1, g2, g3⟩ := froz4 hW1.box
  have hW2 := hW1.set 1 (.int .u8 61) (by omega)
  simp only [if_true, show (1 : Nat) ≠ 0 from by decide, show ¬ (0 : Nat) = 1 from by decide, show ¬ (1 : Nat) = 0 from by decide, show ¬ (1 : Nat) = 2 from by decide, show ¬ (1 : Nat) = 3 from by decide, if_false] at hW2
  have hR2 := hR1.but (But.setB w1 (w.heap.size + 1) 1 (.int .u8 61)) (by omega)
  have HW2 := hid hW2
  clear hW1 hW2 HW0 HB1 p3
  have HWF := hid (HW2.out)
  have hRF := hR2
  go_wp2_with fail
  have h9b := put4_heap HWF.out.box (.int .i64 i) (.int .u8 61) (.int .u8 45) (.int .i64 0)
  have h9d := put4_but (w1.setCell ⟨w.heap.size + 1, 1, none⟩ (.int .u8 61)) w.heap.size (.int .i64 i) (.int .u8 61) (.int .u8 45) (.int .i64 0)
  unfold put4 at h9b h9d
  revert h9b h9d
  generalize ((((w1.setCell ⟨w.heap.size + 1, 1, none⟩ (.int .u8 61)).setCell ⟨w.heap.size, 0, none⟩ (.int .i64 i)).setCell ⟨w.heap.size, 1, none⟩ (.int .u8 61)).setCell ⟨w.heap.size, 2, none⟩ (.int .u8 45)).setCell ⟨w.heap.size, 3, none⟩ (.int .i64 0) = w9
  intro h9b h9d
  obtain ⟨r0, r1, r2, r3⟩ := row4 h9b
  exact bodyPost_ret (v := .agg #[(.int .i64 i), (.int .u8 61), (.int .u8 45), (.int .i64 0)]) (by simp [results, Tryz.results112, go_sem, r0, r1, r2, r3]) rfl ⟨HWF.out.but.next h9d (fun k hk h => by omega), ⟨i, 61, 45, 0⟩, i + 1, false, rfl, hRF.but h9d (by omega), ins_alone hpc (by decide) (by rfl) (by decide)⟩

set_option maxHeartbeats 3200000 in
set_option maxRecDepth 100000 in
theorem xins_a101 (hlt : i < s.size) (hpc : pk s i = 101) (hwf : WfC SC) (hnc : SC.length ≤ 4) (hng : ng ≤ 3) (hnl : nl ≤ 10) (hs : s.size ≤ 2000)
    (hR : XrB w b s i false (.slice a0 SC.length cap0) (.slice a1 ng cap1) v2) (hC : TcV w base (.slice a0 SC.length cap0) (SC.map toX)) (hb : b < base) :
    Calls Tryz.prog 112 #[.pointer (some ⟨b, 0, none⟩), .int .i64 nl] w fun en w' => But (· = b) w w' ∧ ∃ x j bad', en = .returned (itV x) ∧ XrB w' b s j bad' (.slice a0 SC.length cap0) (.slice a1 ng cap1) v2 ∧ InsR s SC ng nl i false x j bad' := by
  have hbw := hR.lt
  have p3 := hR.c3
  have HC := hid (fun (w' : World) (h : But (· = b) w w') (hr : w'.cell? ⟨b, 0, none⟩ = some (.slice a0 SC.length cap0)) => (hC.but h (fun g e cur _ _ hg he => by omega)).tx hr (Nat.lt_of_lt_of_le hbw h.size))
  have HNC := hid hnc
  have HWF0 := hid hwf
  obtain ⟨nc, hncc⟩ : ∃ nc, SC.length = nc := ⟨_, rfl⟩
  rw [hncc] at hR HC hnc
  have HNN := hid hncc
  simp only [hncc]
  clear hncc hC hwf
  have hB0 : But (· = b) w ((w.alloc (.cells #[.int .i64 0, .int .u8 0, .int .u8 0, .int .i64 0] 150)).alloc (.cells #[.int .i64 i, .int .u8 0, .int .u8 45, .int .i64 0] 150)) := (But.alloc _ _ _).trans (But.alloc _ _ _)
  have hR0 := hR.but ((But.alloc (fun _ => False) w (.cells #[.int .i64 0, .int .u8 0, .int .u8 0, .int .i64 0] 150)).trans (But.alloc _ _ (.cells #[.int .i64 i, .int .u8 0, .int .u8 45, .int .i64 0] 150))) (fun h => h)
  have hg0 : ((w.alloc (.cells #[.int .i64 0, .int .u8 0, .int .u8 0, .int .i64 0] 150)).alloc (.cells #[.int .i64 i, .int .u8 0, .int .u8 45, .int .i64 0] 150)).heap[w.heap.size]? = some (.cells #[.int .i64 0, .int .u8 0, .int .u8 0, .int .i64 0] 150) := by
    rw [(But.alloc (fun _ => False) (w.alloc (.cells #[.int .i64 0, .int .u8 0, .int .u8 0, .int .i64 0] 150)) (.cells #[.int .i64 i, .int .u8 0, .int .u8 45, .int .i64 0] 150)).block w.heap.size (lt_of_block (heap_alloc_new w _)) (fun h => h)]
    exact heap_alloc_new w _
  have hg1 : ((w.alloc (.cells #[.int .i64 0, .int .u8 0, .int .u8 0, .int .i64 0] 150)).alloc (.cells #[.int .i64 i, .int .u8 0, .int .u8 45, .int .i64 0] 150)).heap[w.heap.size + 1]? = some (.cells #[.int .i64 i, .int .u8 0, .int .u8 45, .int .i64 0] 150) := heap_alloc_at (by simp) _
  have HW0 := hid (InsW.mk (i := i) hB0 hg0 hg1)
  have HB1 := hid (xtakeByte_any b s i false _ _ v2 _ hs hR0)
  rw [tbP_ok hlt, hpc] at HB1
  clear hB0 hR0 hg0 hg1
  go_enter Tryz.func112, Tryz.ntmps112
  go_wp2_with fail
  refine HB1.out.mono ?_
  rintro en w1 ⟨rfl, hB1, hR1⟩
  have hW1 := HW0.out.next hbw hB1
  obtain ⟨q0, q1, q2, q3⟩ := row4 hW1.item
  obtain ⟨f0, f1, f2, f3⟩ := froz4 hW1.item
  obtain ⟨y0, y1, y2, y3⟩ := row4 hW1.box
  obtain ⟨g0, g1, g2, g3⟩ := froz4 hW1.box
  have hW2 := hW1.set 1 (.int .u8 101) (by omega)
  simp only [if_true, show (1 : Nat) ≠ 0 from by decide, show ¬ (0 : Nat) = 1 from by decide, show ¬ (1 : Nat) = 0 from by decide, show ¬ (1 : Nat) = 2 from by decide, show ¬ (1 : Nat) = 3 from by decide, if_false] at hW2
  have hR2 := hR1.but (But.setB w1 (w.heap.size + 1) 1 (.int .u8 101)) (by omega)
  have HW2 := hid hW2
  clear hW1 hW2 HW0 HB1 p3
  have HWF := hid (HW2.out)
  have hRF := hR2
  go_wp2_with fail
  have h9b := put4_heap HWF.out.box (.int .i64 i) (.int .u8 101) (.int .u8 45) (.int .i64 0)
  have h9d := put4_but (w1.setCell ⟨w.heap.size + 1, 1, none⟩ (.int .u8 101)) w.heap.size (.int .i64 i) (.int .u8 101) (.int .u8 45) (.int .i64 0)
  unfold put4 at h9b h9d
  revert h9b h9d
  generalize ((((w1.setCell ⟨w.heap.size + 1, 1, none⟩ (.int .u8 101)).setCell ⟨w.heap.size, 0, none⟩ (.int .i64 i)).setCell ⟨w.heap.size, 1, none⟩ (.int .u8 101)).setCell ⟨w.heap.size, 2, none⟩ (.int .u8 45)).setCell ⟨w.heap.size, 3, none⟩ (.int .i64 0) = w9
  intro h9b h9d
  obtain ⟨r0, r1, r2, r3⟩ := row4 h9b
  exact bodyPost_ret (v := .agg #[(.int .i64 i), (.int .u8 101), (.int .u8 45), (.int .i64 0)]) (by simp [results, Tryz.results112, go_sem, r0, r1, r2, r3]) rfl ⟨HWF.out.but.next h9d (fun k hk h => by omega), ⟨i, 101, 45, 0⟩, i + 1, false, rfl, hRF.but h9d (by omega), ins_alone hpc (by decide) (by rfl) (by decide)⟩

set_option maxHeartbeats 3200000 in
set_option maxRecDepth 100000 in
theorem xins_a122 (hlt : i < s.size) (hpc : pk s i = 122) (hwf : WfC SC) (hnc : SC.length ≤ 4) (hng : ng ≤ 3) (hnl : nl ≤ 10) (hs : s.size ≤ 2000)
    (hR : XrB w b s i false (.slice a0 SC.length cap0) (.slice a1 ng cap1) v2) (hC : TcV w base (.slice a0 SC.length cap0) (SC.map toX)) (hb : b < base) :
    Calls Tryz.prog 112 #[.pointer (some ⟨b, 0, none⟩), .int .i64 nl] w fun en w' => But (· = b) w w' ∧ ∃ x j bad', en = .returned (itV x) ∧ XrB w' b s j bad' (.slice a0 SC.length cap0) (.slice a1 ng cap1) v2 ∧ InsR s SC ng nl i false x j bad' := by
  have hbw := hR.lt
  have p3 := hR.c3
  have HC := hid (fun (w' : World) (h : But (· = b) w w') (hr : w'.cell? ⟨b, 0, none⟩ = some (.slice a0 SC.length cap0)) => (hC.but h (fun g e cur _ _ hg he => by omega)).tx hr (Nat.lt_of_lt_of_le hbw h.size))
  have HNC := hid hnc
  have HWF0 := hid hwf
  obtain ⟨nc, hncc⟩ : ∃ nc, SC.length = nc := ⟨_, rfl⟩
  rw [hncc] at hR HC hnc
  have HNN := hid hncc
  simp only [hncc]
  clear hncc hC hwf
  have hB0 : But (· = b) w ((w.alloc (.cells #[.int .i64 0, .int .u8 0, .int .u8 0, .int .i64 0] 150)).alloc (.cells #[.int .i64 i, .int .u8 0, .int .u8 45, .int .i64 0] 150)) := (But.alloc _ _ _).trans (But.alloc _ _ _)
  have hR0 := hR.but ((But.alloc (fun _ => False) w (.cells #[.int .i64 0, .int .u8 0, .int .u8 0, .int .i64 0] 150)).trans (But.alloc _ _ (.cells #[.int .i64 i, .int .u8 0, .int .u8 45, .int .i64 0] 150))) (fun h => h)
  have hg0 : ((w.alloc (.cells #[.int .i64 0, .int .u8 0, .int .u8 0, .int .i64 0] 150)).alloc (.cells #[.int .i64 i, .int .u8 0, .int .u8 45, .int .i64 0] 150)).heap[w.heap.size]? = some (.cells #[.int .i64 0, .int .u8 0, .int .u8 0, .int .i64 0] 150) := by
    rw [(But.alloc (fun _ => False) (w.alloc (.cells #[.int .i64 0, .int .u8 0, .int .u8 0, .int .i64 0] 150)) (.cells #[.int .i64 i, .int .u8 0, .int .u8 45, .int .i64 0] 150)).block w.heap.size (lt_of_block (heap_alloc_new w _)) (fun h => h)]
    exact heap_alloc_new w _
  have hg1 : ((w.alloc (.cells #[.int .i64 0, .int .u8 0, .int .u8 0, .int .i64 0] 150)).alloc (.cells #[.int .i64 i, .int .u8 0, .int .u8 45, .int .i64 0] 150)).heap[w.heap.size + 1]? = some (.cells #[.int .i64 i, .int .u8 0, .int .u8 45, .int .i64 0] 150) := heap_alloc_at (by simp) _
  have HW0 := hid (InsW.mk (i := i) hB0 hg0 hg1)
  have HB1 := hid (xtakeByte_any b s i false _ _ v2 _ hs hR0)
  rw [tbP_ok hlt, hpc] at HB1
  clear hB0 hR0 hg0 hg1
  go_enter Tryz.func112, Tryz.ntmps112
  go_wp2_with fail
  refine HB1.out.mono ?_
  rintro en w1 ⟨rfl, hB1, hR1⟩
  have hW1 := HW0.out.next hbw hB1
  obtain ⟨q0, q1, q2, q3⟩ := row4 hW1.item
  obtain ⟨f0, f1, f2, f3⟩ := froz4 hW1.item
  obtain ⟨y0, y1, y2, y3⟩ := row4 hW1.box
  obtain ⟨g0, g1, g2, g3⟩ := froz4 hW1.box
  have hW2 := hW1.set 1 (.int .u8 122) (by omega)
  simp only [if_true, show (1 : Nat) ≠ 0 from by decide, show ¬ (0 : Nat) = 1 from by decide, show ¬ (1 : Nat) = 0 from by decide, show ¬ (1 : Nat) = 2 from by decide, show ¬ (1 : Nat) = 3 from by decide, if_false] at hW2
  have hR2 := hR1.but (But.setB w1 (w.heap.size + 1) 1 (.int .u8 122)) (by omega)
  have HW2 := hid hW2
  clear hW1 hW2 HW0 HB1 p3
  have HWF := hid (HW2.out)
  have hRF := hR2
  go_wp2_with fail
  have h9b := put4_heap HWF.out.box (.int .i64 i) (.int .u8 122) (.int .u8 45) (.int .i64 0)
  have h9d := put4_but (w1.setCell ⟨w.heap.size + 1, 1, none⟩ (.int .u8 122)) w.heap.size (.int .i64 i) (.int .u8 122) (.int .u8 45) (.int .i64 0)
  unfold put4 at h9b h9d
  revert h9b h9d
  generalize ((((w1.setCell ⟨w.heap.size + 1, 1, none⟩ (.int .u8 122)).setCell ⟨w.heap.size, 0, none⟩ (.int .i64 i)).setCell ⟨w.heap.size, 1, none⟩ (.int .u8 122)).setCell ⟨w.heap.size, 2, none⟩ (.int .u8 45)).setCell ⟨w.heap.size, 3, none⟩ (.int .i64 0) = w9
  intro h9b h9d
  obtain ⟨r0, r1, r2, r3⟩ := row4 h9b
  exact bodyPost_ret (v := .agg #[(.int .i64 i), (.int .u8 122), (.int .u8 45), (.int .i64 0)]) (by simp [results, Tryz.results112, go_sem, r0, r1, r2, r3]) rfl ⟨HWF.out.but.next h9d (fun k hk h => by omega), ⟨i, 122, 45, 0⟩, i + 1, false, rfl, hRF.but h9d (by omega), ins_alone hpc (by decide) (by rfl) (by decide)⟩

set_option maxHeartbeats 3200000 in
set_option maxRecDepth 100000 in
theorem xins_a100 (hlt : i < s.size) (hpc : pk s i = 100) (hwf : WfC SC) (hnc : SC.length ≤ 4) (hng : ng ≤ 3) (hnl : nl ≤ 10) (hs : s.size ≤ 2000)
    (hR : XrB w b s i false (.slice a0 SC.length cap0) (.slice a1 ng cap1) v2) (hC : TcV w base (.slice a0 SC.length cap0) (SC.map toX)) (hb : b < base) :
    Calls Tryz.prog 112 #[.pointer (some ⟨b, 0, none⟩), .int .i64 nl] w fun en w' => But (· = b) w w' ∧ ∃ x j bad', en = .returned (itV x) ∧ XrB w' b s j bad' (.slice a0 SC.length cap0) (.slice a1 ng cap1) v2 ∧ InsR s SC ng nl i false x j bad' := by
  have hbw := hR.lt
  have p3 := hR.c3
  have HC := hid (fun (w' : World) (h : But (· = b) w w') (hr : w'.cell? ⟨b, 0, none⟩ = some (.slice a0 SC.length cap0)) => (hC.but h (fun g e cur _ _ hg he => by omega)).tx hr (Nat.lt_of_lt_of_le hbw h.size))
  have HNC := hid hnc
  have HWF0 := hid hwf
  obtain ⟨nc, hncc⟩ : ∃ nc, SC.length = nc := ⟨_, rfl⟩
  rw [hncc] at hR HC hnc
  have HNN := hid hncc
  simp only [hncc]
  clear hncc hC hwf
  have hB0 : But (· = b) w ((w.alloc (.cells #[.int .i64 0, .int .u8 0, .int .u8 0, .int .i64 0] 150)).alloc (.cells #[.int .i64 i, .int .u8 0, .int .u8 45, .int .i64 0] 150)) := (But.alloc _ _ _).trans (But.alloc _ _ _)
  have hR0 := hR.but ((But.alloc (fun _ => False) w (.cells #[.int .i64 0, .int .u8 0, .int .u8 0, .int .i64 0] 150)).trans (But.alloc _ _ (.cells #[.int .i64 i, .int .u8 0, .int .u8 45, .int .i64 0] 150))) (fun h => h)
  have hg0 : ((w.alloc (.cells #[.int .i64 0, .int .u8 0, .int .u8 0, .int .i64 0] 150)).alloc (.cells #[.int .i64 i, .int .u8 0, .int .u8 45, .int .i64 0] 150)).heap[w.heap.size]? = some (.cells #[.int .i64 0, .int .u8 0, .int .u8 0, .int .i64 0] 150) := by
    rw [(But.alloc (fun _ => False) (w.alloc (.cells #[.int .i64 0, .int .u8 0, .int .u8 0, .int .i64 0] 150)) (.cells #[.int .i64 i, .int .u8 0, .int .u8 45, .int .i64 0] 150)).block w.heap.size (lt_of_block (heap_alloc_new w _)) (fun h => h)]
    exact heap_alloc_new w _
  have hg1 : ((w.alloc (.cells #[.int .i64 0, .int .u8 0, .int .u8 0, .int .i64 0] 150)).alloc (.cells #[.int .i64 i, .int .u8 0, .int .u8 45, .int .i64 0] 150)).heap[w.heap.size + 1]? = some (.cells #[.int .i64 i, .int .u8 0, .int .u8 45, .int .i64 0] 150) := heap_alloc_at (by simp) _
  have HW0 := hid (InsW.mk (i := i) hB0 hg0 hg1)
  have HB1 := hid (xtakeByte_any b s i false _ _ v2 _ hs hR0)
  rw [tbP_ok hlt, hpc] at HB1
  clear hB0 hR0 hg0 hg1
  go_enter Tryz.func112, Tryz.ntmps112
  go_wp2_with fail
  refine HB1.out.mono ?_
  rintro en w1 ⟨rfl, hB1, hR1⟩
  have hW1 := HW0.out.next hbw hB1
  obtain ⟨q0, q1, q2, q3⟩ := row4 hW1.item
  obtain ⟨f0, f1, f2, f3⟩ := froz4 hW1.item
  obtain ⟨y0, y1, y2, y3⟩ := row4 hW1.box
  obtain ⟨g0, g1, g2, g3⟩ := froz4 hW1.box
  have hW2 := hW1.set 1 (.int .u8 100) (by omega)
  simp only [if_true, show (1 : Nat) ≠ 0 from by decide, show ¬ (0 : Nat) = 1 from by decide, show ¬ (1 : Nat) = 0 from by decide, show ¬ (1 : Nat) = 2 from by decide, show ¬ (1 : Nat) = 3 from by decide, if_false] at hW2
  have hR2 := hR1.but (But.setB w1 (w.heap.size + 1) 1 (.int .u8 100)) (by omega)
  have HW2 := hid hW2
  clear hW1 hW2 HW0 HB1 p3
  have HWF := hid (HW2.out)
  have hRF := hR2
  go_wp2_with fail
  have h9b := put4_heap HWF.out.box (.int .i64 i) (.int .u8 100) (.int .u8 45) (.int .i64 0)
  have h9d := put4_but (w1.setCell ⟨w.heap.size + 1, 1, none⟩ (.int .u8 100)) w.heap.size (.int .i64 i) (.int .u8 100) (.int .u8 45) (.int .i64 0)
  unfold put4 at h9b h9d
  revert h9b h9d
  generalize ((((w1.setCell ⟨w.heap.size + 1, 1, none⟩ (.int .u8 100)).setCell ⟨w.heap.size, 0, none⟩ (.int .i64 i)).setCell ⟨w.heap.size, 1, none⟩ (.int .u8 100)).setCell ⟨w.heap.size, 2, none⟩ (.int .u8 45)).setCell ⟨w.heap.size, 3, none⟩ (.int .i64 0) = w9
  intro h9b h9d
  obtain ⟨r0, r1, r2, r3⟩ := row4 h9b
  exact bodyPost_ret (v := .agg #[(.int .i64 i), (.int .u8 100), (.int .u8 45), (.int .i64 0)]) (by simp [results, Tryz.results112, go_sem, r0, r1, r2, r3]) rfl ⟨HWF.out.but.next h9d (fun k hk h => by omega), ⟨i, 100, 45, 0⟩, i + 1, false, rfl, hRF.but h9d (by omega), ins_alone hpc (by decide) (by rfl) (by decide)⟩

set_option maxHeartbeats 3200000 in
set_option maxRecDepth 100000 in
theorem xins_a116 (hlt : i < s.size) (hpc : pk s i = 116) (hwf : WfC SC) (hnc : SC.length ≤ 4) (hng : ng ≤ 3) (hnl : nl ≤ 10) (hs : s.size ≤ 2000)
    (hR : XrB w b s i false (.slice a0 SC.length cap0) (.slice a1 ng cap1) v2) (hC : TcV w base (.slice a0 SC.length cap0) (SC.map toX)) (hb : b < base) :
    Calls Tryz.prog 112 #[.pointer (some ⟨b, 0, none⟩), .int .i64 nl] w fun en w' => But (· = b) w w' ∧ ∃ x j bad', en = .returned (itV x) ∧ XrB w' b s j bad' (.slice a0 SC.length cap0) (.slice a1 ng cap1) v2 ∧ InsR s SC ng nl i false x j bad' := by
  have hbw := hR.lt
  have p3 := hR.c3
  have HC := hid (fun (w' : World) (h : But (· = b) w w') (hr : w'.cell? ⟨b, 0, none⟩ = some (.slice a0 SC.length cap0)) => (hC.but h (fun g e cur _ _ hg he => by omega)).tx hr (Nat.lt_of_lt_of_le hbw h.size))
  have HNC := hid hnc
  have HWF0 := hid hwf
  obtain ⟨nc, hncc⟩ : ∃ nc, SC.length = nc := ⟨_, rfl⟩
  rw [hncc] at hR HC hnc
  have HNN := hid hncc
  simp only [hncc]
  clear hncc hC hwf
  have hB0 : But (· = b) w ((w.alloc (.cells #[.int .i64 0, .int .u8 0, .int .u8 0, .int .i64 0] 150)).alloc (.cells #[.int .i64 i, .int .u8 0, .int .u8 45, .int .i64 0] 150)) := (But.alloc _ _ _).trans (But.alloc _ _ _)
  have hR0 := hR.but ((But.alloc (fun _ => False) w (.cells #[.int .i64 0, .int .u8 0, .int .u8 0, .int .i64 0] 150)).trans (But.alloc _ _ (.cells #[.int .i64 i, .int .u8 0, .int .u8 45, .int .i64 0] 150))) (fun h => h)
  have hg0 : ((w.alloc (.cells #[.int .i64 0, .int .u8 0, .int .u8 0, .int .i64 0] 150)).alloc (.cells #[.int .i64 i, .int .u8 0, .int .u8 45, .int .i64 0] 150)).heap[w.heap.size]? = some (.cells #[.int .i64 0, .int .u8 0, .int .u8 0, .int .i64 0] 150) := by
    rw [(But.alloc (fun _ => False) (w.alloc (.cells #[.int .i64 0, .int .u8 0, .int .u8 0, .int .i64 0] 150)) (.cells #[.int .i64 i, .int .u8 0, .int .u8 45, .int .i64 0] 150)).block w.heap.size (lt_of_block (heap_alloc_new w _)) (fun h => h)]
    exact heap_alloc_new w _
  have hg1 : ((w.alloc (.cells #[.int .i64 0, .int .u8 0, .int .u8 0, .int .i64 0] 150)).alloc (.cells #[.int .i64 i, .int .u8 0, .int .u8 45, .int .i64 0] 150)).heap[w.heap.size + 1]? = some (.cells #[.int .i64 i, .int .u8 0, .int .u8 45, .int .i64 0] 150) := heap_alloc_at (by simp) _
  have HW0 := hid (InsW.mk (i := i) hB0 hg0 hg1)
  have HB1 := hid (xtakeByte_any b s i false _ _ v2 _ hs hR0)
  rw [tbP_ok hlt, hpc] at HB1
  clear hB0 hR0 hg0 hg1
  go_enter Tryz.func112, Tryz.ntmps112
  go_wp2_with fail
  refine HB1.out.mono ?_
  rintro en w1 ⟨rfl, hB1, hR1⟩
  have hW1 := HW0.out.next hbw hB1
  obtain ⟨q0, q1, q2, q3⟩ := row4 hW1.item
  obtain ⟨f0, f1, f2, f3⟩ := froz4 hW1.item
  obtain ⟨y0, y1, y2, y3⟩ := row4 hW1.box
  obtain ⟨g0, g1, g2, g3⟩ := froz4 hW1.box
  have hW2 := hW1.set 1 (.int .u8 116) (by omega)
  simp only [if_true, show (1 : Nat) ≠ 0 from by decide, show ¬ (0 : Nat) = 1 from by decide, show ¬ (1 : Nat) = 0 from by decide, show ¬ (1 : Nat) = 2 from by decide, show ¬ (1 : Nat) = 3 from by decide, if_false] at hW2
  have hR2 := hR1.but (But.setB w1 (w.heap.size + 1) 1 (.int .u8 116)) (by omega)
  have HW2 := hid hW2
  clear hW1 hW2 HW0 HB1 p3
  have HWF := hid (HW2.out)
  have hRF := hR2
  go_wp2_with fail
  have h9b := put4_heap HWF.out.box (.int .i64 i) (.int .u8 116) (.int .u8 45) (.int .i64 0)
  have h9d := put4_but (w1.setCell ⟨w.heap.size + 1, 1, none⟩ (.int .u8 116)) w.heap.size (.int .i64 i) (.int .u8 116) (.int .u8 45) (.int .i64 0)
  unfold put4 at h9b h9d
  revert h9b h9d
  generalize ((((w1.setCell ⟨w.heap.size + 1, 1, none⟩ (.int .u8 116)).setCell ⟨w.heap.size, 0, none⟩ (.int .i64 i)).setCell ⟨w.heap.size, 1, none⟩ (.int .u8 116)).setCell ⟨w.heap.size, 2, none⟩ (.int .u8 45)).setCell ⟨w.heap.size, 3, none⟩ (.int .i64 0) = w9
  intro h9b h9d
  obtain ⟨r0, r1, r2, r3⟩ := row4 h9b
  exact bodyPost_ret (v := .agg #[(.int .i64 i), (.int .u8 116), (.int .u8 45), (.int .i64 0)]) (by simp [results, Tryz.results112, go_sem, r0, r1, r2, r3]) rfl ⟨HWF.out.but.next h9d (fun k hk h => by omega), ⟨i, 116, 45, 0⟩, i + 1, false, rfl, hRF.but h9d (by omega), ins_alone hpc (by decide) (by rfl) (by decide)⟩

set_option maxHeartbeats 3200000 in
set_option maxRecDepth 100000 in
theorem xins_d107 (hlt : i < s.size) (hpc : pk s i = 107) (hwf : WfC SC) (hnc : SC.length ≤ 4) (hng : ng ≤ 3) (hnl : nl ≤ 10) (hs : s.size ≤ 2000)
    (hR : XrB w b s i false (.slice a0 SC.length cap0) (.slice a1 ng cap1) v2) (hC : TcV w base (.slice a0 SC.length cap0) (SC.map toX)) (hb : b < base) :
    Calls Tryz.prog 112 #[.pointer (some ⟨b, 0, none⟩), .int .i64 nl] w fun en w' => But (· = b) w w' ∧ ∃ x j bad', en = .returned (itV x) ∧ XrB w' b s j bad' (.slice a0 SC.length cap0) (.slice a1 ng cap1) v2 ∧ InsR s SC ng nl i false x j bad' := by
  have hbw := hR.lt
  have p3 := hR.c3
  have HC := hid (fun (w' : World) (h : But (· = b) w w') (hr : w'.cell? ⟨b, 0, none⟩ = some (.slice a0 SC.length cap0)) => (hC.but h (fun g e cur _ _ hg he => by omega)).tx hr (Nat.lt_of_lt_of_le hbw h.size))
  have HNC := hid hnc
  have HWF0 := hid hwf
  obtain ⟨nc, hncc⟩ : ∃ nc, SC.length = nc := ⟨_, rfl⟩
  rw [hncc] at hR HC hnc
  have HNN := hid hncc
  simp only [hncc]
  clear hncc hC hwf
  have hB0 : But (· = b) w ((w.alloc (.cells #[.int .i64 0, .int .u8 0, .int .u8 0, .int .i64 0] 150)).alloc (.cells #[.int .i64 i, .int .u8 0, .int .u8 45, .int .i64 0] 150)) := (But.alloc _ _ _).trans (But.alloc _ _ _)
  have hR0 := hR.but ((But.alloc (fun _ => False) w (.cells #[.int .i64 0, .int .u8 0, .int .u8 0, .int .i64 0] 150)).trans (But.alloc _ _ (.cells #[.int .i64 i, .int .u8 0, .int .u8 45, .int .i64 0] 150))) (fun h => h)
  have hg0 : ((w.alloc (.cells #[.int .i64 0, .int .u8 0, .int .u8 0, .int .i64 0] 150)).alloc (.cells #[.int .i64 i, .int .u8 0, .int .u8 45, .int .i64 0] 150)).heap[w.heap.size]? = some (.cells #[.int .i64 0, .int .u8 0, .int .u8 0, .int .i64 0] 150) := by
    rw [(But.alloc (fun _ => False) (w.alloc (.cells #[.int .i64 0, .int .u8 0, .int .u8 0, .int .i64 0] 150)) (.cells #[.int .i64 i, .int .u8 0, .int .u8 45, .int .i64 0] 150)).block w.heap.size (lt_of_block (heap_alloc_new w _)) (fun h => h)]
    exact heap_alloc_new w _
  have hg1 : ((w.alloc (.cells #[.int .i64 0, .int .u8 0, .int .u8 0, .int .i64 0] 150)).alloc (.cells #[.int .i64 i, .int .u8 0, .int .u8 45, .int .i64 0] 150)).heap[w.heap.size + 1]? = some (.cells #[.int .i64 i, .int .u8 0, .int .u8 45, .int .i64 0] 150) := heap_alloc_at (by simp) _
  have HW0 := hid (InsW.mk (i := i) hB0 hg0 hg1)
  have HB1 := hid (xtakeByte_any b s i false _ _ v2 _ hs hR0)
  rw [tbP_ok hlt, hpc] at HB1
  clear hB0 hR0 hg0 hg1
  go_enter Tryz.func112, Tryz.ntmps112
  go_wp2_with fail
  refine HB1.out.mono ?_
  rintro en w1 ⟨rfl, hB1, hR1⟩
  have hW1 := HW0.out.next hbw hB1
  obtain ⟨q0, q1, q2, q3⟩ := row4 hW1.item
  obtain ⟨f0, f1, f2, f3⟩ := froz4 hW1.item
  obtain ⟨y0, y1, y2, y3⟩ := row4 hW1.box
  obtain ⟨g0, g1, g2, g3⟩ := froz4 hW1.box
  have hW2 := hW1.set 1 (.int .u8 107) (by omega)
  simp only [if_true, show (1 : Nat) ≠ 0 from by decide, show ¬ (0 : Nat) = 1 from by decide, show ¬ (1 : Nat) = 0 from by decide, show ¬ (1 : Nat) = 2 from by decide, show ¬ (1 : Nat) = 3 from by decide, if_false] at hW2
  have hR2 := hR1.but (But.setB w1 (w.heap.size + 1) 1 (.int .u8 107)) (by omega)
  have HW2 := hid hW2
  clear hW1 hW2 HW0 HB1 p3
  go_wp2_with fail
  refine (xtakeDigit_any b s (i + 1) false _ _ v2 _ 10 (by omega) hs hR2).mono ?_
  rintro en w5 ⟨rfl, hB5, hR5⟩
  obtain ⟨Z, hZ⟩ : ∃ Z, dgX s 10 (i + 1) false = Z := ⟨_, rfl⟩
  rw [hZ] at hR5
  rw [hZ]
  have HZ := hid hZ
  clear hZ
  obtain ⟨d, j5, b5⟩ := Z
  dsimp only at hR5 ⊢
  clear q0 q1 q2 q3 f0 f1 f2 f3 y0 y1 y2 y3 g0 g1 g2 g3
  have hW5 := HW2.out.next hbw hB5
  obtain ⟨q0, q1, q2, q3⟩ := row4 hW5.item
  obtain ⟨f0, f1, f2, f3⟩ := froz4 hW5.item
  obtain ⟨y0, y1, y2, y3⟩ := row4 hW5.box
  obtain ⟨g0, g1, g2, g3⟩ := froz4 hW5.box
  have hW6 := hW5.set 3 (.int .i64 d) (by omega)
  simp only [if_true, if_false, show ¬ (2 : Nat) = 0 from by decide, show ¬ (2 : Nat) = 1 from by decide, show ¬ (2 : Nat) = 3 from by decide, show ¬ (3 : Nat) = 0 from by decide, show ¬ (3 : Nat) = 1 from by decide, show ¬ (3 : Nat) = 2 from by decide] at hW6
  have hR6 := hR5.but (But.setB w5 (w.heap.size + 1) 3 (.int .i64 d)) (by omega)
  have HWF := hid (hW6)
  have hRF := hR6
  go_wp2_with fail
  have h9b := put4_heap HWF.out.box (.int .i64 i) (.int .u8 107) (.int .u8 45) (.int .i64 d)
  have h9d := put4_but (w5.setCell ⟨w.heap.size + 1, 3, none⟩ (.int .i64 d)) w.heap.size (.int .i64 i) (.int .u8 107) (.int .u8 45) (.int .i64 d)
  unfold put4 at h9b h9d
  revert h9b h9d
  generalize ((((w5.setCell ⟨w.heap.size + 1, 3, none⟩ (.int .i64 d)).setCell ⟨w.heap.size, 0, none⟩ (.int .i64 i)).setCell ⟨w.heap.size, 1, none⟩ (.int .u8 107)).setCell ⟨w.heap.size, 2, none⟩ (.int .u8 45)).setCell ⟨w.heap.size, 3, none⟩ (.int .i64 d) = w9
  intro h9b h9d
  obtain ⟨r0, r1, r2, r3⟩ := row4 h9b
  exact bodyPost_ret (v := .agg #[(.int .i64 i), (.int .u8 107), (.int .u8 45), (.int .i64 d)]) (by simp [results, Tryz.results112, go_sem, r0, r1, r2, r3]) rfl ⟨HWF.out.but.next h9d (fun k hk h => by omega), ⟨i, 107, 45, d⟩, j5, b5, rfl, hRF.but h9d (by omega), ins_dig (n := 10) hpc (by simp) HZ.out⟩

set_option maxHeartbeats 3200000 in
set_option maxRecDepth 100000 in
theorem xins_d108 (hlt : i < s.size) (hpc : pk s i = 108) (hwf : WfC SC) (hnc : SC.length ≤ 4) (hng : ng ≤ 3) (hnl : nl ≤ 10) (hs : s.size ≤ 2000)
    (hR : XrB w b s i false (.slice a0 SC.length cap0) (.slice a1 ng cap1) v2) (hC : TcV w base (.slice a0 SC.length cap0) (SC.map toX)) (hb : b < base) :
    Calls Tryz.prog 112 #[.pointer (some ⟨b, 0, none⟩), .int .i64 nl] w fun en w' => But (· = b) w w' ∧ ∃ x j bad', en = .returned (itV x) ∧ XrB w' b s j bad' (.slice a0 SC.length cap0) (.slice a1 ng cap1) v2 ∧ InsR s SC ng nl i false x j bad' := by
  have hbw := hR.lt
  have p3 := hR.c3
  have HC := hid (fun (w' : World) (h : But (· = b) w w') (hr : w'.cell? ⟨b, 0, none⟩ = some (.slice a0 SC.length cap0)) => (hC.but h (fun g e cur _ _ hg he => by omega)).tx hr (Nat.lt_of_lt_of_le hbw h.size))
  have HNC := hid hnc
  have HWF0 := hid hwf
  obtain ⟨nc, hncc⟩ : ∃ nc, SC.length = nc := ⟨_, rfl⟩
  rw [hncc] at hR HC hnc
  have HNN := hid hncc
  simp only [hncc]
  clear hncc hC hwf
  have hB0 : But (· = b) w ((w.alloc (.cells #[.int .i64 0, .int .u8 0, .int .u8 0, .int .i64 0] 150)).alloc (.cells #[.int .i64 i, .int .u8 0, .int .u8 45, .int .i64 0] 150)) := (But.alloc _ _ _).trans (But.alloc _ _ _)
  have hR0 := hR.but ((But.alloc (fun _ => False) w (.cells #[.int .i64 0, .int .u8 0, .int .u8 0, .int .i64 0] 150)).trans (But.alloc _ _ (.cells #[.int .i64 i, .int .u8 0, .int .u8 45, .int .i64 0] 150))) (fun h => h)
  have hg0 : ((w.alloc (.cells #[.int .i64 0, .int .u8 0, .int .u8 0, .int .i64 0] 150)).alloc (.cells #[.int .i64 i, .int .u8 0, .int .u8 45, .int .i64 0] 150)).heap[w.heap.size]? = some (.cells #[.int .i64 0, .int .u8 0, .int .u8 0, .int .i64 0] 150) := by
    rw [(But.alloc (fun _ => False) (w.alloc (.cells #[.int .i64 0, .int .u8 0, .int .u8 0, .int .i64 0] 150)) (.cells #[.int .i64 i, .int .u8 0, .int .u8 45, .int .i64 0] 150)).block w.heap.size (lt_of_block (heap_alloc_new w _)) (fun h => h)]
    exact heap_alloc_new w _
  have hg1 : ((w.alloc (.cells #[.int .i64 0, .int .u8 0, .int .u8 0, .int .i64 0] 150)).alloc (.cells #[.int .i64 i, .int .u8 0, .int .u8 45, .int .i64 0] 150)).heap[w.heap.size + 1]? = some (.cells #[.int .i64 i, .int .u8 0, .int .u8 45, .int .i64 0] 150) := heap_alloc_at (by simp) _
  have HW0 := hid (InsW.mk (i := i) hB0 hg0 hg1)
  have HB1 := hid (xtakeByte_any b s i false _ _ v2 _ hs hR0)
  rw [tbP_ok hlt, hpc] at HB1
  clear hB0 hR0 hg0 hg1
  go_enter Tryz.func112, Tryz.ntmps112
  go_wp2_with fail
  refine HB1.out.mono ?_
  rintro en w1 ⟨rfl, hB1, hR1⟩
  have hW1 := HW0.out.next hbw hB1
  obtain ⟨q0, q1, q2, q3⟩ := row4 hW1.item
  obtain ⟨f0, f1, f2, f3⟩ := froz4 hW1.item
  obtain ⟨y0, y1, y2, y3⟩ := row4 hW1.box
  obtain ⟨g0, g1, g2, g3⟩ := froz4 hW1.box
  have hW2 := hW1.set 1 (.int .u8 108) (by omega)
  simp only [if_true, show (1 : Nat) ≠ 0 from by decide, show ¬ (0 : Nat) = 1 from by decide, show ¬ (1 : Nat) = 0 from by decide, show ¬ (1 : Nat) = 2 from by decide, show ¬ (1 : Nat) = 3 from by decide, if_false] at hW2
  have hR2 := hR1.but (But.setB w1 (w.heap.size + 1) 1 (.int .u8 108)) (by omega)
  have HW2 := hid hW2
  clear hW1 hW2 HW0 HB1 p3
  go_wp2_with fail
  refine (xtakeDigit_any b s (i + 1) false _ _ v2 _ nl (by omega) hs hR2).mono ?_
  rintro en w5 ⟨rfl, hB5, hR5⟩
  obtain ⟨Z, hZ⟩ : ∃ Z, dgX s nl (i + 1) false = Z := ⟨_, rfl⟩
  rw [hZ] at hR5
  rw [hZ]
  have HZ := hid hZ
  clear hZ
  obtain ⟨d, j5, b5⟩ := Z
  dsimp only at hR5 ⊢
  clear q0 q1 q2 q3 f0 f1 f2 f3 y0 y1 y2 y3 g0 g1 g2 g3
  have hW5 := HW2.out.next hbw hB5
  obtain ⟨q0, q1, q2, q3⟩ := row4 hW5.item
  obtain ⟨f0, f1, f2, f3⟩ := froz4 hW5.item
  obtain ⟨y0, y1, y2, y3⟩ := row4 hW5.box
  obtain ⟨g0, g1, g2, g3⟩ := froz4 hW5.box
  have hW6 := hW5.set 3 (.int .i64 d) (by omega)
  simp only [if_true, if_false, show ¬ (2 : Nat) = 0 from by decide, show ¬ (2 : Nat) = 1 from by decide, show ¬ (2 : Nat) = 3 from by decide, show ¬ (3 : Nat) = 0 from by decide, show ¬ (3 : Nat) = 1 from by decide, show ¬ (3 : Nat) = 2 from by decide] at hW6
  have hR6 := hR5.but (But.setB w5 (w.heap.size + 1) 3 (.int .i64 d)) (by omega)
  have HWF := hid (hW6)
  have hRF := hR6
  go_wp2_with fail
  have h9b := put4_heap HWF.out.box (.int .i64 i) (.int .u8 108) (.int .u8 45) (.int .i64 d)
  have h9d := put4_but (w5.setCell ⟨w.heap.size + 1, 3, none⟩ (.int .i64 d)) w.heap.size (.int .i64 i) (.int .u8 108) (.int .u8 45) (.int .i64 d)
  unfold put4 at h9b h9d
  revert h9b h9d
  generalize ((((w5.setCell ⟨w.heap.size + 1, 3, none⟩ (.int .i64 d)).setCell ⟨w.heap.size, 0, none⟩ (.int .i64 i)).setCell ⟨w.heap.size, 1, none⟩ (.int .u8 108)).setCell ⟨w.heap.size, 2, none⟩ (.int .u8 45)).setCell ⟨w.heap.size, 3, none⟩ (.int .i64 d) = w9
  intro h9b h9d
  obtain ⟨r0, r1, r2, r3⟩ := row4 h9b
  exact bodyPost_ret (v := .agg #[(.int .i64 i), (.int .u8 108), (.int .u8 45), (.int .i64 d)]) (by simp [results, Tryz.results112, go_sem, r0, r1, r2, r3]) rfl ⟨HWF.out.but.next h9d (fun k hk h => by omega), ⟨i, 108, 45, d⟩, j5, b5, rfl, hRF.but h9d (by omega), ins_dig (n := nl) hpc (by simp) HZ.out⟩

set_option maxHeartbeats 3200000 in
set_option maxRecDepth 100000 in
theorem xins_d115 (hlt : i < s.size) (hpc : pk s i = 115) (hwf : WfC SC) (hnc : SC.length ≤ 4) (hng : ng ≤ 3) (hnl : nl ≤ 10) (hs : s.size ≤ 2000)
    (hR : XrB w b s i false (.slice a0 SC.length cap0) (.slice a1 ng cap1) v2) (hC : TcV w base (.slice a0 SC.length cap0) (SC.map toX)) (hb : b < base) :
    Calls Tryz.prog 112 #[.pointer (some ⟨b, 0, none⟩), .int .i64 nl] w fun en w' => But (· = b) w w' ∧ ∃ x j bad', en = .returned (itV x) ∧ XrB w' b s j bad' (.slice a0 SC.length cap0) (.slice a1 ng cap1) v2 ∧ InsR s SC ng nl i false x j bad' := by
  have hbw := hR.lt
  have p3 := hR.c3
  have HC := hid (fun (w' : World) (h : But (· = b) w w') (hr : w'.cell? ⟨b, 0, none⟩ = some (.slice a0 SC.length cap0)) => (hC.but h (fun g e cur _ _ hg he => by omega)).tx hr (Nat.lt_of_lt_of_le hbw h.size))
  have HNC := hid hnc
  have HWF0 := hid hwf
  obtain ⟨nc, hncc⟩ : ∃ nc, SC.length = nc := ⟨_, rfl⟩
  rw [hncc] at hR HC hnc
  have HNN := hid hncc
  simp only [hncc]
  clear hncc hC hwf
  have hB0 : But (· = b) w ((w.alloc (.cells #[.int .i64 0, .int .u8 0, .int .u8 0, .int .i64 0] 150)).alloc (.cells #[.int .i64 i, .int .u8 0, .int .u8 45, .int .i64 0] 150)) := (But.alloc _ _ _).trans (But.alloc _ _ _)
  have hR0 := hR.but ((But.alloc (fun _ => False) w (.cells #[.int .i64 0, .int .u8 0, .int .u8 0, .int .i64 0] 150)).trans (But.alloc _ _ (.cells #[.int .i64 i, .int .u8 0, .int .u8 45, .int .i64 0] 150))) (fun h => h)
  have hg0 : ((w.alloc (.cells #[.int .i64 0, .int .u8 0, .int .u8 0, .int .i64 0] 150)).alloc (.cells #[.int .i64 i, .int .u8 0, .int .u8 45, .int .i64 0] 150)).heap[w.heap.size]? = some (.cells #[.int .i64 0, .int .u8 0, .int .u8 0, .int .i64 0] 150) := by
    rw [(But.alloc (fun _ => False) (w.alloc (.cells #[.int .i64 0, .int .u8 0, .int .u8 0, .int .i64 0] 150)) (.cells #[.int .i64 i, .int .u8 0, .int .u8 45, .int .i64 0] 150)).block w.heap.size (lt_of_block (heap_alloc_new w _)) (fun h => h)]
    exact heap_alloc_new w _
  have hg1 : ((w.alloc (.cells #[.int .i64 0, .int .u8 0, .int .u8 0, .int .i64 0] 150)).alloc (.cells #[.int .i64 i, .int .u8 0, .int .u8 45, .int .i64 0] 150)).heap[w.heap.size + 1]? = some (.cells #[.int .i64 i, .int .u8 0, .int .u8 45, .int .i64 0] 150) := heap_alloc_at (by simp) _
  have HW0 := hid (InsW.mk (i := i) hB0 hg0 hg1)
  have HB1 := hid (xtakeByte_any b s i false _ _ v2 _ hs hR0)
  rw [tbP_ok hlt, hpc] at HB1
  clear hB0 hR0 hg0 hg1
  go_enter Tryz.func112, Tryz.ntmps112
  go_wp2_with fail
  refine HB1.out.mono ?_
  rintro en w1 ⟨rfl, hB1, hR1⟩
  have hW1 := HW0.out.next hbw hB1
  obtain ⟨q0, q1, q2, q3⟩ := row4 hW1.item
  obtain ⟨f0, f1, f2, f3⟩ := froz4 hW1.item
  obtain ⟨y0, y1, y2, y3⟩ := row4 hW1.box
  obtain ⟨g0, g1, g2, g3⟩ := froz4 hW1.box
  have hW2 := hW1.set 1 (.int .u8 115) (by omega)
  simp only [if_true, show (1 : Nat) ≠ 0 from by decide, show ¬ (0 : Nat) = 1 from by decide, show ¬ (1 : Nat) = 0 from by decide, show ¬ (1 : Nat) = 2 from by decide, show ¬ (1 : Nat) = 3 from by decide, if_false] at hW2
  have hR2 := hR1.but (But.setB w1 (w.heap.size + 1) 1 (.int .u8 115)) (by omega)
  have HW2 := hid hW2
  clear hW1 hW2 HW0 HB1 p3
  go_wp2_with fail
  refine (xtakeDigit_any b s (i + 1) false _ _ v2 _ nl (by omega) hs hR2).mono ?_
  rintro en w5 ⟨rfl, hB5, hR5⟩
  obtain ⟨Z, hZ⟩ : ∃ Z, dgX s nl (i + 1) false = Z := ⟨_, rfl⟩
  rw [hZ] at hR5
  rw [hZ]
  have HZ := hid hZ
  clear hZ
  obtain ⟨d, j5, b5⟩ := Z
  dsimp only at hR5 ⊢
  clear q0 q1 q2 q3 f0 f1 f2 f3 y0 y1 y2 y3 g0 g1 g2 g3
  have hW5 := HW2.out.next hbw hB5
  obtain ⟨q0, q1, q2, q3⟩ := row4 hW5.item
  obtain ⟨f0, f1, f2, f3⟩ := froz4 hW5.item
  obtain ⟨y0, y1, y2, y3⟩ := row4 hW5.box
  obtain ⟨g0, g1, g2, g3⟩ := froz4 hW5.box
  have hW6 := hW5.set 3 (.int .i64 d) (by omega)
  simp only [if_true, if_false, show ¬ (2 : Nat) = 0 from by decide, show ¬ (2 : Nat) = 1 from by decide, show ¬ (2 : Nat) = 3 from by decide, show ¬ (3 : Nat) = 0 from by decide, show ¬ (3 : Nat) = 1 from by decide, show ¬ (3 : Nat) = 2 from by decide] at hW6
  have hR6 := hR5.but (But.setB w5 (w.heap.size + 1) 3 (.int .i64 d)) (by omega)
  have HWF := hid (hW6)
  have hRF := hR6
  go_wp2_with fail
  have h9b := put4_heap HWF.out.box (.int .i64 i) (.int .u8 115) (.int .u8 45) (.int .i64 d)
  have h9d := put4_but (w5.setCell ⟨w.heap.size + 1, 3, none⟩ (.int .i64 d)) w.heap.size (.int .i64 i) (.int .u8 115) (.int .u8 45) (.int .i64 d)
  unfold put4 at h9b h9d
  revert h9b h9d
  generalize ((((w5.setCell ⟨w.heap.size + 1, 3, none⟩ (.int .i64 d)).setCell ⟨w.heap.size, 0, none⟩ (.int .i64 i)).setCell ⟨w.heap.size, 1, none⟩ (.int .u8 115)).setCell ⟨w.heap.size, 2, none⟩ (.int .u8 45)).setCell ⟨w.heap.size, 3, none⟩ (.int .i64 d) = w9
  intro h9b h9d
  obtain ⟨r0, r1, r2, r3⟩ := row4 h9b
  exact bodyPost_ret (v := .agg #[(.int .i64 i), (.int .u8 115), (.int .u8 45), (.int .i64 d)]) (by simp [results, Tryz.results112, go_sem, r0, r1, r2, r3]) rfl ⟨HWF.out.but.next h9d (fun k hk h => by omega), ⟨i, 115, 45, d⟩, j5, b5, rfl, hRF.but h9d (by omega), ins_dig (n := nl) hpc (by simp) HZ.out⟩

set_option maxHeartbeats 3200000 in
set_option maxRecDepth 100000 in
theorem xins_t106 (hlt : i < s.size) (hpc : pk s i = 106) (hwf : WfC SC) (hnc : SC.length ≤ 4) (hng : ng ≤ 3) (hnl : nl ≤ 10) (hs : s.size ≤ 2000)
    (hR : XrB w b s i false (.slice a0 SC.length cap0) (.slice a1 ng cap1) v2) (hC : TcV w base (.slice a0 SC.length cap0) (SC.map toX)) (hb : b < base) :
    Calls Tryz.prog 112 #[.pointer (some ⟨b, 0, none⟩), .int .i64 nl] w fun en w' => But (· = b) w w' ∧ ∃ x j bad', en = .returned (itV x) ∧ XrB w' b s j bad' (.slice a0 SC.length cap0) (.slice a1 ng cap1) v2 ∧ InsR s SC ng nl i false x j bad' := by
  have hbw := hR.lt
  have p3 := hR.c3
  have HC := hid (fun (w' : World) (h : But (· = b) w w') (hr : w'.cell? ⟨b, 0, none⟩ = some (.slice a0 SC.length cap0)) => (hC.but h (fun g e cur _ _ hg he => by omega)).tx hr (Nat.lt_of_lt_of_le hbw h.size))
  have HNC := hid hnc
  have HWF0 := hid hwf
  obtain ⟨nc, hncc⟩ : ∃ nc, SC.length = nc := ⟨_, rfl⟩
  rw [hncc] at hR HC hnc
  have HNN := hid hncc
  simp only [hncc]
  clear hncc hC hwf
  have hB0 : But (· = b) w ((w.alloc (.cells #[.int .i64 0, .int .u8 0, .int .u8 0, .int .i64 0] 150)).alloc (.cells #[.int .i64 i, .int .u8 0, .int .u8 45, .int .i64 0] 150)) := (But.alloc _ _ _).trans (But.alloc _ _ _)
  have hR0 := hR.but ((But.alloc (fun _ => False) w (.cells #[.int .i64 0, .int .u8 0, .int .u8 0, .int .i64 0] 150)).trans (But.alloc _ _ (.cells #[.int .i64 i, .int .u8 0, .int .u8 45, .int .i64 0] 150))) (fun h => h)
  have hg0 : ((w.alloc (.cells #[.int .i64 0, .int .u8 0, .int .u8 0, .int .i64 0] 150)).alloc (.cells #[.int .i64 i, .int .u8 0, .int .u8 45, .int .i64 0] 150)).heap[w.heap.size]? = some (.cells #[.int .i64 0, .int .u8 0, .int .u8 0, .int .i64 0] 150) := by
    rw [(But.alloc (fun _ => False) (w.alloc (.cells #[.int .i64 0, .int .u8 0, .int .u8 0, .int .i64 0] 150)) (.cells #[.int .i64 i, .int .u8 0, .int .u8 45, .int .i64 0] 150)).block w.heap.size (lt_of_block (heap_alloc_new w _)) (fun h => h)]
    exact heap_alloc_new w _
  have hg1 : ((w.alloc (.cells #[.int .i64 0, .int .u8 0, .int .u8 0, .int .i64 0] 150)).alloc (.cells #[.int .i64 i, .int .u8 0, .int .u8 45, .int .i64 0] 150)).heap[w.heap.size + 1]? = some (.cells #[.int .i64 i, .int .u8 0, .int .u8 45, .int .i64 0] 150) := heap_alloc_at (by simp) _
  have HW0 := hid (InsW.mk (i := i) hB0 hg0 hg1)
  have HB1 := hid (xtakeByte_any b s i false _ _ v2 _ hs hR0)
  rw [tbP_ok hlt, hpc] at HB1
  clear hB0 hR0 hg0 hg1
  go_enter Tryz.func112, Tryz.ntmps112
  go_wp2_with fail
  refine HB1.out.mono ?_
  rintro en w1 ⟨rfl, hB1, hR1⟩
  have hW1 := HW0.out.next hbw hB1
  obtain ⟨q0, q1, q2, q3⟩ := row4 hW1.item
  obtain ⟨f0, f1, f2, f3⟩ := froz4 hW1.item
  obtain ⟨y0, y1, y2, y3⟩ := row4 hW1.box
  obtain ⟨g0, g1, g2, g3⟩ := froz4 hW1.box
  have hW2 := hW1.set 1 (.int .u8 106) (by omega)
  simp only [if_true, show (1 : Nat) ≠ 0 from by decide, show ¬ (0 : Nat) = 1 from by decide, show ¬ (1 : Nat) = 0 from by decide, show ¬ (1 : Nat) = 2 from by decide, show ¬ (1 : Nat) = 3 from by decide, if_false] at hW2
  have hR2 := hR1.but (But.setB w1 (w.heap.size + 1) 1 (.int .u8 106)) (by omega)
  have HW2 := hid hW2
  clear hW1 hW2 HW0 HB1 p3
  go_wp2_with fail
  refine (xtarget_any b s (i + 1) false _ _ v2 _ hs hR2).mono ?_
  rintro en w5 ⟨rfl, hB5, hR5⟩
  obtain ⟨Z, hZ⟩ : ∃ Z, tgX s (i + 1) false = Z := ⟨_, rfl⟩
  rw [hZ] at hR5
  rw [hZ]
  have HZ := hid hZ
  clear hZ
  obtain ⟨d, j5, b5⟩ := Z
  dsimp only at hR5 ⊢
  clear q0 q1 q2 q3 f0 f1 f2 f3 y0 y1 y2 y3 g0 g1 g2 g3
  have hW5 := HW2.out.next hbw hB5
  obtain ⟨q0, q1, q2, q3⟩ := row4 hW5.item
  obtain ⟨f0, f1, f2, f3⟩ := froz4 hW5.item
  obtain ⟨y0, y1, y2, y3⟩ := row4 hW5.box
  obtain ⟨g0, g1, g2, g3⟩ := froz4 hW5.box
  have hW6 := hW5.set 3 (.int .i64 d) (by omega)
  simp only [if_true, if_false, show ¬ (2 : Nat) = 0 from by decide, show ¬ (2 : Nat) = 1 from by decide, show ¬ (2 : Nat) = 3 from by decide, show ¬ (3 : Nat) = 0 from by decide, show ¬ (3 : Nat) = 1 from by decide, show ¬ (3 : Nat) = 2 from by decide] at hW6
  have hR6 := hR5.but (But.setB w5 (w.heap.size + 1) 3 (.int .i64 d)) (by omega)
  have HWF := hid (hW6)
  have hRF := hR6
  go_wp2_with fail
  have h9b := put4_heap HWF.out.box (.int .i64 i) (.int .u8 106) (.int .u8 45) (.int .i64 d)
  have h9d := put4_but (w5.setCell ⟨w.heap.size + 1, 3, none⟩ (.int .i64 d)) w.heap.size (.int .i64 i) (.int .u8 106) (.int .u8 45) (.int .i64 d)
  unfold put4 at h9b h9d
  revert h9b h9d
  generalize ((((w5.setCell ⟨w.heap.size + 1, 3, none⟩ (.int .i64 d)).setCell ⟨w.heap.size, 0, none⟩ (.int .i64 i)).setCell ⟨w.heap.size, 1, none⟩ (.int .u8 106)).setCell ⟨w.heap.size, 2, none⟩ (.int .u8 45)).setCell ⟨w.heap.size, 3, none⟩ (.int .i64 d) = w9
  intro h9b h9d
  obtain ⟨r0, r1, r2, r3⟩ := row4 h9b
  exact bodyPost_ret (v := .agg #[(.int .i64 i), (.int .u8 106), (.int .u8 45), (.int .i64 d)]) (by simp [results, Tryz.results112, go_sem, r0, r1, r2, r3]) rfl ⟨HWF.out.but.next h9d (fun k hk h => by omega), ⟨i, 106, 45, d⟩, j5, b5, rfl, hRF.but h9d (by omega), ins_tgt hpc (by simp) HZ.out⟩

set_option maxHeartbeats 3200000 in
set_option maxRecDepth 100000 in
theorem xins_t102 (hlt : i < s.size) (hpc : pk s i = 102) (hwf : WfC SC) (hnc : SC.length ≤ 4) (hng : ng ≤ 3) (hnl : nl ≤ 10) (hs : s.size ≤ 2000)
    (hR : XrB w b s i false (.slice a0 SC.length cap0) (.slice a1 ng cap1) v2) (hC : TcV w base (.slice a0 SC.length cap0) (SC.map toX)) (hb : b < base) :
    Calls Tryz.prog 112 #[.pointer (some ⟨b, 0, none⟩), .int .i64 nl] w fun en w' => But (· = b) w w' ∧ ∃ x j bad', en = .returned (itV x) ∧ XrB w' b s j bad' (.slice a0 SC.length cap0) (.slice a1 ng cap1) v2 ∧ InsR s SC ng nl i false x j bad' := by
  have hbw := hR.lt
  have p3 := hR.c3
  have HC := hid (fun (w' : World) (h : But (· = b) w w') (hr : w'.cell? ⟨b, 0, none⟩ = some (.slice a0 SC.length cap0)) => (hC.but h (fun g e cur _ _ hg he => by omega)).tx hr (Nat.lt_of_lt_of_le hbw h.size))
  have HNC := hid hnc
  have HWF0 := hid hwf
  obtain ⟨nc, hncc⟩ : ∃ nc, SC.length = nc := ⟨_, rfl⟩
  rw [hncc] at hR HC hnc
  have HNN := hid hncc
  simp only [hncc]
  clear hncc hC hwf
  have hB0 : But (· = b) w ((w.alloc (.cells #[.int .i64 0, .int .u8 0, .int .u8 0, .int .i64 0] 150)).alloc (.cells #[.int .i64 i, .int .u8 0, .int .u8 45, .int .i64 0] 150)) := (But.alloc _ _ _).trans (But.alloc _ _ _)
  have hR0 := hR.but ((But.alloc (fun _ => False) w (.cells #[.int .i64 0, .int .u8 0, .int .u8 0, .int .i64 0] 150)).trans (But.alloc _ _ (.cells #[.int .i64 i, .int .u8 0, .int .u8 45, .int .i64 0] 150))) (fun h => h)
  have hg0 : ((w.alloc (.cells #[.int .i64 0, .int .u8 0, .int .u8 0, .int .i64 0] 150)).alloc (.cells #[.int .i64 i, .int .u8 0, .int .u8 45, .int .i64 0] 150)).heap[w.heap.size]? = some (.cells #[.int .i64 0, .int .u8 0, .int .u8 0, .int .i64 0] 150) := by
    rw [(But.alloc (fun _ => False) (w.alloc (.cells #[.int .i64 0, .int .u8 0, .int .u8 0, .int .i64 0] 150)) (.cells #[.int .i64 i, .int .u8 0, .int .u8 45, .int .i64 0] 150)).block w.heap.size (lt_of_block (heap_alloc_new w _)) (fun h => h)]
    exact heap_alloc_new w _
  have hg1 : ((w.alloc (.cells #[.int .i64 0, .int .u8 0, .int .u8 0, .int .i64 0] 150)).alloc (.cells #[.int .i64 i, .int .u8 0, .int .u8 45, .int .i64 0] 150)).heap[w.heap.size + 1]? = some (.cells #[.int .i64 i, .int .u8 0, .int .u8 45, .int .i64 0] 150) := heap_alloc_at (by simp) _
  have HW0 := hid (InsW.mk (i := i) hB0 hg0 hg1)
  have HB1 := hid (xtakeByte_any b s i false _ _ v2 _ hs hR0)
  rw [tbP_ok hlt, hpc] at HB1
  clear hB0 hR0 hg0 hg1
  go_enter Tryz.func112, Tryz.ntmps112
  go_wp2_with fail
  refine HB1.out.mono ?_
  rintro en w1 ⟨rfl, hB1, hR1⟩
  have hW1 := HW0.out.next hbw hB1
  obtain ⟨q0, q1, q2, q3⟩ := row4 hW1.item
  obtain ⟨f0, f1, f2, f3⟩ := froz4 hW1.item
  obtain ⟨y0, y1, y2, y3⟩ := row4 hW1.box
  obtain ⟨g0, g1, g2, g3⟩ := froz4 hW1.box
  have hW2 := hW1.set 1 (.int .u8 102) (by omega)
  simp only [if_true, show (1 : Nat) ≠ 0 from by decide, show ¬ (0 : Nat) = 1 from by decide, show ¬ (1 : Nat) = 0 from by decide, show ¬ (1 : Nat) = 2 from by decide, show ¬ (1 : Nat) = 3 from by decide, if_false] at hW2
  have hR2 := hR1.but (But.setB w1 (w.heap.size + 1) 1 (.int .u8 102)) (by omega)
  have HW2 := hid hW2
  clear hW1 hW2 HW0 HB1 p3
  go_wp2_with fail
  refine (xtarget_any b s (i + 1) false _ _ v2 _ hs hR2).mono ?_
  rintro en w5 ⟨rfl, hB5, hR5⟩
  obtain ⟨Z, hZ⟩ : ∃ Z, tgX s (i + 1) false = Z := ⟨_, rfl⟩
  rw [hZ] at hR5
  rw [hZ]
  have HZ := hid hZ
  clear hZ
  obtain ⟨d, j5, b5⟩ := Z
  dsimp only at hR5 ⊢
  clear q0 q1 q2 q3 f0 f1 f2 f3 y0 y1 y2 y3 g0 g1 g2 g3
  have hW5 := HW2.out.next hbw hB5
  obtain ⟨q0, q1, q2, q3⟩ := row4 hW5.item
  obtain ⟨f0, f1, f2, f3⟩ := froz4 hW5.item
  obtain ⟨y0, y1, y2, y3⟩ := row4 hW5.box
  obtain ⟨g0, g1, g2, g3⟩ := froz4 hW5.box
  have hW6 := hW5.set 3 (.int .i64 d) (by omega)
  simp only [if_true, if_false, show ¬ (2 : Nat) = 0 from by decide, show ¬ (2 : Nat) = 1 from by decide, show ¬ (2 : Nat) = 3 from by decide, show ¬ (3 : Nat) = 0 from by decide, show ¬ (3 : Nat) = 1 from by decide, show ¬ (3 : Nat) = 2 from by decide] at hW6
  have hR6 := hR5.but (But.setB w5 (w.heap.size + 1) 3 (.int .i64 d)) (by omega)
  have HWF := hid (hW6)
  have hRF := hR6
  go_wp2_with fail
  have h9b := put4_heap HWF.out.box (.int .i64 i) (.int .u8 102) (.int .u8 45) (.int .i64 d)
  have h9d := put4_but (w5.setCell ⟨w.heap.size + 1, 3, none⟩ (.int .i64 d)) w.heap.size (.int .i64 i) (.int .u8 102) (.int .u8 45) (.int .i64 d)
  unfold put4 at h9b h9d
  revert h9b h9d
  generalize ((((w5.setCell ⟨w.heap.size + 1, 3, none⟩ (.int .i64 d)).setCell ⟨w.heap.size, 0, none⟩ (.int .i64 i)).setCell ⟨w.heap.size, 1, none⟩ (.int .u8 102)).setCell ⟨w.heap.size, 2, none⟩ (.int .u8 45)).setCell ⟨w.heap.size, 3, none⟩ (.int .i64 d) = w9
  intro h9b h9d
  obtain ⟨r0, r1, r2, r3⟩ := row4 h9b
  exact bodyPost_ret (v := .agg #[(.int .i64 i), (.int .u8 102), (.int .u8 45), (.int .i64 d)]) (by simp [results, Tryz.results112, go_sem, r0, r1, r2, r3]) rfl ⟨HWF.out.but.next h9d (fun k hk h => by omega), ⟨i, 102, 45, d⟩, j5, b5, rfl, hRF.but h9d (by omega), ins_tgt hpc (by simp) HZ.out⟩

set_option maxHeartbeats 3200000 in
set_option maxRecDepth 100000 in
theorem xins_c110 (hlt : i < s.size) (hpc : pk s i = 110) (hwf : WfC SC) (hnc : SC.length ≤ 4) (hng : ng ≤ 3) (hnl : nl ≤ 10) (hs : s.size ≤ 2000)
    (hR : XrB w b s i false (.slice a0 SC.length cap0) (.slice a1 ng cap1) v2) (hC : TcV w base (.slice a0 SC.length cap0) (SC.map toX)) (hb : b < base) :
    Calls Tryz.prog 112 #[.pointer (some ⟨b, 0, none⟩), .int .i64 nl] w fun en w' => But (· = b) w w' ∧ ∃ x j bad', en = .returned (itV x) ∧ XrB w' b s j bad' (.slice a0 SC.length cap0) (.slice a1 ng cap1) v2 ∧ InsR s SC ng nl i false x j bad' := by
  have hbw := hR.lt
  have p3 := hR.c3
  have HC := hid (fun (w' : World) (h : But (· = b) w w') (hr : w'.cell? ⟨b, 0, none⟩ = some (.slice a0 SC.length cap0)) => (hC.but h (fun g e cur _ _ hg he => by omega)).tx hr (Nat.lt_of_lt_of_le hbw h.size))
  have HNC := hid hnc
  have HWF0 := hid hwf
  obtain ⟨nc, hncc⟩ : ∃ nc, SC.length = nc := ⟨_, rfl⟩
  rw [hncc] at hR HC hnc
  have HNN := hid hncc
  simp only [hncc]
  clear hncc hC hwf
  have hB0 : But (· = b) w ((w.alloc (.cells #[.int .i64 0, .int .u8 0, .int .u8 0, .int .i64 0] 150)).alloc (.cells #[.int .i64 i, .int .u8 0, .int .u8 45, .int .i64 0] 150)) := (But.alloc _ _ _).trans (But.alloc _ _ _)
  have hR0 := hR.but ((But.alloc (fun _ => False) w (.cells #[.int .i64 0, .int .u8 0, .int .u8 0, .int .i64 0] 150)).trans (But.alloc _ _ (.cells #[.int .i64 i, .int .u8 0, .int .u8 45, .int .i64 0] 150))) (fun h => h)
  have hg0 : ((w.alloc (.cells #[.int .i64 0, .int .u8 0, .int .u8 0, .int .i64 0] 150)).alloc (.cells #[.int .i64 i, .int .u8 0, .int .u8 45, .int .i64 0] 150)).heap[w.heap.size]? = some (.cells #[.int .i64 0, .int .u8 0, .int .u8 0, .int .i64 0] 150) := by
    rw [(But.alloc (fun _ => False) (w.alloc (.cells #[.int .i64 0, .int .u8 0, .int .u8 0, .int .i64 0] 150)) (.cells #[.int .i64 i, .int .u8 0, .int .u8 45, .int .i64 0] 150)).block w.heap.size (lt_of_block (heap_alloc_new w _)) (fun h => h)]
    exact heap_alloc_new w _
  have hg1 : ((w.alloc (.cells #[.int .i64 0, .int .u8 0, .int .u8 0, .int .i64 0] 150)).alloc (.cells #[.int .i64 i, .int .u8 0, .int .u8 45, .int .i64 0] 150)).heap[w.heap.size + 1]? = some (.cells #[.int .i64 i, .int .u8 0, .int .u8 45, .int .i64 0] 150) := heap_alloc_at (by simp) _
  have HW0 := hid (InsW.mk (i := i) hB0 hg0 hg1)
  have HB1 := hid (xtakeByte_any b s i false _ _ v2 _ hs hR0)
  rw [tbP_ok hlt, hpc] at HB1
  clear hB0 hR0 hg0 hg1
  go_enter Tryz.func112, Tryz.ntmps112
  go_wp2_with fail
  refine HB1.out.mono ?_
  rintro en w1 ⟨rfl, hB1, hR1⟩
  have hW1 := HW0.out.next hbw hB1
  obtain ⟨q0, q1, q2, q3⟩ := row4 hW1.item
  obtain ⟨f0, f1, f2, f3⟩ := froz4 hW1.item
  obtain ⟨y0, y1, y2, y3⟩ := row4 hW1.box
  obtain ⟨g0, g1, g2, g3⟩ := froz4 hW1.box
  have hW2 := hW1.set 1 (.int .u8 110) (by omega)
  simp only [if_true, show (1 : Nat) ≠ 0 from by decide, show ¬ (0 : Nat) = 1 from by decide, show ¬ (1 : Nat) = 0 from by decide, show ¬ (1 : Nat) = 2 from by decide, show ¬ (1 : Nat) = 3 from by decide, if_false] at hW2
  have hR2 := hR1.but (But.setB w1 (w.heap.size + 1) 1 (.int .u8 110)) (by omega)
  have HW2 := hid hW2
  clear hW1 hW2 HW0 HB1 p3
  go_wp2_with fail
  refine (xclass_any b s (i + 1) false _ v2 _ nc cap0 a0 (by omega) hs hR2).mono ?_
  rintro en w3 ⟨rfl, hB3, hR3⟩
  obtain ⟨Y, hY⟩ : ∃ Y, ltX s nc (i + 1) false = Y := ⟨_, rfl⟩
  rw [hY] at hR3
  rw [hY]
  have HY := hid (show ltX s SC.length (i + 1) false = Y by rw [HNN.out]; exact hY)
  clear hY
  obtain ⟨kc, j3, b3⟩ := Y
  dsimp only at hR3 ⊢
  clear q0 q1 q2 q3 f0 f1 f2 f3 y0 y1 y2 y3 g0 g1 g2 g3
  have hW3 := HW2.out.next hbw hB3
  obtain ⟨q0, q1, q2, q3⟩ := row4 hW3.item
  obtain ⟨f0, f1, f2, f3⟩ := froz4 hW3.item
  obtain ⟨y0, y1, y2, y3⟩ := row4 hW3.box
  obtain ⟨g0, g1, g2, g3⟩ := froz4 hW3.box
  have hW4 := hW3.set 2 (.int .u8 kc.toNat) (by omega)
  simp only [if_true, if_false, show ¬ (2 : Nat) = 0 from by decide, show ¬ (2 : Nat) = 1 from by decide, show ¬ (2 : Nat) = 3 from by decide, show ¬ (3 : Nat) = 0 from by decide, show ¬ (3 : Nat) = 1 from by decide, show ¬ (3 : Nat) = 2 from by decide] at hW4
  have hR4 := hR3.but (But.setB w3 (w.heap.size + 1) 2 (.int .u8 kc.toNat)) (by omega)
  have HWF := hid (hW4)
  have hRF := hR4
  go_wp2_with fail
  have h9b := put4_heap HWF.out.box (.int .i64 i) (.int .u8 110) (.int .u8 kc.toNat) (.int .i64 0)
  have h9d := put4_but (w3.setCell ⟨w.heap.size + 1, 2, none⟩ (.int .u8 kc.toNat)) w.heap.size (.int .i64 i) (.int .u8 110) (.int .u8 kc.toNat) (.int .i64 0)
  unfold put4 at h9b h9d
  revert h9b h9d
  generalize ((((w3.setCell ⟨w.heap.size + 1, 2, none⟩ (.int .u8 kc.toNat)).setCell ⟨w.heap.size, 0, none⟩ (.int .i64 i)).setCell ⟨w.heap.size, 1, none⟩ (.int .u8 110)).setCell ⟨w.heap.size, 2, none⟩ (.int .u8 kc.toNat)).setCell ⟨w.heap.size, 3, none⟩ (.int .i64 0) = w9
  intro h9b h9d
  obtain ⟨r0, r1, r2, r3⟩ := row4 h9b
  exact bodyPost_ret (v := .agg #[(.int .i64 i), (.int .u8 110), (.int .u8 kc.toNat), (.int .i64 0)]) (by simp [results, Tryz.results112, go_sem, r0, r1, r2, r3]) rfl ⟨HWF.out.but.next h9d (fun k hk h => by omega), ⟨i, 110, kc, 0⟩, j3, b3, rfl, hRF.but h9d (by omega), ins_cls HNC.out hpc (by simp) HY.out⟩

set_option maxHeartbeats 3200000 in
set_option maxRecDepth 100000 in
theorem xins_c120 (hlt : i < s.size) (hpc : pk s i = 120) (hwf : WfC SC) (hnc : SC.length ≤ 4) (hng : ng ≤ 3) (hnl : nl ≤ 10) (hs : s.size ≤ 2000)
    (hR : XrB w b s i false (.slice a0 SC.length cap0) (.slice a1 ng cap1) v2) (hC : TcV w base (.slice a0 SC.length cap0) (SC.map toX)) (hb : b < base) :
    Calls Tryz.prog 112 #[.pointer (some ⟨b, 0, none⟩), .int .i64 nl] w fun en w' => But (· = b) w w' ∧ ∃ x j bad', en = .returned (itV x) ∧ XrB w' b s j bad' (.slice a0 SC.length cap0) (.slice a1 ng cap1) v2 ∧ InsR s SC ng nl i false x j bad' := by
  have hbw := hR.lt
  have p3 := hR.c3
  have HC := hid (fun (w' : World) (h : But (· = b) w w') (hr : w'.cell? ⟨b, 0, none⟩ = some (.slice a0 SC.length cap0)) => (hC.but h (fun g e cur _ _ hg he => by omega)).tx hr (Nat.lt_of_lt_of_le hbw h.size))
  have HNC := hid hnc
  have HWF0 := hid hwf
  obtain ⟨nc, hncc⟩ : ∃ nc, SC.length = nc := ⟨_, rfl⟩
  rw [hncc] at hR HC hnc
  have HNN := hid hncc
  simp only [hncc]
  clear hncc hC hwf
  have hB0 : But (· = b) w ((w.alloc (.cells #[.int .i64 0, .int .u8 0, .int .u8 0, .int .i64 0] 150)).alloc (.cells #[.int .i64 i, .int .u8 0, .int .u8 45, .int .i64 0] 150)) := (But.alloc _ _ _).trans (But.alloc _ _ _)
  have hR0 := hR.but ((But.alloc (fun _ => False) w (.cells #[.int .i64 0, .int .u8 0, .int .u8 0, .int .i64 0] 150)).trans (But.alloc _ _ (.cells #[.int .i64 i, .int .u8 0, .int .u8 45, .int .i64 0] 150))) (fun h => h)
  have hg0 : ((w.alloc (.cells #[.int .i64 0, .int .u8 0, .int .u8 0, .int .i64 0] 150)).alloc (.cells #[.int .i64 i, .int .u8 0, .int .u8 45, .int .i64 0] 150)).heap[w.heap.size]? = some (.cells #[.int .i64 0, .int .u8 0, .int .u8 0, .int .i64 0] 150) := by
    rw [(But.alloc (fun _ => False) (w.alloc (.cells #[.int .i64 0, .int .u8 0, .int .u8 0, .int .i64 0] 150)) (.cells #[.int .i64 i, .int .u8 0, .int .u8 45, .int .i64 0] 150)).block w.heap.size (lt_of_block (heap_alloc_new w _)) (fun h => h)]
    exact heap_alloc_new w _
  have hg1 : ((w.alloc (.cells #[.int .i64 0, .int .u8 0, .int .u8 0, .int .i64 0] 150)).alloc (.cells #[.int .i64 i, .int .u8 0, .int .u8 45, .int .i64 0] 150)).heap[w.heap.size + 1]? = some (.cells #[.int .i64 i, .int .u8 0, .int .u8 45, .int .i64 0] 150) := heap_alloc_at (by simp) _
  have HW0 := hid (InsW.mk (i := i) hB0 hg0 hg1)
  have HB1 := hid (xtakeByte_any b s i false _ _ v2 _ hs hR0)
  rw [tbP_ok hlt, hpc] at HB1
  clear hB0 hR0 hg0 hg1
  go_enter Tryz.func112, Tryz.ntmps112
  go_wp2_with fail
  refine HB1.out.mono ?_
  rintro en w1 ⟨rfl, hB1, hR1⟩
  have hW1 := HW0.out.next hbw hB1
  obtain ⟨q0, q1, q2, q3⟩ := row4 hW1.item
  obtain ⟨f0, f1, f2, f3⟩ := froz4 hW1.item
  obtain ⟨y0, y1, y2, y3⟩ := row4 hW1.box
  obtain ⟨g0, g1, g2, g3⟩ := froz4 hW1.box
  have hW2 := hW1.set 1 (.int .u8 120) (by omega)
  simp only [if_true, show (1 : Nat) ≠ 0 from by decide, show ¬ (0 : Nat) = 1 from by decide, show ¬ (1 : Nat) = 0 from by decide, show ¬ (1 : Nat) = 2 from by decide, show ¬ (1 : Nat) = 3 from by decide, if_false] at hW2
  have hR2 := hR1.but (But.setB w1 (w.heap.size + 1) 1 (.int .u8 120)) (by omega)
  have HW2 := hid hW2
  clear hW1 hW2 HW0 HB1 p3
  go_wp2_with fail
  refine (xclass_any b s (i + 1) false _ v2 _ nc cap0 a0 (by omega) hs hR2).mono ?_
  rintro en w3 ⟨rfl, hB3, hR3⟩
  obtain ⟨Y, hY⟩ : ∃ Y, ltX s nc (i + 1) false = Y := ⟨_, rfl⟩
  rw [hY] at hR3
  rw [hY]
  have HY := hid (show ltX s SC.length (i + 1) false = Y by rw [HNN.out]; exact hY)
  clear hY
  obtain ⟨kc, j3, b3⟩ := Y
  dsimp only at hR3 ⊢
  clear q0 q1 q2 q3 f0 f1 f2 f3 y0 y1 y2 y3 g0 g1 g2 g3
  have hW3 := HW2.out.next hbw hB3
  obtain ⟨q0, q1, q2, q3⟩ := row4 hW3.item
  obtain ⟨f0, f1, f2, f3⟩ := froz4 hW3.item
  obtain ⟨y0, y1, y2, y3⟩ := row4 hW3.box
  obtain ⟨g0, g1, g2, g3⟩ := froz4 hW3.box
  have hW4 := hW3.set 2 (.int .u8 kc.toNat) (by omega)
  simp only [if_true, if_false, show ¬ (2 : Nat) = 0 from by decide, show ¬ (2 : Nat) = 1 from by decide, show ¬ (2 : Nat) = 3 from by decide, show ¬ (3 : Nat) = 0 from by decide, show ¬ (3 : Nat) = 1 from by decide, show ¬ (3 : Nat) = 2 from by decide] at hW4
  have hR4 := hR3.but (But.setB w3 (w.heap.size + 1) 2 (.int .u8 kc.toNat)) (by omega)
  have HWF := hid (hW4)
  have hRF := hR4
  go_wp2_with fail
  have h9b := put4_heap HWF.out.box (.int .i64 i) (.int .u8 120) (.int .u8 kc.toNat) (.int .i64 0)
  have h9d := put4_but (w3.setCell ⟨w.heap.size + 1, 2, none⟩ (.int .u8 kc.toNat)) w.heap.size (.int .i64 i) (.int .u8 120) (.int .u8 kc.toNat) (.int .i64 0)
  unfold put4 at h9b h9d
  revert h9b h9d
  generalize ((((w3.setCell ⟨w.heap.size + 1, 2, none⟩ (.int .u8 kc.toNat)).setCell ⟨w.heap.size, 0, none⟩ (.int .i64 i)).setCell ⟨w.heap.size, 1, none⟩ (.int .u8 120)).setCell ⟨w.heap.size, 2, none⟩ (.int .u8 kc.toNat)).setCell ⟨w.heap.size, 3, none⟩ (.int .i64 0) = w9
  intro h9b h9d
  obtain ⟨r0, r1, r2, r3⟩ := row4 h9b
  exact bodyPost_ret (v := .agg #[(.int .i64 i), (.int .u8 120), (.int .u8 kc.toNat), (.int .i64 0)]) (by simp [results, Tryz.results112, go_sem, r0, r1, r2, r3]) rfl ⟨HWF.out.but.next h9d (fun k hk h => by omega), ⟨i, 120, kc, 0⟩, j3, b3, rfl, hRF.but h9d (by omega), ins_cls HNC.out hpc (by simp) HY.out⟩

end
end Go.Proofs.YtmfbojnnoonidaaGreatDoor
