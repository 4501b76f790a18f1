import Derived.Test.YtpfkkmacakjmbaaGreatDoorP22
/- The program's reading of an instruction. Laid by wip/mk/bsf.py. -/
namespace Go.Proofs.YtpfkkmacakjmbaaGreatDoor
open Go Go.RowKit Sp
set_option linter.unusedSimpArgs false
set_option linter.unusedVariables false
attribute [local go_sem ↓] Go.wp_at_zero Go.wp_at_succ
/-- What stands behind a letter, against the document. -/
theorem ins_oper {s : ByteArray} {SC : List Cls} {ng nl i : Nat} {c : UInt8} {x : XIt} {j : Nat} {bad' : Bool} (hnc : SC.length ≤ 4) (hpc : pk s i = c) (hn : ¬ (c.toNat = 114 ∨ c.toNat = 119 ∨ c.toNat = 43 ∨ c.toNat = 45 ∨ c.toNat = 42 ∨ c.toNat = 47 ∨ c.toNat = 60 ∨ c.toNat = 61 ∨ c.toNat = 101 ∨ c.toNat = 122 ∨ c.toNat = 100 ∨ c.toNat = 116 ∨ c.toNat = 107 ∨ c.toNat = 106 ∨ c.toNat = 102))
  (h : operX s SC ng nl i c (i + 1) false = (x, j, bad')) : InsR s SC ng nl i false x j bad' := by
 unfold operX at h
 by_cases h1 : c.toNat = 108 ∨ c.toNat = 115
 ·rw [if_pos h1] at h
  obtain ⟨rfl, rfl, rfl⟩ := (by simpa using h : _ ∧ _ ∧ _)
  exact ins_dig (n := nl) hpc (Or.inr ⟨h1, rfl⟩) rfl
 rw [if_neg h1] at h
 by_cases h2 : c.toNat = 110 ∨ c.toNat = 120
 ·rw [if_pos h2] at h
  obtain ⟨rfl, rfl, rfl⟩ := (by simpa using h : _ ∧ _ ∧ _)
  exact ins_cls hnc hpc h2 rfl
 rw [if_neg h2] at h
 by_cases h3 : c.toNat = 103 ∨ c.toNat = 112
 ·rw [if_pos h3] at h
  obtain ⟨rfl, rfl, rfl⟩ := (by simpa using h : _ ∧ _ ∧ _)
  exact ins_fld hnc hpc h3 rfl rfl
 rw [if_neg h3] at h
 by_cases h4 : c.toNat = 99
 ·rw [if_pos h4] at h
  obtain ⟨rfl, rfl, rfl⟩ := (by simpa using h : _ ∧ _ ∧ _)
  exact ins_call hnc hpc h4 rfl rfl
 rw [if_neg h4] at h
 obtain ⟨rfl, rfl, rfl⟩ := (by simpa using h : _ ∧ _ ∧ _)
 try simp only [Bool.false_eq_true, if_false]
 refine ins_no ?_
 rw [hpc]
 simp only [letters, List.contains_eq_mem, List.mem_cons, List.not_mem_nil, or_false, decide_eq_false_iff_not]
 omega
theorem oper_end {s : ByteArray} {SC : List Cls} {ng nl i : Nat} : operX s SC ng nl i 0 i true = (⟨i, 0, 45, 0, none, 0, 0⟩, i, true) := by
 unfold operX
 simp
section
variable (b base : Nat) (s : ByteArray) (i : Nat) (SC : List Cls) (a0 a1 al : Option Addr) (ng nl cap0 cap1 capl : Nat) (v2 : RdV) (w : World)
set_option maxHeartbeats 3200000 in
set_option maxRecDepth 100000 in
theorem xins_a114 (hlt : i < s.size) (hpc : pk s i = 114) (hnc : SC.length ≤ 4) (hng : ng ≤ 3) (hnl : nl ≤ 10) (hs : s.size ≤ 2000)
  (hR : XrB w b s i false (.slice a0 SC.length cap0) (.slice a1 ng cap1) v2) (hv : v2.hl = .slice al nl capl) :
  Calls Tryz.prog 169 #[.pointer (some ⟨b, 0, none⟩)] w fun en w' => But (· = b) w w' ∧ ∃ x j bad', en = .returned (itV x) ∧ XrB w' b s j bad' (.slice a0 SC.length cap0) (.slice a1 ng cap1) v2 ∧ InsR s SC ng nl i false x j bad' := by
 have hbw := hR.lt
 have p3 := hR.c3
 obtain ⟨hB0, hg0, hg1⟩ := two_boxes w b hbw #[.int .i64 0, .int .u8 0, .int .u8 0, .int .i64 0, .slice none 0 0] #[.int .i64 i, .int .u8 0, .int .u8 45, .int .i64 0, .slice none 0 0] 219
 have hR0 := hR.but ((But.alloc (fun _ => False) w (.cells #[.int .i64 0, .int .u8 0, .int .u8 0, .int .i64 0, .slice none 0 0] 219)).trans (But.alloc _ _ (.cells #[.int .i64 i, .int .u8 0, .int .u8 45, .int .i64 0, .slice none 0 0] 219))) (fun h => h)
 have HW0 := hid (InsW.mk hB0 hg0 hg1)
 have HB1 := hid (xtakeByte_any b s i false _ _ v2 _ hs hR0)
 rw [tbP_ok hlt, hpc] at HB1
 clear hB0 hR0 hg0 hg1
 go_enter Tryz.func169, Tryz.ntmps169
 go_wp2_with fail
 refine HB1.out.mono ?_
 rintro en w1 ⟨rfl, hB1, hR1⟩
 have hW1 := HW0.out.next (by omega) (by omega) hB1
 obtain ⟨q0, q1, q2, q3, q4⟩ := row5 hW1.item
 obtain ⟨f0, f1, f2, f3, f4⟩ := froz5 hW1.item
 obtain ⟨y0, y1, y2, y3, y4⟩ := row5 hW1.box
 obtain ⟨g0, g1, g2, g3, g4⟩ := froz5 hW1.box
 have hW2 := hW1.set1 (by omega) (by omega) (.int .u8 114)
 have hR2 := hR1.but (But.setB w1 (w.heap.size + 1) 1 (.int .u8 114)) (by omega)
 have HW2 := hid hW2
 clear hW1 hW2 HW0 HB1 p3
 have HWF := hid (HW2.out)
 have hRF := hR2
 go_wp2_with fail
 have h9b := put5_heap HWF.out.box (.int .i64 i) (.int .u8 114) (.int .u8 45) (.int .i64 0) (.slice none 0 0)
 have h9d := put5_but (w1.setCell ⟨w.heap.size + 1, 1, none⟩ (.int .u8 114)) w.heap.size (.int .i64 i) (.int .u8 114) (.int .u8 45) (.int .i64 0) (.slice none 0 0)
 unfold put5 at h9b h9d
 revert h9b h9d
 generalize (((((w1.setCell ⟨w.heap.size + 1, 1, none⟩ (.int .u8 114)).setCell ⟨w.heap.size, 0, none⟩ (.int .i64 i)).setCell ⟨w.heap.size, 1, none⟩ (.int .u8 114)).setCell ⟨w.heap.size, 2, none⟩ (.int .u8 45)).setCell ⟨w.heap.size, 3, none⟩ (.int .i64 0)).setCell ⟨w.heap.size, 4, none⟩ (.slice none 0 0) = w9
 intro h9b h9d
 obtain ⟨r0, r1, r2, r3, r4⟩ := row5 h9b
 exact bodyPost_ret (v := .agg #[(.int .i64 i), (.int .u8 114), (.int .u8 45), (.int .i64 0), (.slice none 0 0)]) (by simp [results, Tryz.results169, go_sem, r0, r1, r2, r3, r4]) rfl ⟨HWF.out.but.next h9d (fun k hk h => by omega), ⟨i, 114, 45, 0, none, 0, 0⟩, i + 1, false, rfl, hRF.but h9d (by omega), ins_alone hpc (by decide) (by rfl) (by decide)⟩
set_option maxHeartbeats 3200000 in
set_option maxRecDepth 100000 in
theorem xins_a119 (hlt : i < s.size) (hpc : pk s i = 119) (hnc : SC.length ≤ 4) (hng : ng ≤ 3) (hnl : nl ≤ 10) (hs : s.size ≤ 2000)
  (hR : XrB w b s i false (.slice a0 SC.length cap0) (.slice a1 ng cap1) v2) (hv : v2.hl = .slice al nl capl) :
  Calls Tryz.prog 169 #[.pointer (some ⟨b, 0, none⟩)] w fun en w' => But (· = b) w w' ∧ ∃ x j bad', en = .returned (itV x) ∧ XrB w' b s j bad' (.slice a0 SC.length cap0) (.slice a1 ng cap1) v2 ∧ InsR s SC ng nl i false x j bad' := by
 have hbw := hR.lt
 have p3 := hR.c3
 obtain ⟨hB0, hg0, hg1⟩ := two_boxes w b hbw #[.int .i64 0, .int .u8 0, .int .u8 0, .int .i64 0, .slice none 0 0] #[.int .i64 i, .int .u8 0, .int .u8 45, .int .i64 0, .slice none 0 0] 219
 have hR0 := hR.but ((But.alloc (fun _ => False) w (.cells #[.int .i64 0, .int .u8 0, .int .u8 0, .int .i64 0, .slice none 0 0] 219)).trans (But.alloc _ _ (.cells #[.int .i64 i, .int .u8 0, .int .u8 45, .int .i64 0, .slice none 0 0] 219))) (fun h => h)
 have HW0 := hid (InsW.mk hB0 hg0 hg1)
 have HB1 := hid (xtakeByte_any b s i false _ _ v2 _ hs hR0)
 rw [tbP_ok hlt, hpc] at HB1
 clear hB0 hR0 hg0 hg1
 go_enter Tryz.func169, Tryz.ntmps169
 go_wp2_with fail
 refine HB1.out.mono ?_
 rintro en w1 ⟨rfl, hB1, hR1⟩
 have hW1 := HW0.out.next (by omega) (by omega) hB1
 obtain ⟨q0, q1, q2, q3, q4⟩ := row5 hW1.item
 obtain ⟨f0, f1, f2, f3, f4⟩ := froz5 hW1.item
 obtain ⟨y0, y1, y2, y3, y4⟩ := row5 hW1.box
 obtain ⟨g0, g1, g2, g3, g4⟩ := froz5 hW1.box
 have hW2 := hW1.set1 (by omega) (by omega) (.int .u8 119)
 have hR2 := hR1.but (But.setB w1 (w.heap.size + 1) 1 (.int .u8 119)) (by omega)
 have HW2 := hid hW2
 clear hW1 hW2 HW0 HB1 p3
 have HWF := hid (HW2.out)
 have hRF := hR2
 go_wp2_with fail
 have h9b := put5_heap HWF.out.box (.int .i64 i) (.int .u8 119) (.int .u8 45) (.int .i64 0) (.slice none 0 0)
 have h9d := put5_but (w1.setCell ⟨w.heap.size + 1, 1, none⟩ (.int .u8 119)) w.heap.size (.int .i64 i) (.int .u8 119) (.int .u8 45) (.int .i64 0) (.slice none 0 0)
 unfold put5 at h9b h9d
 revert h9b h9d
 generalize (((((w1.setCell ⟨w.heap.size + 1, 1, none⟩ (.int .u8 119)).setCell ⟨w.heap.size, 0, none⟩ (.int .i64 i)).setCell ⟨w.heap.size, 1, none⟩ (.int .u8 119)).setCell ⟨w.heap.size, 2, none⟩ (.int .u8 45)).setCell ⟨w.heap.size, 3, none⟩ (.int .i64 0)).setCell ⟨w.heap.size, 4, none⟩ (.slice none 0 0) = w9
 intro h9b h9d
 obtain ⟨r0, r1, r2, r3, r4⟩ := row5 h9b
 exact bodyPost_ret (v := .agg #[(.int .i64 i), (.int .u8 119), (.int .u8 45), (.int .i64 0), (.slice none 0 0)]) (by simp [results, Tryz.results169, go_sem, r0, r1, r2, r3, r4]) rfl ⟨HWF.out.but.next h9d (fun k hk h => by omega), ⟨i, 119, 45, 0, none, 0, 0⟩, i + 1, false, rfl, hRF.but h9d (by omega), ins_alone hpc (by decide) (by rfl) (by decide)⟩
set_option maxHeartbeats 3200000 in
set_option maxRecDepth 100000 in
theorem xins_a43 (hlt : i < s.size) (hpc : pk s i = 43) (hnc : SC.length ≤ 4) (hng : ng ≤ 3) (hnl : nl ≤ 10) (hs : s.size ≤ 2000)
  (hR : XrB w b s i false (.slice a0 SC.length cap0) (.slice a1 ng cap1) v2) (hv : v2.hl = .slice al nl capl) :
  Calls Tryz.prog 169 #[.pointer (some ⟨b, 0, none⟩)] w fun en w' => But (· = b) w w' ∧ ∃ x j bad', en = .returned (itV x) ∧ XrB w' b s j bad' (.slice a0 SC.length cap0) (.slice a1 ng cap1) v2 ∧ InsR s SC ng nl i false x j bad' := by
 have hbw := hR.lt
 have p3 := hR.c3
 obtain ⟨hB0, hg0, hg1⟩ := two_boxes w b hbw #[.int .i64 0, .int .u8 0, .int .u8 0, .int .i64 0, .slice none 0 0] #[.int .i64 i, .int .u8 0, .int .u8 45, .int .i64 0, .slice none 0 0] 219
 have hR0 := hR.but ((But.alloc (fun _ => False) w (.cells #[.int .i64 0, .int .u8 0, .int .u8 0, .int .i64 0, .slice none 0 0] 219)).trans (But.alloc _ _ (.cells #[.int .i64 i, .int .u8 0, .int .u8 45, .int .i64 0, .slice none 0 0] 219))) (fun h => h)
 have HW0 := hid (InsW.mk hB0 hg0 hg1)
 have HB1 := hid (xtakeByte_any b s i false _ _ v2 _ hs hR0)
 rw [tbP_ok hlt, hpc] at HB1
 clear hB0 hR0 hg0 hg1
 go_enter Tryz.func169, Tryz.ntmps169
 go_wp2_with fail
 refine HB1.out.mono ?_
 rintro en w1 ⟨rfl, hB1, hR1⟩
 have hW1 := HW0.out.next (by omega) (by omega) hB1
 obtain ⟨q0, q1, q2, q3, q4⟩ := row5 hW1.item
 obtain ⟨f0, f1, f2, f3, f4⟩ := froz5 hW1.item
 obtain ⟨y0, y1, y2, y3, y4⟩ := row5 hW1.box
 obtain ⟨g0, g1, g2, g3, g4⟩ := froz5 hW1.box
 have hW2 := hW1.set1 (by omega) (by omega) (.int .u8 43)
 have hR2 := hR1.but (But.setB w1 (w.heap.size + 1) 1 (.int .u8 43)) (by omega)
 have HW2 := hid hW2
 clear hW1 hW2 HW0 HB1 p3
 have HWF := hid (HW2.out)
 have hRF := hR2
 go_wp2_with fail
 have h9b := put5_heap HWF.out.box (.int .i64 i) (.int .u8 43) (.int .u8 45) (.int .i64 0) (.slice none 0 0)
 have h9d := put5_but (w1.setCell ⟨w.heap.size + 1, 1, none⟩ (.int .u8 43)) w.heap.size (.int .i64 i) (.int .u8 43) (.int .u8 45) (.int .i64 0) (.slice none 0 0)
 unfold put5 at h9b h9d
 revert h9b h9d
 generalize (((((w1.setCell ⟨w.heap.size + 1, 1, none⟩ (.int .u8 43)).setCell ⟨w.heap.size, 0, none⟩ (.int .i64 i)).setCell ⟨w.heap.size, 1, none⟩ (.int .u8 43)).setCell ⟨w.heap.size, 2, none⟩ (.int .u8 45)).setCell ⟨w.heap.size, 3, none⟩ (.int .i64 0)).setCell ⟨w.heap.size, 4, none⟩ (.slice none 0 0) = w9
 intro h9b h9d
 obtain ⟨r0, r1, r2, r3, r4⟩ := row5 h9b
 exact bodyPost_ret (v := .agg #[(.int .i64 i), (.int .u8 43), (.int .u8 45), (.int .i64 0), (.slice none 0 0)]) (by simp [results, Tryz.results169, go_sem, r0, r1, r2, r3, r4]) rfl ⟨HWF.out.but.next h9d (fun k hk h => by omega), ⟨i, 43, 45, 0, none, 0, 0⟩, i + 1, false, rfl, hRF.but h9d (by omega), ins_alone hpc (by decide) (by rfl) (by decide)⟩
set_option maxHeartbeats 3200000 in
set_option maxRecDepth 100000 in
theorem xins_a45 (hlt : i < s.size) (hpc : pk s i = 45) (hnc : SC.length ≤ 4) (hng : ng ≤ 3) (hnl : nl ≤ 10) (hs : s.size ≤ 2000)
  (hR : XrB w b s i false (.slice a0 SC.length cap0) (.slice a1 ng cap1) v2) (hv : v2.hl = .slice al nl capl) :
  Calls Tryz.prog 169 #[.pointer (some ⟨b, 0, none⟩)] w fun en w' => But (· = b) w w' ∧ ∃ x j bad', en = .returned (itV x) ∧ XrB w' b s j bad' (.slice a0 SC.length cap0) (.slice a1 ng cap1) v2 ∧ InsR s SC ng nl i false x j bad' := by
 have hbw := hR.lt
 have p3 := hR.c3
 obtain ⟨hB0, hg0, hg1⟩ := two_boxes w b hbw #[.int .i64 0, .int .u8 0, .int .u8 0, .int .i64 0, .slice none 0 0] #[.int .i64 i, .int .u8 0, .int .u8 45, .int .i64 0, .slice none 0 0] 219
 have hR0 := hR.but ((But.alloc (fun _ => False) w (.cells #[.int .i64 0, .int .u8 0, .int .u8 0, .int .i64 0, .slice none 0 0] 219)).trans (But.alloc _ _ (.cells #[.int .i64 i, .int .u8 0, .int .u8 45, .int .i64 0, .slice none 0 0] 219))) (fun h => h)
 have HW0 := hid (InsW.mk hB0 hg0 hg1)
 have HB1 := hid (xtakeByte_any b s i false _ _ v2 _ hs hR0)
 rw [tbP_ok hlt, hpc] at HB1
 clear hB0 hR0 hg0 hg1
 go_enter Tryz.func169, Tryz.ntmps169
 go_wp2_with fail
 refine HB1.out.mono ?_
 rintro en w1 ⟨rfl, hB1, hR1⟩
 have hW1 := HW0.out.next (by omega) (by omega) hB1
 obtain ⟨q0, q1, q2, q3, q4⟩ := row5 hW1.item
 obtain ⟨f0, f1, f2, f3, f4⟩ := froz5 hW1.item
 obtain ⟨y0, y1, y2, y3, y4⟩ := row5 hW1.box
 obtain ⟨g0, g1, g2, g3, g4⟩ := froz5 hW1.box
 have hW2 := hW1.set1 (by omega) (by omega) (.int .u8 45)
 have hR2 := hR1.but (But.setB w1 (w.heap.size + 1) 1 (.int .u8 45)) (by omega)
 have HW2 := hid hW2
 clear hW1 hW2 HW0 HB1 p3
 have HWF := hid (HW2.out)
 have hRF := hR2
 go_wp2_with fail
 have h9b := put5_heap HWF.out.box (.int .i64 i) (.int .u8 45) (.int .u8 45) (.int .i64 0) (.slice none 0 0)
 have h9d := put5_but (w1.setCell ⟨w.heap.size + 1, 1, none⟩ (.int .u8 45)) w.heap.size (.int .i64 i) (.int .u8 45) (.int .u8 45) (.int .i64 0) (.slice none 0 0)
 unfold put5 at h9b h9d
 revert h9b h9d
 generalize (((((w1.setCell ⟨w.heap.size + 1, 1, none⟩ (.int .u8 45)).setCell ⟨w.heap.size, 0, none⟩ (.int .i64 i)).setCell ⟨w.heap.size, 1, none⟩ (.int .u8 45)).setCell ⟨w.heap.size, 2, none⟩ (.int .u8 45)).setCell ⟨w.heap.size, 3, none⟩ (.int .i64 0)).setCell ⟨w.heap.size, 4, none⟩ (.slice none 0 0) = w9
 intro h9b h9d
 obtain ⟨r0, r1, r2, r3, r4⟩ := row5 h9b
 exact bodyPost_ret (v := .agg #[(.int .i64 i), (.int .u8 45), (.int .u8 45), (.int .i64 0), (.slice none 0 0)]) (by simp [results, Tryz.results169, go_sem, r0, r1, r2, r3, r4]) rfl ⟨HWF.out.but.next h9d (fun k hk h => by omega), ⟨i, 45, 45, 0, none, 0, 0⟩, i + 1, false, rfl, hRF.but h9d (by omega), ins_alone hpc (by decide) (by rfl) (by decide)⟩
set_option maxHeartbeats 3200000 in
set_option maxRecDepth 100000 in
theorem xins_a42 (hlt : i < s.size) (hpc : pk s i = 42) (hnc : SC.length ≤ 4) (hng : ng ≤ 3) (hnl : nl ≤ 10) (hs : s.size ≤ 2000)
  (hR : XrB w b s i false (.slice a0 SC.length cap0) (.slice a1 ng cap1) v2) (hv : v2.hl = .slice al nl capl) :
  Calls Tryz.prog 169 #[.pointer (some ⟨b, 0, none⟩)] w fun en w' => But (· = b) w w' ∧ ∃ x j bad', en = .returned (itV x) ∧ XrB w' b s j bad' (.slice a0 SC.length cap0) (.slice a1 ng cap1) v2 ∧ InsR s SC ng nl i false x j bad' := by
 have hbw := hR.lt
 have p3 := hR.c3
 obtain ⟨hB0, hg0, hg1⟩ := two_boxes w b hbw #[.int .i64 0, .int .u8 0, .int .u8 0, .int .i64 0, .slice none 0 0] #[.int .i64 i, .int .u8 0, .int .u8 45, .int .i64 0, .slice none 0 0] 219
 have hR0 := hR.but ((But.alloc (fun _ => False) w (.cells #[.int .i64 0, .int .u8 0, .int .u8 0, .int .i64 0, .slice none 0 0] 219)).trans (But.alloc _ _ (.cells #[.int .i64 i, .int .u8 0, .int .u8 45, .int .i64 0, .slice none 0 0] 219))) (fun h => h)
 have HW0 := hid (InsW.mk hB0 hg0 hg1)
 have HB1 := hid (xtakeByte_any b s i false _ _ v2 _ hs hR0)
 rw [tbP_ok hlt, hpc] at HB1
 clear hB0 hR0 hg0 hg1
 go_enter Tryz.func169, Tryz.ntmps169
 go_wp2_with fail
 refine HB1.out.mono ?_
 rintro en w1 ⟨rfl, hB1, hR1⟩
 have hW1 := HW0.out.next (by omega) (by omega) hB1
 obtain ⟨q0, q1, q2, q3, q4⟩ := row5 hW1.item
 obtain ⟨f0, f1, f2, f3, f4⟩ := froz5 hW1.item
 obtain ⟨y0, y1, y2, y3, y4⟩ := row5 hW1.box
 obtain ⟨g0, g1, g2, g3, g4⟩ := froz5 hW1.box
 have hW2 := hW1.set1 (by omega) (by omega) (.int .u8 42)
 have hR2 := hR1.but (But.setB w1 (w.heap.size + 1) 1 (.int .u8 42)) (by omega)
 have HW2 := hid hW2
 clear hW1 hW2 HW0 HB1 p3
 have HWF := hid (HW2.out)
 have hRF := hR2
 go_wp2_with fail
 have h9b := put5_heap HWF.out.box (.int .i64 i) (.int .u8 42) (.int .u8 45) (.int .i64 0) (.slice none 0 0)
 have h9d := put5_but (w1.setCell ⟨w.heap.size + 1, 1, none⟩ (.int .u8 42)) w.heap.size (.int .i64 i) (.int .u8 42) (.int .u8 45) (.int .i64 0) (.slice none 0 0)
 unfold put5 at h9b h9d
 revert h9b h9d
 generalize (((((w1.setCell ⟨w.heap.size + 1, 1, none⟩ (.int .u8 42)).setCell ⟨w.heap.size, 0, none⟩ (.int .i64 i)).setCell ⟨w.heap.size, 1, none⟩ (.int .u8 42)).setCell ⟨w.heap.size, 2, none⟩ (.int .u8 45)).setCell ⟨w.heap.size, 3, none⟩ (.int .i64 0)).setCell ⟨w.heap.size, 4, none⟩ (.slice none 0 0) = w9
 intro h9b h9d
 obtain ⟨r0, r1, r2, r3, r4⟩ := row5 h9b
 exact bodyPost_ret (v := .agg #[(.int .i64 i), (.int .u8 42), (.int .u8 45), (.int .i64 0), (.slice none 0 0)]) (by simp [results, Tryz.results169, go_sem, r0, r1, r2, r3, r4]) rfl ⟨HWF.out.but.next h9d (fun k hk h => by omega), ⟨i, 42, 45, 0, none, 0, 0⟩, i + 1, false, rfl, hRF.but h9d (by omega), ins_alone hpc (by decide) (by rfl) (by decide)⟩
set_option maxHeartbeats 3200000 in
set_option maxRecDepth 100000 in
theorem xins_a47 (hlt : i < s.size) (hpc : pk s i = 47) (hnc : SC.length ≤ 4) (hng : ng ≤ 3) (hnl : nl ≤ 10) (hs : s.size ≤ 2000)
  (hR : XrB w b s i false (.slice a0 SC.length cap0) (.slice a1 ng cap1) v2) (hv : v2.hl = .slice al nl capl) :
  Calls Tryz.prog 169 #[.pointer (some ⟨b, 0, none⟩)] w fun en w' => But (· = b) w w' ∧ ∃ x j bad', en = .returned (itV x) ∧ XrB w' b s j bad' (.slice a0 SC.length cap0) (.slice a1 ng cap1) v2 ∧ InsR s SC ng nl i false x j bad' := by
 have hbw := hR.lt
 have p3 := hR.c3
 obtain ⟨hB0, hg0, hg1⟩ := two_boxes w b hbw #[.int .i64 0, .int .u8 0, .int .u8 0, .int .i64 0, .slice none 0 0] #[.int .i64 i, .int .u8 0, .int .u8 45, .int .i64 0, .slice none 0 0] 219
 have hR0 := hR.but ((But.alloc (fun _ => False) w (.cells #[.int .i64 0, .int .u8 0, .int .u8 0, .int .i64 0, .slice none 0 0] 219)).trans (But.alloc _ _ (.cells #[.int .i64 i, .int .u8 0, .int .u8 45, .int .i64 0, .slice none 0 0] 219))) (fun h => h)
 have HW0 := hid (InsW.mk hB0 hg0 hg1)
 have HB1 := hid (xtakeByte_any b s i false _ _ v2 _ hs hR0)
 rw [tbP_ok hlt, hpc] at HB1
 clear hB0 hR0 hg0 hg1
 go_enter Tryz.func169, Tryz.ntmps169
 go_wp2_with fail
 refine HB1.out.mono ?_
 rintro en w1 ⟨rfl, hB1, hR1⟩
 have hW1 := HW0.out.next (by omega) (by omega) hB1
 obtain ⟨q0, q1, q2, q3, q4⟩ := row5 hW1.item
 obtain ⟨f0, f1, f2, f3, f4⟩ := froz5 hW1.item
 obtain ⟨y0, y1, y2, y3, y4⟩ := row5 hW1.box
 obtain ⟨g0, g1, g2, g3, g4⟩ := froz5 hW1.box
 have hW2 := hW1.set1 (by omega) (by omega) (.int .u8 47)
 have hR2 := hR1.but (But.setB w1 (w.heap.size + 1) 1 (.int .u8 47)) (by omega)
 have HW2 := hid hW2
 clear hW1 hW2 HW0 HB1 p3
 have HWF := hid (HW2.out)
 have hRF := hR2
 go_wp2_with fail
 have h9b := put5_heap HWF.out.box (.int .i64 i) (.int .u8 47) (.int .u8 45) (.int .i64 0) (.slice none 0 0)
 have h9d := put5_but (w1.setCell ⟨w.heap.size + 1, 1, none⟩ (.int .u8 47)) w.heap.size (.int .i64 i) (.int .u8 47) (.int .u8 45) (.int .i64 0) (.slice none 0 0)
 unfold put5 at h9b h9d
 revert h9b h9d
 generalize (((((w1.setCell ⟨w.heap.size + 1, 1, none⟩ (.int .u8 47)).setCell ⟨w.heap.size, 0, none⟩ (.int .i64 i)).setCell ⟨w.heap.size, 1, none⟩ (.int .u8 47)).setCell ⟨w.heap.size, 2, none⟩ (.int .u8 45)).setCell ⟨w.heap.size, 3, none⟩ (.int .i64 0)).setCell ⟨w.heap.size, 4, none⟩ (.slice none 0 0) = w9
 intro h9b h9d
 obtain ⟨r0, r1, r2, r3, r4⟩ := row5 h9b
 exact bodyPost_ret (v := .agg #[(.int .i64 i), (.int .u8 47), (.int .u8 45), (.int .i64 0), (.slice none 0 0)]) (by simp [results, Tryz.results169, go_sem, r0, r1, r2, r3, r4]) rfl ⟨HWF.out.but.next h9d (fun k hk h => by omega), ⟨i, 47, 45, 0, none, 0, 0⟩, i + 1, false, rfl, hRF.but h9d (by omega), ins_alone hpc (by decide) (by rfl) (by decide)⟩
set_option maxHeartbeats 3200000 in
set_option maxRecDepth 100000 in
theorem xins_a60 (hlt : i < s.size) (hpc : pk s i = 60) (hnc : SC.length ≤ 4) (hng : ng ≤ 3) (hnl : nl ≤ 10) (hs : s.size ≤ 2000)
  (hR : XrB w b s i false (.slice a0 SC.length cap0) (.slice a1 ng cap1) v2) (hv : v2.hl = .slice al nl capl) :
  Calls Tryz.prog 169 #[.pointer (some ⟨b, 0, none⟩)] w fun en w' => But (· = b) w w' ∧ ∃ x j bad', en = .returned (itV x) ∧ XrB w' b s j bad' (.slice a0 SC.length cap0) (.slice a1 ng cap1) v2 ∧ InsR s SC ng nl i false x j bad' := by
 have hbw := hR.lt
 have p3 := hR.c3
 obtain ⟨hB0, hg0, hg1⟩ := two_boxes w b hbw #[.int .i64 0, .int .u8 0, .int .u8 0, .int .i64 0, .slice none 0 0] #[.int .i64 i, .int .u8 0, .int .u8 45, .int .i64 0, .slice none 0 0] 219
 have hR0 := hR.but ((But.alloc (fun _ => False) w (.cells #[.int .i64 0, .int .u8 0, .int .u8 0, .int .i64 0, .slice none 0 0] 219)).trans (But.alloc _ _ (.cells #[.int .i64 i, .int .u8 0, .int .u8 45, .int .i64 0, .slice none 0 0] 219))) (fun h => h)
 have HW0 := hid (InsW.mk hB0 hg0 hg1)
 have HB1 := hid (xtakeByte_any b s i false _ _ v2 _ hs hR0)
 rw [tbP_ok hlt, hpc] at HB1
 clear hB0 hR0 hg0 hg1
 go_enter Tryz.func169, Tryz.ntmps169
 go_wp2_with fail
 refine HB1.out.mono ?_
 rintro en w1 ⟨rfl, hB1, hR1⟩
 have hW1 := HW0.out.next (by omega) (by omega) hB1
 obtain ⟨q0, q1, q2, q3, q4⟩ := row5 hW1.item
 obtain ⟨f0, f1, f2, f3, f4⟩ := froz5 hW1.item
 obtain ⟨y0, y1, y2, y3, y4⟩ := row5 hW1.box
 obtain ⟨g0, g1, g2, g3, g4⟩ := froz5 hW1.box
 have hW2 := hW1.set1 (by omega) (by omega) (.int .u8 60)
 have hR2 := hR1.but (But.setB w1 (w.heap.size + 1) 1 (.int .u8 60)) (by omega)
 have HW2 := hid hW2
 clear hW1 hW2 HW0 HB1 p3
 have HWF := hid (HW2.out)
 have hRF := hR2
 go_wp2_with fail
 have h9b := put5_heap HWF.out.box (.int .i64 i) (.int .u8 60) (.int .u8 45) (.int .i64 0) (.slice none 0 0)
 have h9d := put5_but (w1.setCell ⟨w.heap.size + 1, 1, none⟩ (.int .u8 60)) w.heap.size (.int .i64 i) (.int .u8 60) (.int .u8 45) (.int .i64 0) (.slice none 0 0)
 unfold put5 at h9b h9d
 revert h9b h9d
 generalize (((((w1.setCell ⟨w.heap.size + 1, 1, none⟩ (.int .u8 60)).setCell ⟨w.heap.size, 0, none⟩ (.int .i64 i)).setCell ⟨w.heap.size, 1, none⟩ (.int .u8 60)).setCell ⟨w.heap.size, 2, none⟩ (.int .u8 45)).setCell ⟨w.heap.size, 3, none⟩ (.int .i64 0)).setCell ⟨w.heap.size, 4, none⟩ (.slice none 0 0) = w9
 intro h9b h9d
 obtain ⟨r0, r1, r2, r3, r4⟩ := row5 h9b
 exact bodyPost_ret (v := .agg #[(.int .i64 i), (.int .u8 60), (.int .u8 45), (.int .i64 0), (.slice none 0 0)]) (by simp [results, Tryz.results169, go_sem, r0, r1, r2, r3, r4]) rfl ⟨HWF.out.but.next h9d (fun k hk h => by omega), ⟨i, 60, 45, 0, none, 0, 0⟩, i + 1, false, rfl, hRF.but h9d (by omega), ins_alone hpc (by decide) (by rfl) (by decide)⟩
set_option maxHeartbeats 3200000 in
set_option maxRecDepth 100000 in
theorem xins_a61 (hlt : i < s.size) (hpc : pk s i = 61) (hnc : SC.length ≤ 4) (hng : ng ≤ 3) (hnl : nl ≤ 10) (hs : s.size ≤ 2000)
  (hR : XrB w b s i false (.slice a0 SC.length cap0) (.slice a1 ng cap1) v2) (hv : v2.hl = .slice al nl capl) :
  Calls Tryz.prog 169 #[.pointer (some ⟨b, 0, none⟩)] w fun en w' => But (· = b) w w' ∧ ∃ x j bad', en = .returned (itV x) ∧ XrB w' b s j bad' (.slice a0 SC.length cap0) (.slice a1 ng cap1) v2 ∧ InsR s SC ng nl i false x j bad' := by
 have hbw := hR.lt
 have p3 := hR.c3
 obtain ⟨hB0, hg0, hg1⟩ := two_boxes w b hbw #[.int .i64 0, .int .u8 0, .int .u8 0, .int .i64 0, .slice none 0 0] #[.int .i64 i, .int .u8 0, .int .u8 45, .int .i64 0, .slice none 0 0] 219
 have hR0 := hR.but ((But.alloc (fun _ => False) w (.cells #[.int .i64 0, .int .u8 0, .int .u8 0, .int .i64 0, .slice none 0 0] 219)).trans (But.alloc _ _ (.cells #[.int .i64 i, .int .u8 0, .int .u8 45, .int .i64 0, .slice none 0 0] 219))) (fun h => h)
 have HW0 := hid (InsW.mk hB0 hg0 hg1)
 have HB1 := hid (xtakeByte_any b s i false _ _ v2 _ hs hR0)
 rw [tbP_ok hlt, hpc] at HB1
 clear hB0 hR0 hg0 hg1
 go_enter Tryz.func169, Tryz.ntmps169
 go_wp2_with fail
 refine HB1.out.mono ?_
 rintro en w1 ⟨rfl, hB1, hR1⟩
 have hW1 := HW0.out.next (by omega) (by omega) hB1
 obtain ⟨q0, q1, q2, q3, q4⟩ := row5 hW1.item
 obtain ⟨f0, f1, f2, f3, f4⟩ := froz5 hW1.item
 obtain ⟨y0, y1, y2, y3, y4⟩ := row5 hW1.box
 obtain ⟨g0, g1, g2, g3, g4⟩ := froz5 hW1.box
 have hW2 := hW1.set1 (by omega) (by omega) (.int .u8 61)
 have hR2 := hR1.but (But.setB w1 (w.heap.size + 1) 1 (.int .u8 61)) (by omega)
 have HW2 := hid hW2
 clear hW1 hW2 HW0 HB1 p3
 have HWF := hid (HW2.out)
 have hRF := hR2
 go_wp2_with fail
 have h9b := put5_heap HWF.out.box (.int .i64 i) (.int .u8 61) (.int .u8 45) (.int .i64 0) (.slice none 0 0)
 have h9d := put5_but (w1.setCell ⟨w.heap.size + 1, 1, none⟩ (.int .u8 61)) w.heap.size (.int .i64 i) (.int .u8 61) (.int .u8 45) (.int .i64 0) (.slice none 0 0)
 unfold put5 at h9b h9d
 revert h9b h9d
 generalize (((((w1.setCell ⟨w.heap.size + 1, 1, none⟩ (.int .u8 61)).setCell ⟨w.heap.size, 0, none⟩ (.int .i64 i)).setCell ⟨w.heap.size, 1, none⟩ (.int .u8 61)).setCell ⟨w.heap.size, 2, none⟩ (.int .u8 45)).setCell ⟨w.heap.size, 3, none⟩ (.int .i64 0)).setCell ⟨w.heap.size, 4, none⟩ (.slice none 0 0) = w9
 intro h9b h9d
 obtain ⟨r0, r1, r2, r3, r4⟩ := row5 h9b
 exact bodyPost_ret (v := .agg #[(.int .i64 i), (.int .u8 61), (.int .u8 45), (.int .i64 0), (.slice none 0 0)]) (by simp [results, Tryz.results169, go_sem, r0, r1, r2, r3, r4]) rfl ⟨HWF.out.but.next h9d (fun k hk h => by omega), ⟨i, 61, 45, 0, none, 0, 0⟩, i + 1, false, rfl, hRF.but h9d (by omega), ins_alone hpc (by decide) (by rfl) (by decide)⟩
set_option maxHeartbeats 3200000 in
set_option maxRecDepth 100000 in
theorem xins_a101 (hlt : i < s.size) (hpc : pk s i = 101) (hnc : SC.length ≤ 4) (hng : ng ≤ 3) (hnl : nl ≤ 10) (hs : s.size ≤ 2000)
  (hR : XrB w b s i false (.slice a0 SC.length cap0) (.slice a1 ng cap1) v2) (hv : v2.hl = .slice al nl capl) :
  Calls Tryz.prog 169 #[.pointer (some ⟨b, 0, none⟩)] w fun en w' => But (· = b) w w' ∧ ∃ x j bad', en = .returned (itV x) ∧ XrB w' b s j bad' (.slice a0 SC.length cap0) (.slice a1 ng cap1) v2 ∧ InsR s SC ng nl i false x j bad' := by
 have hbw := hR.lt
 have p3 := hR.c3
 obtain ⟨hB0, hg0, hg1⟩ := two_boxes w b hbw #[.int .i64 0, .int .u8 0, .int .u8 0, .int .i64 0, .slice none 0 0] #[.int .i64 i, .int .u8 0, .int .u8 45, .int .i64 0, .slice none 0 0] 219
 have hR0 := hR.but ((But.alloc (fun _ => False) w (.cells #[.int .i64 0, .int .u8 0, .int .u8 0, .int .i64 0, .slice none 0 0] 219)).trans (But.alloc _ _ (.cells #[.int .i64 i, .int .u8 0, .int .u8 45, .int .i64 0, .slice none 0 0] 219))) (fun h => h)
 have HW0 := hid (InsW.mk hB0 hg0 hg1)
 have HB1 := hid (xtakeByte_any b s i false _ _ v2 _ hs hR0)
 rw [tbP_ok hlt, hpc] at HB1
 clear hB0 hR0 hg0 hg1
 go_enter Tryz.func169, Tryz.ntmps169
 go_wp2_with fail
 refine HB1.out.mono ?_
 rintro en w1 ⟨rfl, hB1, hR1⟩
 have hW1 := HW0.out.next (by omega) (by omega) hB1
 obtain ⟨q0, q1, q2, q3, q4⟩ := row5 hW1.item
 obtain ⟨f0, f1, f2, f3, f4⟩ := froz5 hW1.item
 obtain ⟨y0, y1, y2, y3, y4⟩ := row5 hW1.box
 obtain ⟨g0, g1, g2, g3, g4⟩ := froz5 hW1.box
 have hW2 := hW1.set1 (by omega) (by omega) (.int .u8 101)
 have hR2 := hR1.but (But.setB w1 (w.heap.size + 1) 1 (.int .u8 101)) (by omega)
 have HW2 := hid hW2
 clear hW1 hW2 HW0 HB1 p3
 have HWF := hid (HW2.out)
 have hRF := hR2
 go_wp2_with fail
 have h9b := put5_heap HWF.out.box (.int .i64 i) (.int .u8 101) (.int .u8 45) (.int .i64 0) (.slice none 0 0)
 have h9d := put5_but (w1.setCell ⟨w.heap.size + 1, 1, none⟩ (.int .u8 101)) w.heap.size (.int .i64 i) (.int .u8 101) (.int .u8 45) (.int .i64 0) (.slice none 0 0)
 unfold put5 at h9b h9d
 revert h9b h9d
 generalize (((((w1.setCell ⟨w.heap.size + 1, 1, none⟩ (.int .u8 101)).setCell ⟨w.heap.size, 0, none⟩ (.int .i64 i)).setCell ⟨w.heap.size, 1, none⟩ (.int .u8 101)).setCell ⟨w.heap.size, 2, none⟩ (.int .u8 45)).setCell ⟨w.heap.size, 3, none⟩ (.int .i64 0)).setCell ⟨w.heap.size, 4, none⟩ (.slice none 0 0) = w9
 intro h9b h9d
 obtain ⟨r0, r1, r2, r3, r4⟩ := row5 h9b
 exact bodyPost_ret (v := .agg #[(.int .i64 i), (.int .u8 101), (.int .u8 45), (.int .i64 0), (.slice none 0 0)]) (by simp [results, Tryz.results169, go_sem, r0, r1, r2, r3, r4]) rfl ⟨HWF.out.but.next h9d (fun k hk h => by omega), ⟨i, 101, 45, 0, none, 0, 0⟩, i + 1, false, rfl, hRF.but h9d (by omega), ins_alone hpc (by decide) (by rfl) (by decide)⟩
set_option maxHeartbeats 3200000 in
set_option maxRecDepth 100000 in
theorem xins_a122 (hlt : i < s.size) (hpc : pk s i = 122) (hnc : SC.length ≤ 4) (hng : ng ≤ 3) (hnl : nl ≤ 10) (hs : s.size ≤ 2000)
  (hR : XrB w b s i false (.slice a0 SC.length cap0) (.slice a1 ng cap1) v2) (hv : v2.hl = .slice al nl capl) :
  Calls Tryz.prog 169 #[.pointer (some ⟨b, 0, none⟩)] w fun en w' => But (· = b) w w' ∧ ∃ x j bad', en = .returned (itV x) ∧ XrB w' b s j bad' (.slice a0 SC.length cap0) (.slice a1 ng cap1) v2 ∧ InsR s SC ng nl i false x j bad' := by
 have hbw := hR.lt
 have p3 := hR.c3
 obtain ⟨hB0, hg0, hg1⟩ := two_boxes w b hbw #[.int .i64 0, .int .u8 0, .int .u8 0, .int .i64 0, .slice none 0 0] #[.int .i64 i, .int .u8 0, .int .u8 45, .int .i64 0, .slice none 0 0] 219
 have hR0 := hR.but ((But.alloc (fun _ => False) w (.cells #[.int .i64 0, .int .u8 0, .int .u8 0, .int .i64 0, .slice none 0 0] 219)).trans (But.alloc _ _ (.cells #[.int .i64 i, .int .u8 0, .int .u8 45, .int .i64 0, .slice none 0 0] 219))) (fun h => h)
 have HW0 := hid (InsW.mk hB0 hg0 hg1)
 have HB1 := hid (xtakeByte_any b s i false _ _ v2 _ hs hR0)
 rw [tbP_ok hlt, hpc] at HB1
 clear hB0 hR0 hg0 hg1
 go_enter Tryz.func169, Tryz.ntmps169
 go_wp2_with fail
 refine HB1.out.mono ?_
 rintro en w1 ⟨rfl, hB1, hR1⟩
 have hW1 := HW0.out.next (by omega) (by omega) hB1
 obtain ⟨q0, q1, q2, q3, q4⟩ := row5 hW1.item
 obtain ⟨f0, f1, f2, f3, f4⟩ := froz5 hW1.item
 obtain ⟨y0, y1, y2, y3, y4⟩ := row5 hW1.box
 obtain ⟨g0, g1, g2, g3, g4⟩ := froz5 hW1.box
 have hW2 := hW1.set1 (by omega) (by omega) (.int .u8 122)
 have hR2 := hR1.but (But.setB w1 (w.heap.size + 1) 1 (.int .u8 122)) (by omega)
 have HW2 := hid hW2
 clear hW1 hW2 HW0 HB1 p3
 have HWF := hid (HW2.out)
 have hRF := hR2
 go_wp2_with fail
 have h9b := put5_heap HWF.out.box (.int .i64 i) (.int .u8 122) (.int .u8 45) (.int .i64 0) (.slice none 0 0)
 have h9d := put5_but (w1.setCell ⟨w.heap.size + 1, 1, none⟩ (.int .u8 122)) w.heap.size (.int .i64 i) (.int .u8 122) (.int .u8 45) (.int .i64 0) (.slice none 0 0)
 unfold put5 at h9b h9d
 revert h9b h9d
 generalize (((((w1.setCell ⟨w.heap.size + 1, 1, none⟩ (.int .u8 122)).setCell ⟨w.heap.size, 0, none⟩ (.int .i64 i)).setCell ⟨w.heap.size, 1, none⟩ (.int .u8 122)).setCell ⟨w.heap.size, 2, none⟩ (.int .u8 45)).setCell ⟨w.heap.size, 3, none⟩ (.int .i64 0)).setCell ⟨w.heap.size, 4, none⟩ (.slice none 0 0) = w9
 intro h9b h9d
 obtain ⟨r0, r1, r2, r3, r4⟩ := row5 h9b
 exact bodyPost_ret (v := .agg #[(.int .i64 i), (.int .u8 122), (.int .u8 45), (.int .i64 0), (.slice none 0 0)]) (by simp [results, Tryz.results169, go_sem, r0, r1, r2, r3, r4]) rfl ⟨HWF.out.but.next h9d (fun k hk h => by omega), ⟨i, 122, 45, 0, none, 0, 0⟩, i + 1, false, rfl, hRF.but h9d (by omega), ins_alone hpc (by decide) (by rfl) (by decide)⟩
set_option maxHeartbeats 3200000 in
set_option maxRecDepth 100000 in
theorem xins_a100 (hlt : i < s.size) (hpc : pk s i = 100) (hnc : SC.length ≤ 4) (hng : ng ≤ 3) (hnl : nl ≤ 10) (hs : s.size ≤ 2000)
  (hR : XrB w b s i false (.slice a0 SC.length cap0) (.slice a1 ng cap1) v2) (hv : v2.hl = .slice al nl capl) :
  Calls Tryz.prog 169 #[.pointer (some ⟨b, 0, none⟩)] w fun en w' => But (· = b) w w' ∧ ∃ x j bad', en = .returned (itV x) ∧ XrB w' b s j bad' (.slice a0 SC.length cap0) (.slice a1 ng cap1) v2 ∧ InsR s SC ng nl i false x j bad' := by
 have hbw := hR.lt
 have p3 := hR.c3
 obtain ⟨hB0, hg0, hg1⟩ := two_boxes w b hbw #[.int .i64 0, .int .u8 0, .int .u8 0, .int .i64 0, .slice none 0 0] #[.int .i64 i, .int .u8 0, .int .u8 45, .int .i64 0, .slice none 0 0] 219
 have hR0 := hR.but ((But.alloc (fun _ => False) w (.cells #[.int .i64 0, .int .u8 0, .int .u8 0, .int .i64 0, .slice none 0 0] 219)).trans (But.alloc _ _ (.cells #[.int .i64 i, .int .u8 0, .int .u8 45, .int .i64 0, .slice none 0 0] 219))) (fun h => h)
 have HW0 := hid (InsW.mk hB0 hg0 hg1)
 have HB1 := hid (xtakeByte_any b s i false _ _ v2 _ hs hR0)
 rw [tbP_ok hlt, hpc] at HB1
 clear hB0 hR0 hg0 hg1
 go_enter Tryz.func169, Tryz.ntmps169
 go_wp2_with fail
 refine HB1.out.mono ?_
 rintro en w1 ⟨rfl, hB1, hR1⟩
 have hW1 := HW0.out.next (by omega) (by omega) hB1
 obtain ⟨q0, q1, q2, q3, q4⟩ := row5 hW1.item
 obtain ⟨f0, f1, f2, f3, f4⟩ := froz5 hW1.item
 obtain ⟨y0, y1, y2, y3, y4⟩ := row5 hW1.box
 obtain ⟨g0, g1, g2, g3, g4⟩ := froz5 hW1.box
 have hW2 := hW1.set1 (by omega) (by omega) (.int .u8 100)
 have hR2 := hR1.but (But.setB w1 (w.heap.size + 1) 1 (.int .u8 100)) (by omega)
 have HW2 := hid hW2
 clear hW1 hW2 HW0 HB1 p3
 have HWF := hid (HW2.out)
 have hRF := hR2
 go_wp2_with fail
 have h9b := put5_heap HWF.out.box (.int .i64 i) (.int .u8 100) (.int .u8 45) (.int .i64 0) (.slice none 0 0)
 have h9d := put5_but (w1.setCell ⟨w.heap.size + 1, 1, none⟩ (.int .u8 100)) w.heap.size (.int .i64 i) (.int .u8 100) (.int .u8 45) (.int .i64 0) (.slice none 0 0)
 unfold put5 at h9b h9d
 revert h9b h9d
 generalize (((((w1.setCell ⟨w.heap.size + 1, 1, none⟩ (.int .u8 100)).setCell ⟨w.heap.size, 0, none⟩ (.int .i64 i)).setCell ⟨w.heap.size, 1, none⟩ (.int .u8 100)).setCell ⟨w.heap.size, 2, none⟩ (.int .u8 45)).setCell ⟨w.heap.size, 3, none⟩ (.int .i64 0)).setCell ⟨w.heap.size, 4, none⟩ (.slice none 0 0) = w9
 intro h9b h9d
 obtain ⟨r0, r1, r2, r3, r4⟩ := row5 h9b
 exact bodyPost_ret (v := .agg #[(.int .i64 i), (.int .u8 100), (.int .u8 45), (.int .i64 0), (.slice none 0 0)]) (by simp [results, Tryz.results169, go_sem, r0, r1, r2, r3, r4]) rfl ⟨HWF.out.but.next h9d (fun k hk h => by omega), ⟨i, 100, 45, 0, none, 0, 0⟩, i + 1, false, rfl, hRF.but h9d (by omega), ins_alone hpc (by decide) (by rfl) (by decide)⟩
set_option maxHeartbeats 3200000 in
set_option maxRecDepth 100000 in
theorem xins_a116 (hlt : i < s.size) (hpc : pk s i = 116) (hnc : SC.length ≤ 4) (hng : ng ≤ 3) (hnl : nl ≤ 10) (hs : s.size ≤ 2000)
  (hR : XrB w b s i false (.slice a0 SC.length cap0) (.slice a1 ng cap1) v2) (hv : v2.hl = .slice al nl capl) :
  Calls Tryz.prog 169 #[.pointer (some ⟨b, 0, none⟩)] w fun en w' => But (· = b) w w' ∧ ∃ x j bad', en = .returned (itV x) ∧ XrB w' b s j bad' (.slice a0 SC.length cap0) (.slice a1 ng cap1) v2 ∧ InsR s SC ng nl i false x j bad' := by
 have hbw := hR.lt
 have p3 := hR.c3
 obtain ⟨hB0, hg0, hg1⟩ := two_boxes w b hbw #[.int .i64 0, .int .u8 0, .int .u8 0, .int .i64 0, .slice none 0 0] #[.int .i64 i, .int .u8 0, .int .u8 45, .int .i64 0, .slice none 0 0] 219
 have hR0 := hR.but ((But.alloc (fun _ => False) w (.cells #[.int .i64 0, .int .u8 0, .int .u8 0, .int .i64 0, .slice none 0 0] 219)).trans (But.alloc _ _ (.cells #[.int .i64 i, .int .u8 0, .int .u8 45, .int .i64 0, .slice none 0 0] 219))) (fun h => h)
 have HW0 := hid (InsW.mk hB0 hg0 hg1)
 have HB1 := hid (xtakeByte_any b s i false _ _ v2 _ hs hR0)
 rw [tbP_ok hlt, hpc] at HB1
 clear hB0 hR0 hg0 hg1
 go_enter Tryz.func169, Tryz.ntmps169
 go_wp2_with fail
 refine HB1.out.mono ?_
 rintro en w1 ⟨rfl, hB1, hR1⟩
 have hW1 := HW0.out.next (by omega) (by omega) hB1
 obtain ⟨q0, q1, q2, q3, q4⟩ := row5 hW1.item
 obtain ⟨f0, f1, f2, f3, f4⟩ := froz5 hW1.item
 obtain ⟨y0, y1, y2, y3, y4⟩ := row5 hW1.box
 obtain ⟨g0, g1, g2, g3, g4⟩ := froz5 hW1.box
 have hW2 := hW1.set1 (by omega) (by omega) (.int .u8 116)
 have hR2 := hR1.but (But.setB w1 (w.heap.size + 1) 1 (.int .u8 116)) (by omega)
 have HW2 := hid hW2
 clear hW1 hW2 HW0 HB1 p3
 have HWF := hid (HW2.out)
 have hRF := hR2
 go_wp2_with fail
 have h9b := put5_heap HWF.out.box (.int .i64 i) (.int .u8 116) (.int .u8 45) (.int .i64 0) (.slice none 0 0)
 have h9d := put5_but (w1.setCell ⟨w.heap.size + 1, 1, none⟩ (.int .u8 116)) w.heap.size (.int .i64 i) (.int .u8 116) (.int .u8 45) (.int .i64 0) (.slice none 0 0)
 unfold put5 at h9b h9d
 revert h9b h9d
 generalize (((((w1.setCell ⟨w.heap.size + 1, 1, none⟩ (.int .u8 116)).setCell ⟨w.heap.size, 0, none⟩ (.int .i64 i)).setCell ⟨w.heap.size, 1, none⟩ (.int .u8 116)).setCell ⟨w.heap.size, 2, none⟩ (.int .u8 45)).setCell ⟨w.heap.size, 3, none⟩ (.int .i64 0)).setCell ⟨w.heap.size, 4, none⟩ (.slice none 0 0) = w9
 intro h9b h9d
 obtain ⟨r0, r1, r2, r3, r4⟩ := row5 h9b
 exact bodyPost_ret (v := .agg #[(.int .i64 i), (.int .u8 116), (.int .u8 45), (.int .i64 0), (.slice none 0 0)]) (by simp [results, Tryz.results169, go_sem, r0, r1, r2, r3, r4]) rfl ⟨HWF.out.but.next h9d (fun k hk h => by omega), ⟨i, 116, 45, 0, none, 0, 0⟩, i + 1, false, rfl, hRF.but h9d (by omega), ins_alone hpc (by decide) (by rfl) (by decide)⟩
set_option maxHeartbeats 3200000 in
set_option maxRecDepth 100000 in
theorem xins_d107 (hlt : i < s.size) (hpc : pk s i = 107) (hnc : SC.length ≤ 4) (hng : ng ≤ 3) (hnl : nl ≤ 10) (hs : s.size ≤ 2000)
  (hR : XrB w b s i false (.slice a0 SC.length cap0) (.slice a1 ng cap1) v2) (hv : v2.hl = .slice al nl capl) :
  Calls Tryz.prog 169 #[.pointer (some ⟨b, 0, none⟩)] w fun en w' => But (· = b) w w' ∧ ∃ x j bad', en = .returned (itV x) ∧ XrB w' b s j bad' (.slice a0 SC.length cap0) (.slice a1 ng cap1) v2 ∧ InsR s SC ng nl i false x j bad' := by
 have hbw := hR.lt
 have p3 := hR.c3
 obtain ⟨hB0, hg0, hg1⟩ := two_boxes w b hbw #[.int .i64 0, .int .u8 0, .int .u8 0, .int .i64 0, .slice none 0 0] #[.int .i64 i, .int .u8 0, .int .u8 45, .int .i64 0, .slice none 0 0] 219
 have hR0 := hR.but ((But.alloc (fun _ => False) w (.cells #[.int .i64 0, .int .u8 0, .int .u8 0, .int .i64 0, .slice none 0 0] 219)).trans (But.alloc _ _ (.cells #[.int .i64 i, .int .u8 0, .int .u8 45, .int .i64 0, .slice none 0 0] 219))) (fun h => h)
 have HW0 := hid (InsW.mk hB0 hg0 hg1)
 have HB1 := hid (xtakeByte_any b s i false _ _ v2 _ hs hR0)
 rw [tbP_ok hlt, hpc] at HB1
 clear hB0 hR0 hg0 hg1
 go_enter Tryz.func169, Tryz.ntmps169
 go_wp2_with fail
 refine HB1.out.mono ?_
 rintro en w1 ⟨rfl, hB1, hR1⟩
 have hW1 := HW0.out.next (by omega) (by omega) hB1
 obtain ⟨q0, q1, q2, q3, q4⟩ := row5 hW1.item
 obtain ⟨f0, f1, f2, f3, f4⟩ := froz5 hW1.item
 obtain ⟨y0, y1, y2, y3, y4⟩ := row5 hW1.box
 obtain ⟨g0, g1, g2, g3, g4⟩ := froz5 hW1.box
 have hW2 := hW1.set1 (by omega) (by omega) (.int .u8 107)
 have hR2 := hR1.but (But.setB w1 (w.heap.size + 1) 1 (.int .u8 107)) (by omega)
 have HW2 := hid hW2
 clear hW1 hW2 HW0 HB1 p3
 go_wp2_with fail
 refine (xtakeDigit_any b s (i + 1) false _ _ v2 _ 10 (by omega) hs hR2).mono ?_
 rintro en w5 ⟨rfl, hB5, hR5⟩
 obtain ⟨Z, hZ⟩ : ∃ Z, dgX s 10 (i + 1) false = Z := ⟨_, rfl⟩
 rw [hZ] at hR5
 rw [hZ]
 have HZ := hid hZ
 clear hZ
 obtain ⟨d, j5, b5⟩ := Z
 dsimp only at hR5 ⊢
 clear q0 q1 q2 q3 q4 f0 f1 f2 f3 f4 y0 y1 y2 y3 y4 g0 g1 g2 g3 g4
 have hW5 := HW2.out.next (by omega) (by omega) hB5
 obtain ⟨q0, q1, q2, q3, q4⟩ := row5 hW5.item
 obtain ⟨f0, f1, f2, f3, f4⟩ := froz5 hW5.item
 obtain ⟨y0, y1, y2, y3, y4⟩ := row5 hW5.box
 obtain ⟨g0, g1, g2, g3, g4⟩ := froz5 hW5.box
 have hW6 := hW5.set3 (by omega) (by omega) (.int .i64 d)
 have hR6 := hR5.but (But.setB w5 (w.heap.size + 1) 3 (.int .i64 d)) (by omega)
 have HWF := hid (hW6)
 have hRF := hR6
 go_wp2_with fail
 have h9b := put5_heap HWF.out.box (.int .i64 i) (.int .u8 107) (.int .u8 45) (.int .i64 d) (.slice none 0 0)
 have h9d := put5_but (w5.setCell ⟨w.heap.size + 1, 3, none⟩ (.int .i64 d)) w.heap.size (.int .i64 i) (.int .u8 107) (.int .u8 45) (.int .i64 d) (.slice none 0 0)
 unfold put5 at h9b h9d
 revert h9b h9d
 generalize (((((w5.setCell ⟨w.heap.size + 1, 3, none⟩ (.int .i64 d)).setCell ⟨w.heap.size, 0, none⟩ (.int .i64 i)).setCell ⟨w.heap.size, 1, none⟩ (.int .u8 107)).setCell ⟨w.heap.size, 2, none⟩ (.int .u8 45)).setCell ⟨w.heap.size, 3, none⟩ (.int .i64 d)).setCell ⟨w.heap.size, 4, none⟩ (.slice none 0 0) = w9
 intro h9b h9d
 obtain ⟨r0, r1, r2, r3, r4⟩ := row5 h9b
 exact bodyPost_ret (v := .agg #[(.int .i64 i), (.int .u8 107), (.int .u8 45), (.int .i64 d), (.slice none 0 0)]) (by simp [results, Tryz.results169, go_sem, r0, r1, r2, r3, r4]) rfl ⟨HWF.out.but.next h9d (fun k hk h => by omega), ⟨i, 107, 45, d, none, 0, 0⟩, j5, b5, rfl, hRF.but h9d (by omega), ins_dig (n := 10) hpc (by simp) HZ.out⟩
set_option maxHeartbeats 3200000 in
set_option maxRecDepth 100000 in
theorem xins_d106 (hlt : i < s.size) (hpc : pk s i = 106) (hnc : SC.length ≤ 4) (hng : ng ≤ 3) (hnl : nl ≤ 10) (hs : s.size ≤ 2000)
  (hR : XrB w b s i false (.slice a0 SC.length cap0) (.slice a1 ng cap1) v2) (hv : v2.hl = .slice al nl capl) :
  Calls Tryz.prog 169 #[.pointer (some ⟨b, 0, none⟩)] w fun en w' => But (· = b) w w' ∧ ∃ x j bad', en = .returned (itV x) ∧ XrB w' b s j bad' (.slice a0 SC.length cap0) (.slice a1 ng cap1) v2 ∧ InsR s SC ng nl i false x j bad' := by
 have hbw := hR.lt
 have p3 := hR.c3
 obtain ⟨hB0, hg0, hg1⟩ := two_boxes w b hbw #[.int .i64 0, .int .u8 0, .int .u8 0, .int .i64 0, .slice none 0 0] #[.int .i64 i, .int .u8 0, .int .u8 45, .int .i64 0, .slice none 0 0] 219
 have hR0 := hR.but ((But.alloc (fun _ => False) w (.cells #[.int .i64 0, .int .u8 0, .int .u8 0, .int .i64 0, .slice none 0 0] 219)).trans (But.alloc _ _ (.cells #[.int .i64 i, .int .u8 0, .int .u8 45, .int .i64 0, .slice none 0 0] 219))) (fun h => h)
 have HW0 := hid (InsW.mk hB0 hg0 hg1)
 have HB1 := hid (xtakeByte_any b s i false _ _ v2 _ hs hR0)
 rw [tbP_ok hlt, hpc] at HB1
 clear hB0 hR0 hg0 hg1
 go_enter Tryz.func169, Tryz.ntmps169
 go_wp2_with fail
 refine HB1.out.mono ?_
 rintro en w1 ⟨rfl, hB1, hR1⟩
 have hW1 := HW0.out.next (by omega) (by omega) hB1
 obtain ⟨q0, q1, q2, q3, q4⟩ := row5 hW1.item
 obtain ⟨f0, f1, f2, f3, f4⟩ := froz5 hW1.item
 obtain ⟨y0, y1, y2, y3, y4⟩ := row5 hW1.box
 obtain ⟨g0, g1, g2, g3, g4⟩ := froz5 hW1.box
 have hW2 := hW1.set1 (by omega) (by omega) (.int .u8 106)
 have hR2 := hR1.but (But.setB w1 (w.heap.size + 1) 1 (.int .u8 106)) (by omega)
 have HW2 := hid hW2
 clear hW1 hW2 HW0 HB1 p3
 go_wp2_with fail
 refine (xtarget_any b s (i + 1) false _ _ v2 _ hs hR2).mono ?_
 rintro en w5 ⟨rfl, hB5, hR5⟩
 obtain ⟨Z, hZ⟩ : ∃ Z, tgX s (i + 1) false = Z := ⟨_, rfl⟩
 rw [hZ] at hR5
 rw [hZ]
 have HZ := hid hZ
 clear hZ
 obtain ⟨d, j5, b5⟩ := Z
 dsimp only at hR5 ⊢
 clear q0 q1 q2 q3 q4 f0 f1 f2 f3 f4 y0 y1 y2 y3 y4 g0 g1 g2 g3 g4
 have hW5 := HW2.out.next (by omega) (by omega) hB5
 obtain ⟨q0, q1, q2, q3, q4⟩ := row5 hW5.item
 obtain ⟨f0, f1, f2, f3, f4⟩ := froz5 hW5.item
 obtain ⟨y0, y1, y2, y3, y4⟩ := row5 hW5.box
 obtain ⟨g0, g1, g2, g3, g4⟩ := froz5 hW5.box
 have hW6 := hW5.set3 (by omega) (by omega) (.int .i64 d)
 have hR6 := hR5.but (But.setB w5 (w.heap.size + 1) 3 (.int .i64 d)) (by omega)
 have HWF := hid (hW6)
 have hRF := hR6
 go_wp2_with fail
 have h9b := put5_heap HWF.out.box (.int .i64 i) (.int .u8 106) (.int .u8 45) (.int .i64 d) (.slice none 0 0)
 have h9d := put5_but (w5.setCell ⟨w.heap.size + 1, 3, none⟩ (.int .i64 d)) w.heap.size (.int .i64 i) (.int .u8 106) (.int .u8 45) (.int .i64 d) (.slice none 0 0)
 unfold put5 at h9b h9d
 revert h9b h9d
 generalize (((((w5.setCell ⟨w.heap.size + 1, 3, none⟩ (.int .i64 d)).setCell ⟨w.heap.size, 0, none⟩ (.int .i64 i)).setCell ⟨w.heap.size, 1, none⟩ (.int .u8 106)).setCell ⟨w.heap.size, 2, none⟩ (.int .u8 45)).setCell ⟨w.heap.size, 3, none⟩ (.int .i64 d)).setCell ⟨w.heap.size, 4, none⟩ (.slice none 0 0) = w9
 intro h9b h9d
 obtain ⟨r0, r1, r2, r3, r4⟩ := row5 h9b
 exact bodyPost_ret (v := .agg #[(.int .i64 i), (.int .u8 106), (.int .u8 45), (.int .i64 d), (.slice none 0 0)]) (by simp [results, Tryz.results169, go_sem, r0, r1, r2, r3, r4]) rfl ⟨HWF.out.but.next h9d (fun k hk h => by omega), ⟨i, 106, 45, d, none, 0, 0⟩, j5, b5, rfl, hRF.but h9d (by omega), ins_tgt hpc (by simp) HZ.out⟩
set_option maxHeartbeats 3200000 in
set_option maxRecDepth 100000 in
theorem xins_d102 (hlt : i < s.size) (hpc : pk s i = 102) (hnc : SC.length ≤ 4) (hng : ng ≤ 3) (hnl : nl ≤ 10) (hs : s.size ≤ 2000)
  (hR : XrB w b s i false (.slice a0 SC.length cap0) (.slice a1 ng cap1) v2) (hv : v2.hl = .slice al nl capl) :
  Calls Tryz.prog 169 #[.pointer (some ⟨b, 0, none⟩)] w fun en w' => But (· = b) w w' ∧ ∃ x j bad', en = .returned (itV x) ∧ XrB w' b s j bad' (.slice a0 SC.length cap0) (.slice a1 ng cap1) v2 ∧ InsR s SC ng nl i false x j bad' := by
 have hbw := hR.lt
 have p3 := hR.c3
 obtain ⟨hB0, hg0, hg1⟩ := two_boxes w b hbw #[.int .i64 0, .int .u8 0, .int .u8 0, .int .i64 0, .slice none 0 0] #[.int .i64 i, .int .u8 0, .int .u8 45, .int .i64 0, .slice none 0 0] 219
 have hR0 := hR.but ((But.alloc (fun _ => False) w (.cells #[.int .i64 0, .int .u8 0, .int .u8 0, .int .i64 0, .slice none 0 0] 219)).trans (But.alloc _ _ (.cells #[.int .i64 i, .int .u8 0, .int .u8 45, .int .i64 0, .slice none 0 0] 219))) (fun h => h)
 have HW0 := hid (InsW.mk hB0 hg0 hg1)
 have HB1 := hid (xtakeByte_any b s i false _ _ v2 _ hs hR0)
 rw [tbP_ok hlt, hpc] at HB1
 clear hB0 hR0 hg0 hg1
 go_enter Tryz.func169, Tryz.ntmps169
 go_wp2_with fail
 refine HB1.out.mono ?_
 rintro en w1 ⟨rfl, hB1, hR1⟩
 have hW1 := HW0.out.next (by omega) (by omega) hB1
 obtain ⟨q0, q1, q2, q3, q4⟩ := row5 hW1.item
 obtain ⟨f0, f1, f2, f3, f4⟩ := froz5 hW1.item
 obtain ⟨y0, y1, y2, y3, y4⟩ := row5 hW1.box
 obtain ⟨g0, g1, g2, g3, g4⟩ := froz5 hW1.box
 have hW2 := hW1.set1 (by omega) (by omega) (.int .u8 102)
 have hR2 := hR1.but (But.setB w1 (w.heap.size + 1) 1 (.int .u8 102)) (by omega)
 have HW2 := hid hW2
 clear hW1 hW2 HW0 HB1 p3
 go_wp2_with fail
 refine (xtarget_any b s (i + 1) false _ _ v2 _ hs hR2).mono ?_
 rintro en w5 ⟨rfl, hB5, hR5⟩
 obtain ⟨Z, hZ⟩ : ∃ Z, tgX s (i + 1) false = Z := ⟨_, rfl⟩
 rw [hZ] at hR5
 rw [hZ]
 have HZ := hid hZ
 clear hZ
 obtain ⟨d, j5, b5⟩ := Z
 dsimp only at hR5 ⊢
 clear q0 q1 q2 q3 q4 f0 f1 f2 f3 f4 y0 y1 y2 y3 y4 g0 g1 g2 g3 g4
 have hW5 := HW2.out.next (by omega) (by omega) hB5
 obtain ⟨q0, q1, q2, q3, q4⟩ := row5 hW5.item
 obtain ⟨f0, f1, f2, f3, f4⟩ := froz5 hW5.item
 obtain ⟨y0, y1, y2, y3, y4⟩ := row5 hW5.box
 obtain ⟨g0, g1, g2, g3, g4⟩ := froz5 hW5.box
 have hW6 := hW5.set3 (by omega) (by omega) (.int .i64 d)
 have hR6 := hR5.but (But.setB w5 (w.heap.size + 1) 3 (.int .i64 d)) (by omega)
 have HWF := hid (hW6)
 have hRF := hR6
 go_wp2_with fail
 have h9b := put5_heap HWF.out.box (.int .i64 i) (.int .u8 102) (.int .u8 45) (.int .i64 d) (.slice none 0 0)
 have h9d := put5_but (w5.setCell ⟨w.heap.size + 1, 3, none⟩ (.int .i64 d)) w.heap.size (.int .i64 i) (.int .u8 102) (.int .u8 45) (.int .i64 d) (.slice none 0 0)
 unfold put5 at h9b h9d
 revert h9b h9d
 generalize (((((w5.setCell ⟨w.heap.size + 1, 3, none⟩ (.int .i64 d)).setCell ⟨w.heap.size, 0, none⟩ (.int .i64 i)).setCell ⟨w.heap.size, 1, none⟩ (.int .u8 102)).setCell ⟨w.heap.size, 2, none⟩ (.int .u8 45)).setCell ⟨w.heap.size, 3, none⟩ (.int .i64 d)).setCell ⟨w.heap.size, 4, none⟩ (.slice none 0 0) = w9
 intro h9b h9d
 obtain ⟨r0, r1, r2, r3, r4⟩ := row5 h9b
 exact bodyPost_ret (v := .agg #[(.int .i64 i), (.int .u8 102), (.int .u8 45), (.int .i64 d), (.slice none 0 0)]) (by simp [results, Tryz.results169, go_sem, r0, r1, r2, r3, r4]) rfl ⟨HWF.out.but.next h9d (fun k hk h => by omega), ⟨i, 102, 45, d, none, 0, 0⟩, j5, b5, rfl, hRF.but h9d (by omega), ins_tgt hpc (by simp) HZ.out⟩
set_option maxHeartbeats 3200000 in
set_option maxRecDepth 100000 in
theorem xins_other (bad : Bool) (c : UInt8) (j1 : Nat) (bad1 : Bool) (hT : tbP s i bad = (c, j1, bad1)) (hn : ¬ (c.toNat = 114 ∨ c.toNat = 119 ∨ c.toNat = 43 ∨ c.toNat = 45 ∨ c.toNat = 42 ∨ c.toNat = 47 ∨ c.toNat = 60 ∨ c.toNat = 61 ∨ c.toNat = 101 ∨ c.toNat = 122 ∨ c.toNat = 100 ∨ c.toNat = 116 ∨ c.toNat = 107 ∨ c.toNat = 106 ∨ c.toNat = 102)) (hI : ∀ x j bad', operX s SC ng nl i c j1 bad1 = (x, j, bad') → InsR s SC ng nl i bad x j bad') (hnc : SC.length ≤ 4) (hng : ng ≤ 3) (hnl : nl ≤ 10) (hs : s.size ≤ 2000)
  (hR : XrB w b s i bad (.slice a0 SC.length cap0) (.slice a1 ng cap1) v2) (hv : v2.hl = .slice al nl capl) (hG : c.toNat = 103 ∨ c.toNat = 112 → WfC SC ∧ TcV w base (.slice a0 SC.length cap0) (SC.map toX)) (hb : b < base) :
  Calls Tryz.prog 169 #[.pointer (some ⟨b, 0, none⟩)] w fun en w' => But (· = b) w w' ∧ ∃ x j bad', en = .returned (itV x) ∧ XrB w' b s j bad' (.slice a0 SC.length cap0) (.slice a1 ng cap1) v2 ∧ InsR s SC ng nl i bad x j bad' := by
 have hbw := hR.lt
 have p3 := hR.c3
 obtain ⟨hB0, hg0, hg1⟩ := two_boxes w b hbw #[.int .i64 0, .int .u8 0, .int .u8 0, .int .i64 0, .slice none 0 0] #[.int .i64 i, .int .u8 0, .int .u8 45, .int .i64 0, .slice none 0 0] 219
 have hR0 := hR.but ((But.alloc (fun _ => False) w (.cells #[.int .i64 0, .int .u8 0, .int .u8 0, .int .i64 0, .slice none 0 0] 219)).trans (But.alloc _ _ (.cells #[.int .i64 i, .int .u8 0, .int .u8 45, .int .i64 0, .slice none 0 0] 219))) (fun h => h)
 have HW0 := hid (InsW.mk hB0 hg0 hg1)
 have HB1 := hid (xtakeByte_any b s i bad _ _ v2 _ hs hR0)
 rw [hT] at HB1
 have e114 : ((c.toNat : Int) == 114) = false := by rw [beq_eq_false_iff_ne]; omega
 have e119 : ((c.toNat : Int) == 119) = false := by rw [beq_eq_false_iff_ne]; omega
 have e43 : ((c.toNat : Int) == 43) = false := by rw [beq_eq_false_iff_ne]; omega
 have e45 : ((c.toNat : Int) == 45) = false := by rw [beq_eq_false_iff_ne]; omega
 have e42 : ((c.toNat : Int) == 42) = false := by rw [beq_eq_false_iff_ne]; omega
 have e47 : ((c.toNat : Int) == 47) = false := by rw [beq_eq_false_iff_ne]; omega
 have e60 : ((c.toNat : Int) == 60) = false := by rw [beq_eq_false_iff_ne]; omega
 have e61 : ((c.toNat : Int) == 61) = false := by rw [beq_eq_false_iff_ne]; omega
 have e101 : ((c.toNat : Int) == 101) = false := by rw [beq_eq_false_iff_ne]; omega
 have e122 : ((c.toNat : Int) == 122) = false := by rw [beq_eq_false_iff_ne]; omega
 have e100 : ((c.toNat : Int) == 100) = false := by rw [beq_eq_false_iff_ne]; omega
 have e116 : ((c.toNat : Int) == 116) = false := by rw [beq_eq_false_iff_ne]; omega
 have e107 : ((c.toNat : Int) == 107) = false := by rw [beq_eq_false_iff_ne]; omega
 have e106 : ((c.toNat : Int) == 106) = false := by rw [beq_eq_false_iff_ne]; omega
 have e102 : ((c.toNat : Int) == 102) = false := by rw [beq_eq_false_iff_ne]; omega
 clear hn
 clear hB0 hR0 hg0 hg1
 go_enter Tryz.func169, Tryz.ntmps169
 go_wp2_with fail
 refine HB1.out.mono ?_
 rintro en w1 ⟨rfl, hB1, hR1⟩
 have hW1 := HW0.out.next (by omega) (by omega) hB1
 obtain ⟨q0, q1, q2, q3, q4⟩ := row5 hW1.item
 obtain ⟨f0, f1, f2, f3, f4⟩ := froz5 hW1.item
 obtain ⟨y0, y1, y2, y3, y4⟩ := row5 hW1.box
 obtain ⟨g0, g1, g2, g3, g4⟩ := froz5 hW1.box
 have hW2 := hW1.set1 (by omega) (by omega) (.int .u8 c.toNat)
 have hR2 := hR1.but (But.setB w1 (w.heap.size + 1) 1 (.int .u8 c.toNat)) (by omega)
 have HW2 := hid hW2
 clear hW1 hW2 HW0 HB1 p3
 have HGG := hid (fun h => hG h)
 have HII := hid hI
 clear hG hI
 have hop := xoper_any b base s j1 SC a0 a1 al ng nl cap0 cap1 capl v2 (w1.setCell ⟨w.heap.size + 1, 1, none⟩ (.int .u8 c.toNat)) i bad1 c hnc hng hnl hs hR2 hv (fun h => ⟨(HGG.out h).1, (HGG.out h).2.but HW2.out.but (fun g e cur _ _ hg he => by omega)⟩) hb
 unfold itV at hop
 have HOP := hid hop
 clear hop
 go_wp2_with fail
 refine HOP.out.mono ?_
 rintro en w3 ⟨hB3, x, j3, b3, rfl, hR3, hO3⟩
 clear q0 q1 q2 q3 q4 f0 f1 f2 f3 f4 y0 y1 y2 y3 y4 g0 g1 g2 g3 g4
 have hW3 := HW2.out.next (by omega) (by omega) hB3
 obtain ⟨q0, q1, q2, q3, q4⟩ := row5 hW3.item
 obtain ⟨f0, f1, f2, f3, f4⟩ := froz5 hW3.item
 obtain ⟨y0, y1, y2, y3, y4⟩ := row5 hW3.box
 obtain ⟨g0, g1, g2, g3, g4⟩ := froz5 hW3.box
 have HWF := hid (hW3)
 have hRF := hR3
 go_wp2_with fail
 have h9b := put5_heap HWF.out.box (.int .i64 x.place) (.int .u8 x.op.toNat) (.int .u8 x.cls.toNat) (.int .i64 x.num) (.slice x.pa x.pn x.pc)
 have h9d := put5_but w3 w.heap.size (.int .i64 x.place) (.int .u8 x.op.toNat) (.int .u8 x.cls.toNat) (.int .i64 x.num) (.slice x.pa x.pn x.pc)
 unfold put5 at h9b h9d
 revert h9b h9d
 generalize ((((w3.setCell ⟨w.heap.size, 0, none⟩ (.int .i64 x.place)).setCell ⟨w.heap.size, 1, none⟩ (.int .u8 x.op.toNat)).setCell ⟨w.heap.size, 2, none⟩ (.int .u8 x.cls.toNat)).setCell ⟨w.heap.size, 3, none⟩ (.int .i64 x.num)).setCell ⟨w.heap.size, 4, none⟩ (.slice x.pa x.pn x.pc) = w9
 intro h9b h9d
 obtain ⟨r0, r1, r2, r3, r4⟩ := row5 h9b
 exact bodyPost_ret (v := .agg #[(.int .i64 x.place), (.int .u8 x.op.toNat), (.int .u8 x.cls.toNat), (.int .i64 x.num), (.slice x.pa x.pn x.pc)]) (by simp [results, Tryz.results169, go_sem, r0, r1, r2, r3, r4]) rfl ⟨HWF.out.but.next h9d (fun k hk h => by omega), x, j3, b3, rfl, hRF.but h9d (by omega), HII.out _ _ _ hO3⟩
theorem xinstr_all (bad : Bool) (hG : bad = true ∨ (WfC SC ∧ TcV w base (.slice a0 SC.length cap0) (SC.map toX))) (hnc : SC.length ≤ 4) (hng : ng ≤ 3) (hnl : nl ≤ 10) (hs : s.size ≤ 2000)
  (hR : XrB w b s i bad (.slice a0 SC.length cap0) (.slice a1 ng cap1) v2) (hv : v2.hl = .slice al nl capl) (hb : b < base) :
  Calls Tryz.prog 169 #[.pointer (some ⟨b, 0, none⟩)] w fun en w' => But (· = b) w w' ∧ ∃ x j bad', en = .returned (itV x) ∧ XrB w' b s j bad' (.slice a0 SC.length cap0) (.slice a1 ng cap1) v2 ∧ InsR s SC ng nl i bad x j bad' := by
 by_cases hz : bad = true ∨ s.size ≤ i
 ·refine xins_other b base s i SC a0 a1 al ng nl cap0 cap1 capl v2 w bad 0 i true (tbP_zero hz) (by decide) (fun x j bad' h => ?_) hnc hng hnl hs hR hv (fun h => by simp at h) hb
  rw [oper_end] at h
  obtain ⟨rfl, rfl, rfl⟩ := (by simpa using h : _ ∧ _ ∧ _)
  exact ins_end hz
 have hz' := not_or.1 hz
 have hbf : bad = false := by simpa using hz'.1
 subst hbf
 have hlt : i < s.size := by omega
 have hG' : WfC SC ∧ TcV w base (.slice a0 SC.length cap0) (SC.map toX) := by rcases hG with h | h; cases h; exact h
 have e : ∀ n : Nat, n < 256 → (pk s i).toNat = n → pk s i = UInt8.ofNat n := fun n hn h => (u8n hn).1 h
 by_cases h114 : (pk s i).toNat = 114
 ·exact xins_a114 b s i SC a0 a1 al ng nl cap0 cap1 capl v2 w hlt (e _ (by decide) h114) hnc hng hnl hs hR hv
 by_cases h119 : (pk s i).toNat = 119
 ·exact xins_a119 b s i SC a0 a1 al ng nl cap0 cap1 capl v2 w hlt (e _ (by decide) h119) hnc hng hnl hs hR hv
 by_cases h43 : (pk s i).toNat = 43
 ·exact xins_a43 b s i SC a0 a1 al ng nl cap0 cap1 capl v2 w hlt (e _ (by decide) h43) hnc hng hnl hs hR hv
 by_cases h45 : (pk s i).toNat = 45
 ·exact xins_a45 b s i SC a0 a1 al ng nl cap0 cap1 capl v2 w hlt (e _ (by decide) h45) hnc hng hnl hs hR hv
 by_cases h42 : (pk s i).toNat = 42
 ·exact xins_a42 b s i SC a0 a1 al ng nl cap0 cap1 capl v2 w hlt (e _ (by decide) h42) hnc hng hnl hs hR hv
 by_cases h47 : (pk s i).toNat = 47
 ·exact xins_a47 b s i SC a0 a1 al ng nl cap0 cap1 capl v2 w hlt (e _ (by decide) h47) hnc hng hnl hs hR hv
 by_cases h60 : (pk s i).toNat = 60
 ·exact xins_a60 b s i SC a0 a1 al ng nl cap0 cap1 capl v2 w hlt (e _ (by decide) h60) hnc hng hnl hs hR hv
 by_cases h61 : (pk s i).toNat = 61
 ·exact xins_a61 b s i SC a0 a1 al ng nl cap0 cap1 capl v2 w hlt (e _ (by decide) h61) hnc hng hnl hs hR hv
 by_cases h101 : (pk s i).toNat = 101
 ·exact xins_a101 b s i SC a0 a1 al ng nl cap0 cap1 capl v2 w hlt (e _ (by decide) h101) hnc hng hnl hs hR hv
 by_cases h122 : (pk s i).toNat = 122
 ·exact xins_a122 b s i SC a0 a1 al ng nl cap0 cap1 capl v2 w hlt (e _ (by decide) h122) hnc hng hnl hs hR hv
 by_cases h100 : (pk s i).toNat = 100
 ·exact xins_a100 b s i SC a0 a1 al ng nl cap0 cap1 capl v2 w hlt (e _ (by decide) h100) hnc hng hnl hs hR hv
 by_cases h116 : (pk s i).toNat = 116
 ·exact xins_a116 b s i SC a0 a1 al ng nl cap0 cap1 capl v2 w hlt (e _ (by decide) h116) hnc hng hnl hs hR hv
 by_cases h107 : (pk s i).toNat = 107
 ·exact xins_d107 b s i SC a0 a1 al ng nl cap0 cap1 capl v2 w hlt (e _ (by decide) h107) hnc hng hnl hs hR hv
 by_cases h106 : (pk s i).toNat = 106
 ·exact xins_d106 b s i SC a0 a1 al ng nl cap0 cap1 capl v2 w hlt (e _ (by decide) h106) hnc hng hnl hs hR hv
 by_cases h102 : (pk s i).toNat = 102
 ·exact xins_d102 b s i SC a0 a1 al ng nl cap0 cap1 capl v2 w hlt (e _ (by decide) h102) hnc hng hnl hs hR hv
 exact xins_other b base s i SC a0 a1 al ng nl cap0 cap1 capl v2 w false (pk s i) (i + 1) false (tbP_ok hlt) (by omega) (fun x j bad' h => ins_oper hnc rfl (by omega) h) hnc hng hnl hs hR hv (fun _ => hG') hb
end
end Go.Proofs.YtpfkkmacakjmbaaGreatDoor
