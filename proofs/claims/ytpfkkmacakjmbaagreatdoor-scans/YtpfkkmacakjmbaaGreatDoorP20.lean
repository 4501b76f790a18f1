import Derived.Test.YtpfkkmacakjmbaaGreatDoorP19
set_option maxRecDepth 100000
set_option maxHeartbeats 6400000
namespace Go.Proofs.YtpfkkmacakjmbaaGreatDoor
open Go Go.RowKit Sp
set_option linter.unusedSimpArgs false
set_option linter.unusedVariables false
def insB (s : ByteArray) (cs : List Cls) (ns nl i : Nat) (bad : Bool) : Except Nat (Ins × Nat) := if bad = true then .error i else insP s cs ns nl i
def InsR (s : ByteArray) (cs : List Cls) (ns nl i : Nat) (bad : Bool) (x : XIt) (j : Nat) (bad' : Bool) : Prop :=
 (bad' = false ∧ ∃ y, insB s cs ns nl i bad = .ok (y, j) ∧ x = toXI y) ∨ (bad' = true ∧ insB s cs ns nl i bad = .error j)
section
variable {s : ByteArray} {cs : List Cls} {ns nl i : Nat}
theorem ins_no {x : XIt} (h : letters.contains (pk s i).toNat = false) : InsR s cs ns nl i false x i true := by
 right
 refine ⟨rfl, ?_⟩
 simp only [insB, Bool.false_eq_true, if_false, insP, h]
theorem ins_ok {c : UInt8} (hc : pk s i = c) (hl : letters.contains c.toNat = true) {a n j : Nat} (h : operP s cs ns nl c.toNat (i + 1) = .ok (a, n, j)) : InsR s cs ns nl i false (toXI ⟨c, a, n, i⟩) j false := by
 left
 refine ⟨rfl, _, ?_, rfl⟩
 simp only [insB, Bool.false_eq_true, if_false, insP, hc, hl, if_true, h]
theorem ins_bad {c : UInt8} (hc : pk s i = c) (hl : letters.contains c.toNat = true) {x : XIt} {j : Nat} (h : operP s cs ns nl c.toNat (i + 1) = .error j) : InsR s cs ns nl i false x j true := by
 right
 refine ⟨rfl, ?_⟩
 simp only [insB, Bool.false_eq_true, if_false, insP, hc, hl, if_true, h]
theorem ins_dig {c : UInt8} {n : Nat} (hc : pk s i = c) (h : (c.toNat = 107 ∧ n = 10) ∨ ((c.toNat = 108 ∨ c.toNat = 115) ∧ n = nl)) {Y : Nat × Nat × Bool} (hY : dgX s n (i + 1) false = Y) : InsR s cs ns nl i false ⟨i, c, 45, Y.1, none, 0, 0⟩ Y.2.1 Y.2.2 := by
 have hl : letters.contains c.toNat = true := by rcases h with ⟨h, _⟩ | ⟨h | h, _⟩ <;> (rw [h]; decide)
 have ho : operP s cs ns nl c.toNat (i + 1) = match digP s n (i + 1) with
  | .ok (b, j) => .ok (0, b, j)
  | .error j => .error j := by
  unfold operP
  rcases h with ⟨h, rfl⟩ | ⟨h, rfl⟩
  ·rw [if_neg (by omega), if_pos h]; rfl
  ·rw [if_pos h]; rfl
 subst hY
 unfold digP at ho
 cases hd : isDig n (pk s (i + 1)) with
 | true =>
  rw [dgX_ok hd]
  rw [hd] at ho
  have := ins_ok hc hl ho
  rw [toXI] at this
  simp only at this
  rw [if_neg (by rcases h with ⟨h, _⟩ | ⟨h | h, _⟩ <;> omega)] at this
  exact this
 | false =>
  rw [dgX_no (Or.inr hd)]
  rw [hd] at ho
  exact ins_bad hc hl ho
theorem let_of {n : Nat} {c : UInt8} (h : isLet n c = true) (hn : n ≤ 4) : UInt8.ofNat (65 + (c.toNat - 65)) = c := by
 simp only [isLet, Bool.and_eq_true, decide_eq_true_eq] at h
 apply UInt8.toNat_inj.1
 have := c.toNat_lt
 simp
 omega
theorem ins_cls {c : UInt8} (hnc : cs.length ≤ 4) (hc : pk s i = c) (h : c.toNat = 110 ∨ c.toNat = 120) {Y : UInt8 × Nat × Bool} (hY : ltX s cs.length (i + 1) false = Y) : InsR s cs ns nl i false ⟨i, c, Y.1, 0, none, 0, 0⟩ Y.2.1 Y.2.2 := by
 have hl : letters.contains c.toNat = true := by rcases h with h | h <;> (rw [h]; decide)
 have ho : operP s cs ns nl c.toNat (i + 1) = match letP s cs.length (i + 1) with
  | .ok (a, j) => .ok (a, 0, j)
  | .error j => .error j := by
  unfold operP
  rw [if_neg (by omega), if_neg (by omega), if_pos h]
  rfl
 subst hY
 unfold letP at ho
 cases hd : isLet cs.length (pk s (i + 1)) with
 | true =>
  rw [ltX_ok hd]
  rw [hd] at ho
  have := ins_ok hc hl ho
  rw [toXI] at this
  simp only at this
  rw [if_pos (by omega), let_of hd hnc] at this
  exact this
 | false =>
  rw [ltX_no (Or.inr hd)]
  rw [hd] at ho
  exact ins_bad hc hl ho
theorem nFields_flds {a : Nat} {c : UInt8} (hd : isLet cs.length c = true) : nFields cs (c.toNat - 65) = (fldsX (cs.map toX) c).length := by
 unfold nFields fldsX
 rw [List.length_map, if_pos hd, List.getElem?_map]
 cases cs[c.toNat - 65]? <;> rfl
theorem ins_fld {c : UInt8} (hnc : cs.length ≤ 4) (hc : pk s i = c) (h : c.toNat = 103 ∨ c.toNat = 112) {Y : UInt8 × Nat × Bool} (hY : ltX s cs.length (i + 1) false = Y) {Z : Nat × Nat × Bool} (hZ : dgX s (fldsX (cs.map toX) Y.1).length Y.2.1 Y.2.2 = Z) : InsR s cs ns nl i false ⟨i, c, Y.1, Z.1, none, 0, 0⟩ Z.2.1 Z.2.2 := by
 have hl : letters.contains c.toNat = true := by rcases h with h | h <;> (rw [h]; decide)
 have ho : operP s cs ns nl c.toNat (i + 1) = match letP s cs.length (i + 1) with
  | .error j => .error j
  | .ok (a, j) =>
   match digP s (nFields cs a) j with
   | .ok (b, l) => .ok (a, b, l)
   | .error l => .error l := by
  unfold operP
  rw [if_neg (by omega), if_neg (by omega), if_neg (by omega), if_pos h]
  rfl
 subst hY
 subst hZ
 unfold letP at ho
 cases hd : isLet cs.length (pk s (i + 1)) with
 | true =>
  rw [ltX_ok hd]
  rw [hd] at ho
  simp only [if_true] at ho ⊢
  rw [nFields_flds (a := 0) hd] at ho
  unfold digP at ho
  cases he : isDig (fldsX (cs.map toX) (pk s (i + 1))).length (pk s (i + 1 + 1)) with
  | true =>
   rw [dgX_ok he]
   rw [he] at ho
   have := ins_ok hc hl ho
   rw [toXI] at this
   simp only at this
   rw [if_pos (by omega), let_of hd hnc] at this
   exact this
  | false =>
   rw [dgX_no (Or.inr he)]
   rw [he] at ho
   exact ins_bad hc hl ho
 | false =>
  rw [ltX_no (Or.inr hd)]
  simp only
  rw [dgX_no (Or.inl rfl)]
  rw [hd] at ho
  exact ins_bad hc hl ho
theorem ins_call {c : UInt8} (hnc : cs.length ≤ 4) (hc : pk s i = c) (h : c.toNat = 99) {Y : UInt8 × Nat × Bool} (hY : ltX s cs.length (i + 1) false = Y) {Z : Nat × Nat × Bool} (hZ : dgX s ns Y.2.1 Y.2.2 = Z) : InsR s cs ns nl i false ⟨i, c, Y.1, Z.1, none, 0, 0⟩ Z.2.1 Z.2.2 := by
 have hl : letters.contains c.toNat = true := by rw [h]; decide
 have ho : operP s cs ns nl c.toNat (i + 1) = match letP s cs.length (i + 1) with
  | .error j => .error j
  | .ok (a, j) =>
   match digP s ns j with
   | .ok (b, l) => .ok (a, b, l)
   | .error l => .error l := by
  unfold operP
  rw [if_neg (by omega), if_neg (by omega), if_neg (by omega), if_neg (by omega), if_pos h]
  rfl
 subst hY
 subst hZ
 unfold letP at ho
 cases hd : isLet cs.length (pk s (i + 1)) with
 | true =>
  rw [ltX_ok hd]
  rw [hd] at ho
  simp only [if_true] at ho ⊢
  unfold digP at ho
  cases he : isDig ns (pk s (i + 1 + 1)) with
  | true =>
   rw [dgX_ok he]
   rw [he] at ho
   have := ins_ok hc hl ho
   rw [toXI] at this
   simp only at this
   rw [if_pos (by omega), let_of hd hnc] at this
   exact this
  | false =>
   rw [dgX_no (Or.inr he)]
   rw [he] at ho
   exact ins_bad hc hl ho
 | false =>
  rw [ltX_no (Or.inr hd)]
  simp only
  rw [dgX_no (Or.inl rfl)]
  rw [hd] at ho
  exact ins_bad hc hl ho
end
end Go.Proofs.YtpfkkmacakjmbaaGreatDoor
namespace Go.Proofs.YtpfkkmacakjmbaaGreatDoor
open Go Go.RowKit Sp
set_option linter.unusedSimpArgs false
set_option linter.unusedVariables false
attribute [local go_sem ↓] Go.wp_at_zero Go.wp_at_succ
structure InsW (w w1 : World) (b g h : Nat) (p o c n : Value) : Prop where
 but : But (· = b) w w1
 box : w1.heap[g]? = some (.cells #[.int .i64 0, .int .u8 0, .int .u8 0, .int .i64 0, .slice none 0 0] 219)
 item : w1.heap[h]? = some (.cells #[p, o, c, n, .slice none 0 0] 219)
theorem InsW.next {w w1 w2 : World} {b g h : Nat} {p o c n : Value} (x : InsW w w1 b g h p o c n) (hg : b < g) (hh : b < h) (h2 : But (· = b) w1 w2) : InsW w w2 b g h p o c n :=
 ⟨x.but.trans h2, (h2.block _ (lt_of_block x.box) (by omega)).trans x.box, (h2.block _ (lt_of_block x.item) (by omega)).trans x.item⟩
theorem InsW.set1 {w w1 : World} {b g h : Nat} {p o c n : Value} (x : InsW w w1 b g h p o c n) (hh : w.heap.size ≤ h) (hgh : g ≠ h) (v : Value) : InsW w (w1.setCell ⟨h, 1, none⟩ v) b g h p v c n :=
 ⟨x.but.next (But.setB _ _ _ _) (fun j hj e => by omega), ((But.setB w1 h 1 v).block _ (lt_of_block x.box) (by omega)).trans x.box, heap_setCell_same w1 h 1 _ _ v x.item⟩
theorem InsW.set2 {w w1 : World} {b g h : Nat} {p o c n : Value} (x : InsW w w1 b g h p o c n) (hh : w.heap.size ≤ h) (hgh : g ≠ h) (v : Value) : InsW w (w1.setCell ⟨h, 2, none⟩ v) b g h p o v n :=
 ⟨x.but.next (But.setB _ _ _ _) (fun j hj e => by omega), ((But.setB w1 h 2 v).block _ (lt_of_block x.box) (by omega)).trans x.box, heap_setCell_same w1 h 2 _ _ v x.item⟩
theorem InsW.set3 {w w1 : World} {b g h : Nat} {p o c n : Value} (x : InsW w w1 b g h p o c n) (hh : w.heap.size ≤ h) (hgh : g ≠ h) (v : Value) : InsW w (w1.setCell ⟨h, 3, none⟩ v) b g h p o c v :=
 ⟨x.but.next (But.setB _ _ _ _) (fun j hj e => by omega), ((But.setB w1 h 3 v).block _ (lt_of_block x.box) (by omega)).trans x.box, heap_setCell_same w1 h 3 _ _ v x.item⟩
theorem two_boxes (w : World) (b : Nat) (hb : b < w.heap.size) (A B : Array Value) (t : Nat) : But (· = b) w ((w.alloc (.cells A t)).alloc (.cells B t)) ∧ ((w.alloc (.cells A t)).alloc (.cells B t)).heap[w.heap.size]? = some (.cells A t) ∧ ((w.alloc (.cells A t)).alloc (.cells B t)).heap[w.heap.size + 1]? = some (.cells B t) := by
 refine ⟨(But.alloc _ _ _).trans (But.alloc _ _ _), ?_, heap_alloc_at (by simp) _⟩
 rw [(But.alloc (fun _ => False) (w.alloc (.cells A t)) (.cells B t)).block w.heap.size (lt_of_block (heap_alloc_new w _)) (fun h => h)]
 exact heap_alloc_new w _
theorem froz5 {w : World} {g t : Nat} {x0 x1 x2 x3 x4 : Value} (h : w.heap[g]? = some (.cells #[x0, x1, x2, x3, x4] t)) :
  w.frozen? ⟨g, 0, none⟩ = false ∧ w.frozen? ⟨g, 1, none⟩ = false ∧ w.frozen? ⟨g, 2, none⟩ = false ∧ w.frozen? ⟨g, 3, none⟩ = false ∧ w.frozen? ⟨g, 4, none⟩ = false :=
 ⟨frozen_of_row w g 0 _ _ h, frozen_of_row w g 1 _ _ h, frozen_of_row w g 2 _ _ h, frozen_of_row w g 3 _ _ h, frozen_of_row w g 4 _ _ h⟩
def operX (s : ByteArray) (SC : List Cls) (ng nl p : Nat) (c : UInt8) (j : Nat) (bad : Bool) : XIt × Nat × Bool :=
 if c.toNat = 108 ∨ c.toNat = 115 then (⟨p, c, 45, (dgX s nl j bad).1, none, 0, 0⟩, (dgX s nl j bad).2.1, (dgX s nl j bad).2.2)
 else if c.toNat = 110 ∨ c.toNat = 120 then (⟨p, c, (ltX s SC.length j bad).1, 0, none, 0, 0⟩, (ltX s SC.length j bad).2.1, (ltX s SC.length j bad).2.2)
 else if c.toNat = 103 ∨ c.toNat = 112 then (⟨p, c, (ltX s SC.length j bad).1, (dgX s (fldsX (SC.map toX) (ltX s SC.length j bad).1).length (ltX s SC.length j bad).2.1 (ltX s SC.length j bad).2.2).1, none, 0, 0⟩, (dgX s (fldsX (SC.map toX) (ltX s SC.length j bad).1).length (ltX s SC.length j bad).2.1 (ltX s SC.length j bad).2.2).2.1, (dgX s (fldsX (SC.map toX) (ltX s SC.length j bad).1).length (ltX s SC.length j bad).2.1 (ltX s SC.length j bad).2.2).2.2)
 else if c.toNat = 99 then (⟨p, c, (ltX s SC.length j bad).1, (dgX s ng (ltX s SC.length j bad).2.1 (ltX s SC.length j bad).2.2).1, none, 0, 0⟩, (dgX s ng (ltX s SC.length j bad).2.1 (ltX s SC.length j bad).2.2).2.1, (dgX s ng (ltX s SC.length j bad).2.1 (ltX s SC.length j bad).2.2).2.2)
 else (⟨p, c, 45, 0, none, 0, 0⟩, if bad = true then j else p, true)
theorem operX_fld {s : ByteArray} {SC : List Cls} {ng nl p : Nat} {c : UInt8} {j : Nat} {bad : Bool} (hc : c.toNat = 103 ∨ c.toNat = 112) {Y : UInt8 × Nat × Bool} (hY : ltX s SC.length j bad = Y) {F : Nat} (hF : (fldsX (SC.map toX) Y.1).length = F) {Z : Nat × Nat × Bool} (hZ : dgX s F Y.2.1 Y.2.2 = Z) : operX s SC ng nl p c j bad = (⟨p, c, Y.1, Z.1, none, 0, 0⟩, Z.2.1, Z.2.2) := by
 unfold operX
 rw [if_neg (by omega), if_neg (by omega), if_pos hc, hY, hF, hZ]
section
variable (b base : Nat) (s : ByteArray) (i : Nat) (SC : List Cls) (a0 a1 al : Option Addr) (ng nl cap0 cap1 capl : Nat) (v2 : RdV) (w : World)
theorem xop_no (p : Nat) (bad : Bool) (c : UInt8) (h108 : c.toNat ≠ 108) (h115 : c.toNat ≠ 115) (h110 : c.toNat ≠ 110) (h120 : c.toNat ≠ 120) (h103 : c.toNat ≠ 103) (h112 : c.toNat ≠ 112) (h99 : c.toNat ≠ 99) (hnc : SC.length ≤ 4) (hng : ng ≤ 3) (hnl : nl ≤ 10) (hs : s.size ≤ 2000)
  (hR : XrB w b s i bad (.slice a0 SC.length cap0) (.slice a1 ng cap1) v2) (hv : v2.hl = .slice al nl capl) :
  Calls Tryz.prog 223 #[.pointer (some ⟨b, 0, none⟩), itV ⟨p, c, 45, 0, none, 0, 0⟩] w fun en w' => But (· = b) w w' ∧ ∃ x j bad', en = .returned (itV x) ∧ XrB w' b s j bad' (.slice a0 SC.length cap0) (.slice a1 ng cap1) v2 ∧ operX s SC ng nl p c i bad = (x, j, bad') := by
 have hbw := hR.lt
 obtain ⟨nc, hncc⟩ : ∃ nc, SC.length = nc := ⟨_, rfl⟩
 have HNC := hid hnc
 have HNN := hid hncc
 rw [hncc] at hR hnc
 simp only [hncc]
 have e108 : ((c.toNat : Int) == 108) = false := by rw [beq_eq_false_iff_ne]; omega
 have e115 : ((c.toNat : Int) == 115) = false := by rw [beq_eq_false_iff_ne]; omega
 have e110 : ((c.toNat : Int) == 110) = false := by rw [beq_eq_false_iff_ne]; omega
 have e120 : ((c.toNat : Int) == 120) = false := by rw [beq_eq_false_iff_ne]; omega
 have e103 : ((c.toNat : Int) == 103) = false := by rw [beq_eq_false_iff_ne]; omega
 have e112 : ((c.toNat : Int) == 112) = false := by rw [beq_eq_false_iff_ne]; omega
 have e99 : ((c.toNat : Int) == 99) = false := by rw [beq_eq_false_iff_ne]; omega
 clear hncc
 obtain ⟨hB0, hg0, hg1⟩ := two_boxes w b hbw #[.int .i64 p, .int .u8 c.toNat, .int .u8 45, .int .i64 0, .slice none 0 0] #[.int .i64 0, .int .u8 0, .int .u8 0, .int .i64 0, .slice none 0 0] 219
 have hR0 := hR.but ((But.alloc (fun _ => False) w (.cells #[.int .i64 p, .int .u8 c.toNat, .int .u8 45, .int .i64 0, .slice none 0 0] 219)).trans (But.alloc _ _ (.cells #[.int .i64 0, .int .u8 0, .int .u8 0, .int .i64 0, .slice none 0 0] 219))) (fun h => h)
 have HW2 := hid (InsW.mk hB0 hg1 hg0)
 clear hB0 hg0 hg1
 unfold itV
 dsimp only
 simp only [show (UInt8.toNat 45) = 45 from rfl]
 go_enter Tryz.func223, Tryz.ntmps223
 go_wp2_with fail
 revert HW2 hR0
 generalize ((w.alloc (.cells #[.int .i64 p, .int .u8 c.toNat, .int .u8 45, .int .i64 0, .slice none 0 0] 219)).alloc (.cells #[.int .i64 0, .int .u8 0, .int .u8 0, .int .i64 0, .slice none 0 0] 219)) = W
 intro hR2 HW2
 obtain ⟨q0, q1, q2, q3, q4⟩ := row5 HW2.out.item
 obtain ⟨f0, f1, f2, f3, f4⟩ := froz5 HW2.out.item
 obtain ⟨y0, y1, y2, y3, y4⟩ := row5 HW2.out.box
 obtain ⟨g0, g1, g2, g3, g4⟩ := froz5 HW2.out.box
 refine (xrefuse_all b s i bad _ _ v2 _ p hR2).mono ?_
 rintro en w3 ⟨rfl, hB3, hR3⟩
 clear q0 q1 q2 q3 q4 f0 f1 f2 f3 f4 y0 y1 y2 y3 y4 g0 g1 g2 g3 g4
 have hW3 := HW2.out.next (by omega) (by omega) hB3
 obtain ⟨q0, q1, q2, q3, q4⟩ := row5 hW3.item
 obtain ⟨f0, f1, f2, f3, f4⟩ := froz5 hW3.item
 obtain ⟨y0, y1, y2, y3, y4⟩ := row5 hW3.box
 obtain ⟨g0, g1, g2, g3, g4⟩ := froz5 hW3.box
 have HWF := hid (hW3)
 have hRF := hR3
 go_wp2_with fail
 have h9b := put5_heap HWF.out.box (.int .i64 p) (.int .u8 c.toNat) (.int .u8 45) (.int .i64 0) (.slice none 0 0)
 have h9d := put5_but w3 (w.heap.size + 1) (.int .i64 p) (.int .u8 c.toNat) (.int .u8 45) (.int .i64 0) (.slice none 0 0)
 unfold put5 at h9b h9d
 revert h9b h9d
 generalize ((((w3.setCell ⟨(w.heap.size + 1), 0, none⟩ (.int .i64 p)).setCell ⟨(w.heap.size + 1), 1, none⟩ (.int .u8 c.toNat)).setCell ⟨(w.heap.size + 1), 2, none⟩ (.int .u8 45)).setCell ⟨(w.heap.size + 1), 3, none⟩ (.int .i64 0)).setCell ⟨(w.heap.size + 1), 4, none⟩ (.slice none 0 0) = w9
 intro h9b h9d
 obtain ⟨r0, r1, r2, r3, r4⟩ := row5 h9b
 exact bodyPost_ret (v := .agg #[(.int .i64 p), (.int .u8 c.toNat), (.int .u8 45), (.int .i64 0), (.slice none 0 0)]) (by simp [results, Tryz.results223, go_sem, r0, r1, r2, r3, r4]) rfl ⟨HWF.out.but.next h9d (fun k hk h => by omega), ⟨p, c, 45, 0, none, 0, 0⟩, (if bad = true then i else p), true, rfl, hRF.but h9d (by omega), by simp [operX, h108, h115, h110, h120, h103, h112, h99]⟩
theorem xop_d108 (p : Nat) (bad : Bool) (hnc : SC.length ≤ 4) (hng : ng ≤ 3) (hnl : nl ≤ 10) (hs : s.size ≤ 2000)
  (hR : XrB w b s i bad (.slice a0 SC.length cap0) (.slice a1 ng cap1) v2) (hv : v2.hl = .slice al nl capl) :
  Calls Tryz.prog 223 #[.pointer (some ⟨b, 0, none⟩), itV ⟨p, 108, 45, 0, none, 0, 0⟩] w fun en w' => But (· = b) w w' ∧ ∃ x j bad', en = .returned (itV x) ∧ XrB w' b s j bad' (.slice a0 SC.length cap0) (.slice a1 ng cap1) v2 ∧ operX s SC ng nl p 108 i bad = (x, j, bad') := by
 have hbw := hR.lt
 obtain ⟨nc, hncc⟩ : ∃ nc, SC.length = nc := ⟨_, rfl⟩
 have HNC := hid hnc
 have HNN := hid hncc
 rw [hncc] at hR hnc
 simp only [hncc]
 have d3 := hR.d3
 rw [hv] at d3
 clear hncc
 obtain ⟨hB0, hg0, hg1⟩ := two_boxes w b hbw #[.int .i64 p, .int .u8 108, .int .u8 45, .int .i64 0, .slice none 0 0] #[.int .i64 0, .int .u8 0, .int .u8 0, .int .i64 0, .slice none 0 0] 219
 have hR0 := hR.but ((But.alloc (fun _ => False) w (.cells #[.int .i64 p, .int .u8 108, .int .u8 45, .int .i64 0, .slice none 0 0] 219)).trans (But.alloc _ _ (.cells #[.int .i64 0, .int .u8 0, .int .u8 0, .int .i64 0, .slice none 0 0] 219))) (fun h => h)
 have HW2 := hid (InsW.mk hB0 hg1 hg0)
 clear hB0 hg0 hg1
 unfold itV
 dsimp only
 simp only [show (UInt8.toNat 45) = 45 from rfl, show (UInt8.toNat 108) = 108 from rfl]
 go_enter Tryz.func223, Tryz.ntmps223
 go_wp2_with fail
 revert HW2 hR0
 generalize ((w.alloc (.cells #[.int .i64 p, .int .u8 108, .int .u8 45, .int .i64 0, .slice none 0 0] 219)).alloc (.cells #[.int .i64 0, .int .u8 0, .int .u8 0, .int .i64 0, .slice none 0 0] 219)) = W
 intro hR2 HW2
 obtain ⟨q0, q1, q2, q3, q4⟩ := row5 HW2.out.item
 obtain ⟨f0, f1, f2, f3, f4⟩ := froz5 HW2.out.item
 obtain ⟨y0, y1, y2, y3, y4⟩ := row5 HW2.out.box
 obtain ⟨g0, g1, g2, g3, g4⟩ := froz5 HW2.out.box
 refine (xtakeDigit_any b s i bad _ _ v2 _ nl (by omega) hs hR2).mono ?_
 rintro en w5 ⟨rfl, hB5, hR5⟩
 obtain ⟨Z, hZ⟩ : ∃ Z, dgX s nl i bad = Z := ⟨_, rfl⟩
 rw [hZ] at hR5
 rw [hZ]
 have HZ := hid hZ
 clear hZ
 obtain ⟨d, j5, b5⟩ := Z
 dsimp only at hR5 ⊢
 clear d3 q0 q1 q2 q3 q4 f0 f1 f2 f3 f4 y0 y1 y2 y3 y4 g0 g1 g2 g3 g4
 have hW5 := HW2.out.next (by omega) (by omega) hB5
 obtain ⟨q0, q1, q2, q3, q4⟩ := row5 hW5.item
 obtain ⟨f0, f1, f2, f3, f4⟩ := froz5 hW5.item
 obtain ⟨y0, y1, y2, y3, y4⟩ := row5 hW5.box
 obtain ⟨g0, g1, g2, g3, g4⟩ := froz5 hW5.box
 have hW6 := hW5.set3 (by omega) (by omega) (.int .i64 d)
 have hR6 := hR5.but (But.setB w5 w.heap.size 3 (.int .i64 d)) (by omega)
 have HWF := hid (hW6)
 have hRF := hR6
 go_wp2_with fail
 have h9b := put5_heap HWF.out.box (.int .i64 p) (.int .u8 108) (.int .u8 45) (.int .i64 d) (.slice none 0 0)
 have h9d := put5_but (w5.setCell ⟨w.heap.size, 3, none⟩ (.int .i64 d)) (w.heap.size + 1) (.int .i64 p) (.int .u8 108) (.int .u8 45) (.int .i64 d) (.slice none 0 0)
 unfold put5 at h9b h9d
 revert h9b h9d
 generalize (((((w5.setCell ⟨w.heap.size, 3, none⟩ (.int .i64 d)).setCell ⟨(w.heap.size + 1), 0, none⟩ (.int .i64 p)).setCell ⟨(w.heap.size + 1), 1, none⟩ (.int .u8 108)).setCell ⟨(w.heap.size + 1), 2, none⟩ (.int .u8 45)).setCell ⟨(w.heap.size + 1), 3, none⟩ (.int .i64 d)).setCell ⟨(w.heap.size + 1), 4, none⟩ (.slice none 0 0) = w9
 intro h9b h9d
 obtain ⟨r0, r1, r2, r3, r4⟩ := row5 h9b
 exact bodyPost_ret (v := .agg #[(.int .i64 p), (.int .u8 108), (.int .u8 45), (.int .i64 d), (.slice none 0 0)]) (by simp [results, Tryz.results223, go_sem, r0, r1, r2, r3, r4]) rfl ⟨HWF.out.but.next h9d (fun k hk h => by omega), ⟨p, 108, 45, d, none, 0, 0⟩, j5, b5, rfl, hRF.but h9d (by omega), by unfold operX; rw [if_pos (by decide), HZ.out]⟩
theorem xop_d115 (p : Nat) (bad : Bool) (hnc : SC.length ≤ 4) (hng : ng ≤ 3) (hnl : nl ≤ 10) (hs : s.size ≤ 2000)
  (hR : XrB w b s i bad (.slice a0 SC.length cap0) (.slice a1 ng cap1) v2) (hv : v2.hl = .slice al nl capl) :
  Calls Tryz.prog 223 #[.pointer (some ⟨b, 0, none⟩), itV ⟨p, 115, 45, 0, none, 0, 0⟩] w fun en w' => But (· = b) w w' ∧ ∃ x j bad', en = .returned (itV x) ∧ XrB w' b s j bad' (.slice a0 SC.length cap0) (.slice a1 ng cap1) v2 ∧ operX s SC ng nl p 115 i bad = (x, j, bad') := by
 have hbw := hR.lt
 obtain ⟨nc, hncc⟩ : ∃ nc, SC.length = nc := ⟨_, rfl⟩
 have HNC := hid hnc
 have HNN := hid hncc
 rw [hncc] at hR hnc
 simp only [hncc]
 have d3 := hR.d3
 rw [hv] at d3
 clear hncc
 obtain ⟨hB0, hg0, hg1⟩ := two_boxes w b hbw #[.int .i64 p, .int .u8 115, .int .u8 45, .int .i64 0, .slice none 0 0] #[.int .i64 0, .int .u8 0, .int .u8 0, .int .i64 0, .slice none 0 0] 219
 have hR0 := hR.but ((But.alloc (fun _ => False) w (.cells #[.int .i64 p, .int .u8 115, .int .u8 45, .int .i64 0, .slice none 0 0] 219)).trans (But.alloc _ _ (.cells #[.int .i64 0, .int .u8 0, .int .u8 0, .int .i64 0, .slice none 0 0] 219))) (fun h => h)
 have HW2 := hid (InsW.mk hB0 hg1 hg0)
 clear hB0 hg0 hg1
 unfold itV
 dsimp only
 simp only [show (UInt8.toNat 45) = 45 from rfl, show (UInt8.toNat 115) = 115 from rfl]
 go_enter Tryz.func223, Tryz.ntmps223
 go_wp2_with fail
 revert HW2 hR0
 generalize ((w.alloc (.cells #[.int .i64 p, .int .u8 115, .int .u8 45, .int .i64 0, .slice none 0 0] 219)).alloc (.cells #[.int .i64 0, .int .u8 0, .int .u8 0, .int .i64 0, .slice none 0 0] 219)) = W
 intro hR2 HW2
 obtain ⟨q0, q1, q2, q3, q4⟩ := row5 HW2.out.item
 obtain ⟨f0, f1, f2, f3, f4⟩ := froz5 HW2.out.item
 obtain ⟨y0, y1, y2, y3, y4⟩ := row5 HW2.out.box
 obtain ⟨g0, g1, g2, g3, g4⟩ := froz5 HW2.out.box
 refine (xtakeDigit_any b s i bad _ _ v2 _ nl (by omega) hs hR2).mono ?_
 rintro en w5 ⟨rfl, hB5, hR5⟩
 obtain ⟨Z, hZ⟩ : ∃ Z, dgX s nl i bad = Z := ⟨_, rfl⟩
 rw [hZ] at hR5
 rw [hZ]
 have HZ := hid hZ
 clear hZ
 obtain ⟨d, j5, b5⟩ := Z
 dsimp only at hR5 ⊢
 clear d3 q0 q1 q2 q3 q4 f0 f1 f2 f3 f4 y0 y1 y2 y3 y4 g0 g1 g2 g3 g4
 have hW5 := HW2.out.next (by omega) (by omega) hB5
 obtain ⟨q0, q1, q2, q3, q4⟩ := row5 hW5.item
 obtain ⟨f0, f1, f2, f3, f4⟩ := froz5 hW5.item
 obtain ⟨y0, y1, y2, y3, y4⟩ := row5 hW5.box
 obtain ⟨g0, g1, g2, g3, g4⟩ := froz5 hW5.box
 have hW6 := hW5.set3 (by omega) (by omega) (.int .i64 d)
 have hR6 := hR5.but (But.setB w5 w.heap.size 3 (.int .i64 d)) (by omega)
 have HWF := hid (hW6)
 have hRF := hR6
 go_wp2_with fail
 have h9b := put5_heap HWF.out.box (.int .i64 p) (.int .u8 115) (.int .u8 45) (.int .i64 d) (.slice none 0 0)
 have h9d := put5_but (w5.setCell ⟨w.heap.size, 3, none⟩ (.int .i64 d)) (w.heap.size + 1) (.int .i64 p) (.int .u8 115) (.int .u8 45) (.int .i64 d) (.slice none 0 0)
 unfold put5 at h9b h9d
 revert h9b h9d
 generalize (((((w5.setCell ⟨w.heap.size, 3, none⟩ (.int .i64 d)).setCell ⟨(w.heap.size + 1), 0, none⟩ (.int .i64 p)).setCell ⟨(w.heap.size + 1), 1, none⟩ (.int .u8 115)).setCell ⟨(w.heap.size + 1), 2, none⟩ (.int .u8 45)).setCell ⟨(w.heap.size + 1), 3, none⟩ (.int .i64 d)).setCell ⟨(w.heap.size + 1), 4, none⟩ (.slice none 0 0) = w9
 intro h9b h9d
 obtain ⟨r0, r1, r2, r3, r4⟩ := row5 h9b
 exact bodyPost_ret (v := .agg #[(.int .i64 p), (.int .u8 115), (.int .u8 45), (.int .i64 d), (.slice none 0 0)]) (by simp [results, Tryz.results223, go_sem, r0, r1, r2, r3, r4]) rfl ⟨HWF.out.but.next h9d (fun k hk h => by omega), ⟨p, 115, 45, d, none, 0, 0⟩, j5, b5, rfl, hRF.but h9d (by omega), by unfold operX; rw [if_pos (by decide), HZ.out]⟩
theorem xop_c110 (p : Nat) (bad : Bool) (hnc : SC.length ≤ 4) (hng : ng ≤ 3) (hnl : nl ≤ 10) (hs : s.size ≤ 2000)
  (hR : XrB w b s i bad (.slice a0 SC.length cap0) (.slice a1 ng cap1) v2) (hv : v2.hl = .slice al nl capl) :
  Calls Tryz.prog 223 #[.pointer (some ⟨b, 0, none⟩), itV ⟨p, 110, 45, 0, none, 0, 0⟩] w fun en w' => But (· = b) w w' ∧ ∃ x j bad', en = .returned (itV x) ∧ XrB w' b s j bad' (.slice a0 SC.length cap0) (.slice a1 ng cap1) v2 ∧ operX s SC ng nl p 110 i bad = (x, j, bad') := by
 have hbw := hR.lt
 obtain ⟨nc, hncc⟩ : ∃ nc, SC.length = nc := ⟨_, rfl⟩
 have HNC := hid hnc
 have HNN := hid hncc
 rw [hncc] at hR hnc
 simp only [hncc]
 clear hncc
 obtain ⟨hB0, hg0, hg1⟩ := two_boxes w b hbw #[.int .i64 p, .int .u8 110, .int .u8 45, .int .i64 0, .slice none 0 0] #[.int .i64 0, .int .u8 0, .int .u8 0, .int .i64 0, .slice none 0 0] 219
 have hR0 := hR.but ((But.alloc (fun _ => False) w (.cells #[.int .i64 p, .int .u8 110, .int .u8 45, .int .i64 0, .slice none 0 0] 219)).trans (But.alloc _ _ (.cells #[.int .i64 0, .int .u8 0, .int .u8 0, .int .i64 0, .slice none 0 0] 219))) (fun h => h)
 have HW2 := hid (InsW.mk hB0 hg1 hg0)
 clear hB0 hg0 hg1
 unfold itV
 dsimp only
 simp only [show (UInt8.toNat 45) = 45 from rfl, show (UInt8.toNat 110) = 110 from rfl]
 go_enter Tryz.func223, Tryz.ntmps223
 go_wp2_with fail
 revert HW2 hR0
 generalize ((w.alloc (.cells #[.int .i64 p, .int .u8 110, .int .u8 45, .int .i64 0, .slice none 0 0] 219)).alloc (.cells #[.int .i64 0, .int .u8 0, .int .u8 0, .int .i64 0, .slice none 0 0] 219)) = W
 intro hR2 HW2
 obtain ⟨q0, q1, q2, q3, q4⟩ := row5 HW2.out.item
 obtain ⟨f0, f1, f2, f3, f4⟩ := froz5 HW2.out.item
 obtain ⟨y0, y1, y2, y3, y4⟩ := row5 HW2.out.box
 obtain ⟨g0, g1, g2, g3, g4⟩ := froz5 HW2.out.box
 refine (xclass_any b s i bad _ v2 _ nc cap0 a0 (by omega) hs hR2).mono ?_
 rintro en w3 ⟨rfl, hB3, hR3⟩
 obtain ⟨Y, hY⟩ : ∃ Y, ltX s nc i bad = Y := ⟨_, rfl⟩
 rw [hY] at hR3
 rw [hY]
 have HY := hid (show ltX s SC.length i bad = Y by rw [HNN.out]; exact hY)
 clear hY
 obtain ⟨kc, j3, b3⟩ := Y
 dsimp only at hR3 ⊢
 clear q0 q1 q2 q3 q4 f0 f1 f2 f3 f4 y0 y1 y2 y3 y4 g0 g1 g2 g3 g4
 have hW3 := HW2.out.next (by omega) (by omega) hB3
 obtain ⟨q0, q1, q2, q3, q4⟩ := row5 hW3.item
 obtain ⟨f0, f1, f2, f3, f4⟩ := froz5 hW3.item
 obtain ⟨y0, y1, y2, y3, y4⟩ := row5 hW3.box
 obtain ⟨g0, g1, g2, g3, g4⟩ := froz5 hW3.box
 have hW4 := hW3.set2 (by omega) (by omega) (.int .u8 kc.toNat)
 have hR4 := hR3.but (But.setB w3 w.heap.size 2 (.int .u8 kc.toNat)) (by omega)
 have HWF := hid (hW4)
 have hRF := hR4
 go_wp2_with fail
 have h9b := put5_heap HWF.out.box (.int .i64 p) (.int .u8 110) (.int .u8 kc.toNat) (.int .i64 0) (.slice none 0 0)
 have h9d := put5_but (w3.setCell ⟨w.heap.size, 2, none⟩ (.int .u8 kc.toNat)) (w.heap.size + 1) (.int .i64 p) (.int .u8 110) (.int .u8 kc.toNat) (.int .i64 0) (.slice none 0 0)
 unfold put5 at h9b h9d
 revert h9b h9d
 generalize (((((w3.setCell ⟨w.heap.size, 2, none⟩ (.int .u8 kc.toNat)).setCell ⟨(w.heap.size + 1), 0, none⟩ (.int .i64 p)).setCell ⟨(w.heap.size + 1), 1, none⟩ (.int .u8 110)).setCell ⟨(w.heap.size + 1), 2, none⟩ (.int .u8 kc.toNat)).setCell ⟨(w.heap.size + 1), 3, none⟩ (.int .i64 0)).setCell ⟨(w.heap.size + 1), 4, none⟩ (.slice none 0 0) = w9
 intro h9b h9d
 obtain ⟨r0, r1, r2, r3, r4⟩ := row5 h9b
 exact bodyPost_ret (v := .agg #[(.int .i64 p), (.int .u8 110), (.int .u8 kc.toNat), (.int .i64 0), (.slice none 0 0)]) (by simp [results, Tryz.results223, go_sem, r0, r1, r2, r3, r4]) rfl ⟨HWF.out.but.next h9d (fun k hk h => by omega), ⟨p, 110, kc, 0, none, 0, 0⟩, j3, b3, rfl, hRF.but h9d (by omega), by unfold operX; rw [if_neg (by decide), if_pos (by decide), HY.out]⟩
theorem xop_c120 (p : Nat) (bad : Bool) (hnc : SC.length ≤ 4) (hng : ng ≤ 3) (hnl : nl ≤ 10) (hs : s.size ≤ 2000)
  (hR : XrB w b s i bad (.slice a0 SC.length cap0) (.slice a1 ng cap1) v2) (hv : v2.hl = .slice al nl capl) :
  Calls Tryz.prog 223 #[.pointer (some ⟨b, 0, none⟩), itV ⟨p, 120, 45, 0, none, 0, 0⟩] w fun en w' => But (· = b) w w' ∧ ∃ x j bad', en = .returned (itV x) ∧ XrB w' b s j bad' (.slice a0 SC.length cap0) (.slice a1 ng cap1) v2 ∧ operX s SC ng nl p 120 i bad = (x, j, bad') := by
 have hbw := hR.lt
 obtain ⟨nc, hncc⟩ : ∃ nc, SC.length = nc := ⟨_, rfl⟩
 have HNC := hid hnc
 have HNN := hid hncc
 rw [hncc] at hR hnc
 simp only [hncc]
 clear hncc
 obtain ⟨hB0, hg0, hg1⟩ := two_boxes w b hbw #[.int .i64 p, .int .u8 120, .int .u8 45, .int .i64 0, .slice none 0 0] #[.int .i64 0, .int .u8 0, .int .u8 0, .int .i64 0, .slice none 0 0] 219
 have hR0 := hR.but ((But.alloc (fun _ => False) w (.cells #[.int .i64 p, .int .u8 120, .int .u8 45, .int .i64 0, .slice none 0 0] 219)).trans (But.alloc _ _ (.cells #[.int .i64 0, .int .u8 0, .int .u8 0, .int .i64 0, .slice none 0 0] 219))) (fun h => h)
 have HW2 := hid (InsW.mk hB0 hg1 hg0)
 clear hB0 hg0 hg1
 unfold itV
 dsimp only
 simp only [show (UInt8.toNat 45) = 45 from rfl, show (UInt8.toNat 120) = 120 from rfl]
 go_enter Tryz.func223, Tryz.ntmps223
 go_wp2_with fail
 revert HW2 hR0
 generalize ((w.alloc (.cells #[.int .i64 p, .int .u8 120, .int .u8 45, .int .i64 0, .slice none 0 0] 219)).alloc (.cells #[.int .i64 0, .int .u8 0, .int .u8 0, .int .i64 0, .slice none 0 0] 219)) = W
 intro hR2 HW2
 obtain ⟨q0, q1, q2, q3, q4⟩ := row5 HW2.out.item
 obtain ⟨f0, f1, f2, f3, f4⟩ := froz5 HW2.out.item
 obtain ⟨y0, y1, y2, y3, y4⟩ := row5 HW2.out.box
 obtain ⟨g0, g1, g2, g3, g4⟩ := froz5 HW2.out.box
 refine (xclass_any b s i bad _ v2 _ nc cap0 a0 (by omega) hs hR2).mono ?_
 rintro en w3 ⟨rfl, hB3, hR3⟩
 obtain ⟨Y, hY⟩ : ∃ Y, ltX s nc i bad = Y := ⟨_, rfl⟩
 rw [hY] at hR3
 rw [hY]
 have HY := hid (show ltX s SC.length i bad = Y by rw [HNN.out]; exact hY)
 clear hY
 obtain ⟨kc, j3, b3⟩ := Y
 dsimp only at hR3 ⊢
 clear q0 q1 q2 q3 q4 f0 f1 f2 f3 f4 y0 y1 y2 y3 y4 g0 g1 g2 g3 g4
 have hW3 := HW2.out.next (by omega) (by omega) hB3
 obtain ⟨q0, q1, q2, q3, q4⟩ := row5 hW3.item
 obtain ⟨f0, f1, f2, f3, f4⟩ := froz5 hW3.item
 obtain ⟨y0, y1, y2, y3, y4⟩ := row5 hW3.box
 obtain ⟨g0, g1, g2, g3, g4⟩ := froz5 hW3.box
 have hW4 := hW3.set2 (by omega) (by omega) (.int .u8 kc.toNat)
 have hR4 := hR3.but (But.setB w3 w.heap.size 2 (.int .u8 kc.toNat)) (by omega)
 have HWF := hid (hW4)
 have hRF := hR4
 go_wp2_with fail
 have h9b := put5_heap HWF.out.box (.int .i64 p) (.int .u8 120) (.int .u8 kc.toNat) (.int .i64 0) (.slice none 0 0)
 have h9d := put5_but (w3.setCell ⟨w.heap.size, 2, none⟩ (.int .u8 kc.toNat)) (w.heap.size + 1) (.int .i64 p) (.int .u8 120) (.int .u8 kc.toNat) (.int .i64 0) (.slice none 0 0)
 unfold put5 at h9b h9d
 revert h9b h9d
 generalize (((((w3.setCell ⟨w.heap.size, 2, none⟩ (.int .u8 kc.toNat)).setCell ⟨(w.heap.size + 1), 0, none⟩ (.int .i64 p)).setCell ⟨(w.heap.size + 1), 1, none⟩ (.int .u8 120)).setCell ⟨(w.heap.size + 1), 2, none⟩ (.int .u8 kc.toNat)).setCell ⟨(w.heap.size + 1), 3, none⟩ (.int .i64 0)).setCell ⟨(w.heap.size + 1), 4, none⟩ (.slice none 0 0) = w9
 intro h9b h9d
 obtain ⟨r0, r1, r2, r3, r4⟩ := row5 h9b
 exact bodyPost_ret (v := .agg #[(.int .i64 p), (.int .u8 120), (.int .u8 kc.toNat), (.int .i64 0), (.slice none 0 0)]) (by simp [results, Tryz.results223, go_sem, r0, r1, r2, r3, r4]) rfl ⟨HWF.out.but.next h9d (fun k hk h => by omega), ⟨p, 120, kc, 0, none, 0, 0⟩, j3, b3, rfl, hRF.but h9d (by omega), by unfold operX; rw [if_neg (by decide), if_pos (by decide), HY.out]⟩
theorem xop_f103 (p : Nat) (bad : Bool) (hnc : SC.length ≤ 4) (hng : ng ≤ 3) (hnl : nl ≤ 10) (hs : s.size ≤ 2000)
  (hR : XrB w b s i bad (.slice a0 SC.length cap0) (.slice a1 ng cap1) v2) (hv : v2.hl = .slice al nl capl) (hwf : WfC SC) (hC : TcV w base (.slice a0 SC.length cap0) (SC.map toX)) (hb : b < base) :
  Calls Tryz.prog 223 #[.pointer (some ⟨b, 0, none⟩), itV ⟨p, 103, 45, 0, none, 0, 0⟩] w fun en w' => But (· = b) w w' ∧ ∃ x j bad', en = .returned (itV x) ∧ XrB w' b s j bad' (.slice a0 SC.length cap0) (.slice a1 ng cap1) v2 ∧ operX s SC ng nl p 103 i bad = (x, j, bad') := by
 have hbw := hR.lt
 obtain ⟨nc, hncc⟩ : ∃ nc, SC.length = nc := ⟨_, rfl⟩
 have HNC := hid hnc
 have HNN := hid hncc
 rw [hncc] at hR hnc
 simp only [hncc]
 have HC := hid (fun (w' : World) (h : But (· = b) w w') (hr : w'.cell? ⟨b, 0, none⟩ = some (.slice a0 SC.length cap0)) => (hC.but h (fun g e cur _ _ hg he => by omega)).tx hr (Nat.lt_of_lt_of_le hbw h.size))
 have HWF0 := hid hwf
 rw [hncc] at HC
 clear hC hwf
 clear hncc
 obtain ⟨hB0, hg0, hg1⟩ := two_boxes w b hbw #[.int .i64 p, .int .u8 103, .int .u8 45, .int .i64 0, .slice none 0 0] #[.int .i64 0, .int .u8 0, .int .u8 0, .int .i64 0, .slice none 0 0] 219
 have hR0 := hR.but ((But.alloc (fun _ => False) w (.cells #[.int .i64 p, .int .u8 103, .int .u8 45, .int .i64 0, .slice none 0 0] 219)).trans (But.alloc _ _ (.cells #[.int .i64 0, .int .u8 0, .int .u8 0, .int .i64 0, .slice none 0 0] 219))) (fun h => h)
 have HW2 := hid (InsW.mk hB0 hg1 hg0)
 clear hB0 hg0 hg1
 unfold itV
 dsimp only
 simp only [show (UInt8.toNat 45) = 45 from rfl, show (UInt8.toNat 103) = 103 from rfl]
 go_enter Tryz.func223, Tryz.ntmps223
 go_wp2_with fail
 revert HW2 hR0
 generalize ((w.alloc (.cells #[.int .i64 p, .int .u8 103, .int .u8 45, .int .i64 0, .slice none 0 0] 219)).alloc (.cells #[.int .i64 0, .int .u8 0, .int .u8 0, .int .i64 0, .slice none 0 0] 219)) = W
 intro hR2 HW2
 obtain ⟨q0, q1, q2, q3, q4⟩ := row5 HW2.out.item
 obtain ⟨f0, f1, f2, f3, f4⟩ := froz5 HW2.out.item
 obtain ⟨y0, y1, y2, y3, y4⟩ := row5 HW2.out.box
 obtain ⟨g0, g1, g2, g3, g4⟩ := froz5 HW2.out.box
 refine (xclass_any b s i bad _ v2 _ nc cap0 a0 (by omega) hs hR2).mono ?_
 rintro en w3 ⟨rfl, hB3, hR3⟩
 obtain ⟨Y, hY⟩ : ∃ Y, ltX s nc i bad = Y := ⟨_, rfl⟩
 rw [hY] at hR3
 rw [hY]
 have HY := hid (show ltX s SC.length i bad = Y by rw [HNN.out]; exact hY)
 clear hY
 obtain ⟨kc, j3, b3⟩ := Y
 dsimp only at hR3 ⊢
 clear q0 q1 q2 q3 q4 f0 f1 f2 f3 f4 y0 y1 y2 y3 y4 g0 g1 g2 g3 g4
 have hW3 := HW2.out.next (by omega) (by omega) hB3
 obtain ⟨q0, q1, q2, q3, q4⟩ := row5 hW3.item
 obtain ⟨f0, f1, f2, f3, f4⟩ := froz5 hW3.item
 obtain ⟨y0, y1, y2, y3, y4⟩ := row5 hW3.box
 obtain ⟨g0, g1, g2, g3, g4⟩ := froz5 hW3.box
 have hW4 := hW3.set2 (by omega) (by omega) (.int .u8 kc.toNat)
 have hR4 := hR3.but (But.setB w3 w.heap.size 2 (.int .u8 kc.toNat)) (by omega)
 have HW4 := hid hW4
 clear hW3 hW4
 go_wp2_with fail
 revert HW4 hR4
 generalize (w3.setCell ⟨w.heap.size, 2, none⟩ (.int .u8 kc.toNat)) = X
 intro hR4 HW4
 have hX4 := HC.out X HW4.out.but hR4.c0
 have hfc := xfc_any b (SC.map toX) kc X.drew (by rw [List.length_map]; have := HNC.out; omega) (hX4.but (But.drew _ _))
 have hfl := flds_len HWF0.out HNC.out kc
 obtain ⟨F, hF⟩ : ∃ F, (fldsX (SC.map toX) kc).length = F := ⟨_, rfl⟩
 rw [hF] at hfc hfl
 have HFF := hid hF
 have HFC := hid hfc
 have hF8 : F ≤ 8 := by have := HNC.out; omega
 clear hF hfc hfl hX4
 obtain ⟨x0, x1, x2, x3, x4⟩ := row5 HW4.out.item
 have hgl := lt_of_block HW4.out.item
 have hS0 : But (fun _ => False) X X.drew := But.drew _ _
 refine wpTx_begin (But (fun _ => False) X) 6 (by kernel_rfl) ?_
 iterate 5 (refine wpTx_take (v := ?_) rfl (by kernel_rfl) (fun _ _ _ h => h) rfl hS0 ?_ ?_; rotate_left; (focus (intro wS h; have q0 := ((h.cell (p := ⟨w.heap.size, 2, none⟩) hgl (fun h => h)).trans x2); clear h; go_simp; try rfl)); dsimp only [Act.put]; try simp only [puts])
 refine wpTx_step rfl (by kernel_rfl) ?_
 intro KS hKS
 go_simp
 refine HFC.out.mono ?_
 rintro en w4 ⟨rfl, hw4⟩
 rw [hw4]
 clear hw4 w4 HFC
 refine hKS.out _ _ (fun _ => hS0) ?_
 clear hKS KS
 refine wpTx_step rfl (by kernel_rfl) ?_
 intro KS hKS
 go_simp
 refine hKS.out _ _ (fun h => absurd h (by decide)) ?_
 clear hKS KS
 refine wpTx_done rfl (by kernel_rfl) ?_
 have HW4' := hid (HW4.out.next (by omega) (by omega) (But.drew _ _))
 have hR4' := hR4.but hS0 (fun h => h)
 clear HW4 hR4 hS0 x0 x1 x2 x3 x4 hgl
 revert HW4' hR4'
 generalize X.drew = X'
 intro HW4 hR4
 go_wp2_with fail
 refine (xtakeDigit_any b s j3 b3 _ _ v2 _ F (by omega) hs hR4).mono ?_
 rintro en w5 ⟨rfl, hB5, hR5⟩
 obtain ⟨Z, hZ⟩ : ∃ Z, dgX s F j3 b3 = Z := ⟨_, rfl⟩
 rw [hZ] at hR5
 rw [hZ]
 have HZ := hid hZ
 clear hZ
 obtain ⟨d, j5, b5⟩ := Z
 dsimp only at hR5 ⊢
 clear q0 q1 q2 q3 q4 f0 f1 f2 f3 f4 y0 y1 y2 y3 y4 g0 g1 g2 g3 g4
 have hW5 := HW4.out.next (by omega) (by omega) hB5
 obtain ⟨q0, q1, q2, q3, q4⟩ := row5 hW5.item
 obtain ⟨f0, f1, f2, f3, f4⟩ := froz5 hW5.item
 obtain ⟨y0, y1, y2, y3, y4⟩ := row5 hW5.box
 obtain ⟨g0, g1, g2, g3, g4⟩ := froz5 hW5.box
 have hW6 := hW5.set3 (by omega) (by omega) (.int .i64 d)
 have hR6 := hR5.but (But.setB w5 w.heap.size 3 (.int .i64 d)) (by omega)
 have HWF := hid (hW6)
 have hRF := hR6
 go_wp2_with fail
 have h9b := put5_heap HWF.out.box (.int .i64 p) (.int .u8 103) (.int .u8 kc.toNat) (.int .i64 d) (.slice none 0 0)
 have h9d := put5_but (w5.setCell ⟨w.heap.size, 3, none⟩ (.int .i64 d)) (w.heap.size + 1) (.int .i64 p) (.int .u8 103) (.int .u8 kc.toNat) (.int .i64 d) (.slice none 0 0)
 unfold put5 at h9b h9d
 revert h9b h9d
 generalize (((((w5.setCell ⟨w.heap.size, 3, none⟩ (.int .i64 d)).setCell ⟨(w.heap.size + 1), 0, none⟩ (.int .i64 p)).setCell ⟨(w.heap.size + 1), 1, none⟩ (.int .u8 103)).setCell ⟨(w.heap.size + 1), 2, none⟩ (.int .u8 kc.toNat)).setCell ⟨(w.heap.size + 1), 3, none⟩ (.int .i64 d)).setCell ⟨(w.heap.size + 1), 4, none⟩ (.slice none 0 0) = w9
 intro h9b h9d
 obtain ⟨r0, r1, r2, r3, r4⟩ := row5 h9b
 exact bodyPost_ret (v := .agg #[(.int .i64 p), (.int .u8 103), (.int .u8 kc.toNat), (.int .i64 d), (.slice none 0 0)]) (by simp [results, Tryz.results223, go_sem, r0, r1, r2, r3, r4]) rfl ⟨HWF.out.but.next h9d (fun k hk h => by omega), ⟨p, 103, kc, d, none, 0, 0⟩, j5, b5, rfl, hRF.but h9d (by omega), operX_fld (by decide) HY.out HFF.out HZ.out⟩
theorem xop_f112 (p : Nat) (bad : Bool) (hnc : SC.length ≤ 4) (hng : ng ≤ 3) (hnl : nl ≤ 10) (hs : s.size ≤ 2000)
  (hR : XrB w b s i bad (.slice a0 SC.length cap0) (.slice a1 ng cap1) v2) (hv : v2.hl = .slice al nl capl) (hwf : WfC SC) (hC : TcV w base (.slice a0 SC.length cap0) (SC.map toX)) (hb : b < base) :
  Calls Tryz.prog 223 #[.pointer (some ⟨b, 0, none⟩), itV ⟨p, 112, 45, 0, none, 0, 0⟩] w fun en w' => But (· = b) w w' ∧ ∃ x j bad', en = .returned (itV x) ∧ XrB w' b s j bad' (.slice a0 SC.length cap0) (.slice a1 ng cap1) v2 ∧ operX s SC ng nl p 112 i bad = (x, j, bad') := by
 have hbw := hR.lt
 obtain ⟨nc, hncc⟩ : ∃ nc, SC.length = nc := ⟨_, rfl⟩
 have HNC := hid hnc
 have HNN := hid hncc
 rw [hncc] at hR hnc
 simp only [hncc]
 have HC := hid (fun (w' : World) (h : But (· = b) w w') (hr : w'.cell? ⟨b, 0, none⟩ = some (.slice a0 SC.length cap0)) => (hC.but h (fun g e cur _ _ hg he => by omega)).tx hr (Nat.lt_of_lt_of_le hbw h.size))
 have HWF0 := hid hwf
 rw [hncc] at HC
 clear hC hwf
 clear hncc
 obtain ⟨hB0, hg0, hg1⟩ := two_boxes w b hbw #[.int .i64 p, .int .u8 112, .int .u8 45, .int .i64 0, .slice none 0 0] #[.int .i64 0, .int .u8 0, .int .u8 0, .int .i64 0, .slice none 0 0] 219
 have hR0 := hR.but ((But.alloc (fun _ => False) w (.cells #[.int .i64 p, .int .u8 112, .int .u8 45, .int .i64 0, .slice none 0 0] 219)).trans (But.alloc _ _ (.cells #[.int .i64 0, .int .u8 0, .int .u8 0, .int .i64 0, .slice none 0 0] 219))) (fun h => h)
 have HW2 := hid (InsW.mk hB0 hg1 hg0)
 clear hB0 hg0 hg1
 unfold itV
 dsimp only
 simp only [show (UInt8.toNat 45) = 45 from rfl, show (UInt8.toNat 112) = 112 from rfl]
 go_enter Tryz.func223, Tryz.ntmps223
 go_wp2_with fail
 revert HW2 hR0
 generalize ((w.alloc (.cells #[.int .i64 p, .int .u8 112, .int .u8 45, .int .i64 0, .slice none 0 0] 219)).alloc (.cells #[.int .i64 0, .int .u8 0, .int .u8 0, .int .i64 0, .slice none 0 0] 219)) = W
 intro hR2 HW2
 obtain ⟨q0, q1, q2, q3, q4⟩ := row5 HW2.out.item
 obtain ⟨f0, f1, f2, f3, f4⟩ := froz5 HW2.out.item
 obtain ⟨y0, y1, y2, y3, y4⟩ := row5 HW2.out.box
 obtain ⟨g0, g1, g2, g3, g4⟩ := froz5 HW2.out.box
 refine (xclass_any b s i bad _ v2 _ nc cap0 a0 (by omega) hs hR2).mono ?_
 rintro en w3 ⟨rfl, hB3, hR3⟩
 obtain ⟨Y, hY⟩ : ∃ Y, ltX s nc i bad = Y := ⟨_, rfl⟩
 rw [hY] at hR3
 rw [hY]
 have HY := hid (show ltX s SC.length i bad = Y by rw [HNN.out]; exact hY)
 clear hY
 obtain ⟨kc, j3, b3⟩ := Y
 dsimp only at hR3 ⊢
 clear q0 q1 q2 q3 q4 f0 f1 f2 f3 f4 y0 y1 y2 y3 y4 g0 g1 g2 g3 g4
 have hW3 := HW2.out.next (by omega) (by omega) hB3
 obtain ⟨q0, q1, q2, q3, q4⟩ := row5 hW3.item
 obtain ⟨f0, f1, f2, f3, f4⟩ := froz5 hW3.item
 obtain ⟨y0, y1, y2, y3, y4⟩ := row5 hW3.box
 obtain ⟨g0, g1, g2, g3, g4⟩ := froz5 hW3.box
 have hW4 := hW3.set2 (by omega) (by omega) (.int .u8 kc.toNat)
 have hR4 := hR3.but (But.setB w3 w.heap.size 2 (.int .u8 kc.toNat)) (by omega)
 have HW4 := hid hW4
 clear hW3 hW4
 go_wp2_with fail
 revert HW4 hR4
 generalize (w3.setCell ⟨w.heap.size, 2, none⟩ (.int .u8 kc.toNat)) = X
 intro hR4 HW4
 have hX4 := HC.out X HW4.out.but hR4.c0
 have hfc := xfc_any b (SC.map toX) kc X.drew (by rw [List.length_map]; have := HNC.out; omega) (hX4.but (But.drew _ _))
 have hfl := flds_len HWF0.out HNC.out kc
 obtain ⟨F, hF⟩ : ∃ F, (fldsX (SC.map toX) kc).length = F := ⟨_, rfl⟩
 rw [hF] at hfc hfl
 have HFF := hid hF
 have HFC := hid hfc
 have hF8 : F ≤ 8 := by have := HNC.out; omega
 clear hF hfc hfl hX4
 obtain ⟨x0, x1, x2, x3, x4⟩ := row5 HW4.out.item
 have hgl := lt_of_block HW4.out.item
 have hS0 : But (fun _ => False) X X.drew := But.drew _ _
 refine wpTx_begin (But (fun _ => False) X) 6 (by kernel_rfl) ?_
 iterate 5 (refine wpTx_take (v := ?_) rfl (by kernel_rfl) (fun _ _ _ h => h) rfl hS0 ?_ ?_; rotate_left; (focus (intro wS h; have q0 := ((h.cell (p := ⟨w.heap.size, 2, none⟩) hgl (fun h => h)).trans x2); clear h; go_simp; try rfl)); dsimp only [Act.put]; try simp only [puts])
 refine wpTx_step rfl (by kernel_rfl) ?_
 intro KS hKS
 go_simp
 refine HFC.out.mono ?_
 rintro en w4 ⟨rfl, hw4⟩
 rw [hw4]
 clear hw4 w4 HFC
 refine hKS.out _ _ (fun _ => hS0) ?_
 clear hKS KS
 refine wpTx_step rfl (by kernel_rfl) ?_
 intro KS hKS
 go_simp
 refine hKS.out _ _ (fun h => absurd h (by decide)) ?_
 clear hKS KS
 refine wpTx_done rfl (by kernel_rfl) ?_
 have HW4' := hid (HW4.out.next (by omega) (by omega) (But.drew _ _))
 have hR4' := hR4.but hS0 (fun h => h)
 clear HW4 hR4 hS0 x0 x1 x2 x3 x4 hgl
 revert HW4' hR4'
 generalize X.drew = X'
 intro HW4 hR4
 go_wp2_with fail
 refine (xtakeDigit_any b s j3 b3 _ _ v2 _ F (by omega) hs hR4).mono ?_
 rintro en w5 ⟨rfl, hB5, hR5⟩
 obtain ⟨Z, hZ⟩ : ∃ Z, dgX s F j3 b3 = Z := ⟨_, rfl⟩
 rw [hZ] at hR5
 rw [hZ]
 have HZ := hid hZ
 clear hZ
 obtain ⟨d, j5, b5⟩ := Z
 dsimp only at hR5 ⊢
 clear q0 q1 q2 q3 q4 f0 f1 f2 f3 f4 y0 y1 y2 y3 y4 g0 g1 g2 g3 g4
 have hW5 := HW4.out.next (by omega) (by omega) hB5
 obtain ⟨q0, q1, q2, q3, q4⟩ := row5 hW5.item
 obtain ⟨f0, f1, f2, f3, f4⟩ := froz5 hW5.item
 obtain ⟨y0, y1, y2, y3, y4⟩ := row5 hW5.box
 obtain ⟨g0, g1, g2, g3, g4⟩ := froz5 hW5.box
 have hW6 := hW5.set3 (by omega) (by omega) (.int .i64 d)
 have hR6 := hR5.but (But.setB w5 w.heap.size 3 (.int .i64 d)) (by omega)
 have HWF := hid (hW6)
 have hRF := hR6
 go_wp2_with fail
 have h9b := put5_heap HWF.out.box (.int .i64 p) (.int .u8 112) (.int .u8 kc.toNat) (.int .i64 d) (.slice none 0 0)
 have h9d := put5_but (w5.setCell ⟨w.heap.size, 3, none⟩ (.int .i64 d)) (w.heap.size + 1) (.int .i64 p) (.int .u8 112) (.int .u8 kc.toNat) (.int .i64 d) (.slice none 0 0)
 unfold put5 at h9b h9d
 revert h9b h9d
 generalize (((((w5.setCell ⟨w.heap.size, 3, none⟩ (.int .i64 d)).setCell ⟨(w.heap.size + 1), 0, none⟩ (.int .i64 p)).setCell ⟨(w.heap.size + 1), 1, none⟩ (.int .u8 112)).setCell ⟨(w.heap.size + 1), 2, none⟩ (.int .u8 kc.toNat)).setCell ⟨(w.heap.size + 1), 3, none⟩ (.int .i64 d)).setCell ⟨(w.heap.size + 1), 4, none⟩ (.slice none 0 0) = w9
 intro h9b h9d
 obtain ⟨r0, r1, r2, r3, r4⟩ := row5 h9b
 exact bodyPost_ret (v := .agg #[(.int .i64 p), (.int .u8 112), (.int .u8 kc.toNat), (.int .i64 d), (.slice none 0 0)]) (by simp [results, Tryz.results223, go_sem, r0, r1, r2, r3, r4]) rfl ⟨HWF.out.but.next h9d (fun k hk h => by omega), ⟨p, 112, kc, d, none, 0, 0⟩, j5, b5, rfl, hRF.but h9d (by omega), operX_fld (by decide) HY.out HFF.out HZ.out⟩
theorem xop_c99 (p : Nat) (bad : Bool) (hnc : SC.length ≤ 4) (hng : ng ≤ 3) (hnl : nl ≤ 10) (hs : s.size ≤ 2000)
  (hR : XrB w b s i bad (.slice a0 SC.length cap0) (.slice a1 ng cap1) v2) (hv : v2.hl = .slice al nl capl) :
  Calls Tryz.prog 223 #[.pointer (some ⟨b, 0, none⟩), itV ⟨p, 99, 45, 0, none, 0, 0⟩] w fun en w' => But (· = b) w w' ∧ ∃ x j bad', en = .returned (itV x) ∧ XrB w' b s j bad' (.slice a0 SC.length cap0) (.slice a1 ng cap1) v2 ∧ operX s SC ng nl p 99 i bad = (x, j, bad') := by
 have hbw := hR.lt
 obtain ⟨nc, hncc⟩ : ∃ nc, SC.length = nc := ⟨_, rfl⟩
 have HNC := hid hnc
 have HNN := hid hncc
 rw [hncc] at hR hnc
 simp only [hncc]
 clear hncc
 obtain ⟨hB0, hg0, hg1⟩ := two_boxes w b hbw #[.int .i64 p, .int .u8 99, .int .u8 45, .int .i64 0, .slice none 0 0] #[.int .i64 0, .int .u8 0, .int .u8 0, .int .i64 0, .slice none 0 0] 219
 have hR0 := hR.but ((But.alloc (fun _ => False) w (.cells #[.int .i64 p, .int .u8 99, .int .u8 45, .int .i64 0, .slice none 0 0] 219)).trans (But.alloc _ _ (.cells #[.int .i64 0, .int .u8 0, .int .u8 0, .int .i64 0, .slice none 0 0] 219))) (fun h => h)
 have HW2 := hid (InsW.mk hB0 hg1 hg0)
 clear hB0 hg0 hg1
 unfold itV
 dsimp only
 simp only [show (UInt8.toNat 45) = 45 from rfl, show (UInt8.toNat 99) = 99 from rfl]
 go_enter Tryz.func223, Tryz.ntmps223
 go_wp2_with fail
 revert HW2 hR0
 generalize ((w.alloc (.cells #[.int .i64 p, .int .u8 99, .int .u8 45, .int .i64 0, .slice none 0 0] 219)).alloc (.cells #[.int .i64 0, .int .u8 0, .int .u8 0, .int .i64 0, .slice none 0 0] 219)) = W
 intro hR2 HW2
 obtain ⟨q0, q1, q2, q3, q4⟩ := row5 HW2.out.item
 obtain ⟨f0, f1, f2, f3, f4⟩ := froz5 HW2.out.item
 obtain ⟨y0, y1, y2, y3, y4⟩ := row5 HW2.out.box
 obtain ⟨g0, g1, g2, g3, g4⟩ := froz5 HW2.out.box
 refine (xclass_any b s i bad _ v2 _ nc cap0 a0 (by omega) hs hR2).mono ?_
 rintro en w3 ⟨rfl, hB3, hR3⟩
 obtain ⟨Y, hY⟩ : ∃ Y, ltX s nc i bad = Y := ⟨_, rfl⟩
 rw [hY] at hR3
 rw [hY]
 have HY := hid (show ltX s SC.length i bad = Y by rw [HNN.out]; exact hY)
 clear hY
 obtain ⟨kc, j3, b3⟩ := Y
 dsimp only at hR3 ⊢
 clear q0 q1 q2 q3 q4 f0 f1 f2 f3 f4 y0 y1 y2 y3 y4 g0 g1 g2 g3 g4
 have hW3 := HW2.out.next (by omega) (by omega) hB3
 obtain ⟨q0, q1, q2, q3, q4⟩ := row5 hW3.item
 obtain ⟨f0, f1, f2, f3, f4⟩ := froz5 hW3.item
 obtain ⟨y0, y1, y2, y3, y4⟩ := row5 hW3.box
 obtain ⟨g0, g1, g2, g3, g4⟩ := froz5 hW3.box
 have hW4 := hW3.set2 (by omega) (by omega) (.int .u8 kc.toNat)
 have hR4 := hR3.but (But.setB w3 w.heap.size 2 (.int .u8 kc.toNat)) (by omega)
 have HW4 := hid hW4
 clear hW3 hW4
 have p1 := hR4.c1
 go_wp2_with fail
 refine (xtakeDigit_any b s j3 b3 _ _ v2 _ ng (by omega) hs hR4).mono ?_
 rintro en w5 ⟨rfl, hB5, hR5⟩
 obtain ⟨Z, hZ⟩ : ∃ Z, dgX s ng j3 b3 = Z := ⟨_, rfl⟩
 rw [hZ] at hR5
 rw [hZ]
 have HZ := hid hZ
 clear hZ
 obtain ⟨d, j5, b5⟩ := Z
 dsimp only at hR5 ⊢
 clear p1 q0 q1 q2 q3 q4 f0 f1 f2 f3 f4 y0 y1 y2 y3 y4 g0 g1 g2 g3 g4
 have hW5 := HW4.out.next (by omega) (by omega) hB5
 obtain ⟨q0, q1, q2, q3, q4⟩ := row5 hW5.item
 obtain ⟨f0, f1, f2, f3, f4⟩ := froz5 hW5.item
 obtain ⟨y0, y1, y2, y3, y4⟩ := row5 hW5.box
 obtain ⟨g0, g1, g2, g3, g4⟩ := froz5 hW5.box
 have hW6 := hW5.set3 (by omega) (by omega) (.int .i64 d)
 have hR6 := hR5.but (But.setB w5 w.heap.size 3 (.int .i64 d)) (by omega)
 have HWF := hid (hW6)
 have hRF := hR6
 go_wp2_with fail
 have h9b := put5_heap HWF.out.box (.int .i64 p) (.int .u8 99) (.int .u8 kc.toNat) (.int .i64 d) (.slice none 0 0)
 have h9d := put5_but (w5.setCell ⟨w.heap.size, 3, none⟩ (.int .i64 d)) (w.heap.size + 1) (.int .i64 p) (.int .u8 99) (.int .u8 kc.toNat) (.int .i64 d) (.slice none 0 0)
 unfold put5 at h9b h9d
 revert h9b h9d
 generalize (((((w5.setCell ⟨w.heap.size, 3, none⟩ (.int .i64 d)).setCell ⟨(w.heap.size + 1), 0, none⟩ (.int .i64 p)).setCell ⟨(w.heap.size + 1), 1, none⟩ (.int .u8 99)).setCell ⟨(w.heap.size + 1), 2, none⟩ (.int .u8 kc.toNat)).setCell ⟨(w.heap.size + 1), 3, none⟩ (.int .i64 d)).setCell ⟨(w.heap.size + 1), 4, none⟩ (.slice none 0 0) = w9
 intro h9b h9d
 obtain ⟨r0, r1, r2, r3, r4⟩ := row5 h9b
 exact bodyPost_ret (v := .agg #[(.int .i64 p), (.int .u8 99), (.int .u8 kc.toNat), (.int .i64 d), (.slice none 0 0)]) (by simp [results, Tryz.results223, go_sem, r0, r1, r2, r3, r4]) rfl ⟨HWF.out.but.next h9d (fun k hk h => by omega), ⟨p, 99, kc, d, none, 0, 0⟩, j5, b5, rfl, hRF.but h9d (by omega), by unfold operX; rw [if_neg (by decide), if_neg (by decide), if_neg (by decide), if_pos (by decide), HY.out, HZ.out]⟩
theorem xoper_any (p : Nat) (bad : Bool) (c : UInt8) (hnc : SC.length ≤ 4) (hng : ng ≤ 3) (hnl : nl ≤ 10) (hs : s.size ≤ 2000)
  (hR : XrB w b s i bad (.slice a0 SC.length cap0) (.slice a1 ng cap1) v2) (hv : v2.hl = .slice al nl capl) (hG : c.toNat = 103 ∨ c.toNat = 112 → WfC SC ∧ TcV w base (.slice a0 SC.length cap0) (SC.map toX)) (hb : b < base) :
  Calls Tryz.prog 223 #[.pointer (some ⟨b, 0, none⟩), itV ⟨p, c, 45, 0, none, 0, 0⟩] w fun en w' => But (· = b) w w' ∧ ∃ x j bad', en = .returned (itV x) ∧ XrB w' b s j bad' (.slice a0 SC.length cap0) (.slice a1 ng cap1) v2 ∧ operX s SC ng nl p c i bad = (x, j, bad') := by
 have e : ∀ n : Nat, n < 256 → c.toNat = n → c = UInt8.ofNat n := fun n hn h => (u8n hn).1 h
 by_cases h108 : c.toNat = 108
 ·have hc : c = 108 := e _ (by decide) h108
  subst hc
  exact xop_d108 b s i SC a0 a1 al ng nl cap0 cap1 capl v2 w p bad hnc hng hnl hs hR hv
 by_cases h115 : c.toNat = 115
 ·have hc : c = 115 := e _ (by decide) h115
  subst hc
  exact xop_d115 b s i SC a0 a1 al ng nl cap0 cap1 capl v2 w p bad hnc hng hnl hs hR hv
 by_cases h110 : c.toNat = 110
 ·have hc : c = 110 := e _ (by decide) h110
  subst hc
  exact xop_c110 b s i SC a0 a1 al ng nl cap0 cap1 capl v2 w p bad hnc hng hnl hs hR hv
 by_cases h120 : c.toNat = 120
 ·have hc : c = 120 := e _ (by decide) h120
  subst hc
  exact xop_c120 b s i SC a0 a1 al ng nl cap0 cap1 capl v2 w p bad hnc hng hnl hs hR hv
 by_cases h103 : c.toNat = 103
 ·have hc : c = 103 := e _ (by decide) h103
  subst hc
  exact xop_f103 b base s i SC a0 a1 al ng nl cap0 cap1 capl v2 w p bad hnc hng hnl hs hR hv (hG (by decide)).1 (hG (by decide)).2 hb
 by_cases h112 : c.toNat = 112
 ·have hc : c = 112 := e _ (by decide) h112
  subst hc
  exact xop_f112 b base s i SC a0 a1 al ng nl cap0 cap1 capl v2 w p bad hnc hng hnl hs hR hv (hG (by decide)).1 (hG (by decide)).2 hb
 by_cases h99 : c.toNat = 99
 ·have hc : c = 99 := e _ (by decide) h99
  subst hc
  exact xop_c99 b s i SC a0 a1 al ng nl cap0 cap1 capl v2 w p bad hnc hng hnl hs hR hv
 exact xop_no b s i SC a0 a1 al ng nl cap0 cap1 capl v2 w p bad c h108 h115 h110 h120 h103 h112 h99 hnc hng hnl hs hR hv
end
end Go.Proofs.YtpfkkmacakjmbaaGreatDoor
