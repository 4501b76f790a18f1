import Derived.Test.YtmfbojnnoonidaaGreatDoorP09
namespace Go.Proofs.YtmfbojnnoonidaaGreatDoor
open Go Go.RowKit Sp
set_option linter.unusedSimpArgs false
set_option linter.unusedVariables false
attribute [local go_sem ↓] Go.wp_at_zero Go.wp_at_succ

/-- What 'Effect' answers. -/
def effV (R : Option (List UInt8 × List UInt8)) (st lo : List UInt8) : Value := match R with
  | some (s, l) => .tuple #[.agg #[.bool true, .string ⟨s.toArray⟩, .string ⟨l.toArray⟩], .bool true]
  | none => .tuple #[.agg #[.bool true, .string ⟨st.toArray⟩, .string ⟨lo.toArray⟩], .bool false]

theorem extract_take (l : List UInt8) (k : Nat) : (⟨l.toArray⟩ : ByteArray).extract 0 k = ⟨(l.take k).toArray⟩ := by
  apply ByteArray.ext
  simp [ByteArray.data_extract]
theorem extract_drop (l : List UInt8) (k : Nat) : (⟨l.toArray⟩ : ByteArray).extract k l.length = ⟨(l.drop k).toArray⟩ := by
  apply ByteArray.ext
  simp [ByteArray.data_extract]
  rw [List.take_of_length_le (by simp)]

theorem popsT_len (cs : List Cls) (gs : List Sig) (b : Bod) (x : Ins) : (popsT cs gs b x).length ≤ 2 := by
  unfold popsT
  repeat' split
  all_goals simp
theorem pushT_len (cs : List Cls) (gs : List Sig) (x : Ins) : (pushT cs gs x).length ≤ 1 := by
  unfold pushT
  repeat' split
  all_goals simp
theorem fitsT_len {cs : List Cls} {st wa : List UInt8} (h : fitsT cs st wa = true) : wa.length ≤ st.length := by
  unfold fitsT at h
  simp at h
  exact h.1

set_option maxHeartbeats 3200000 in
set_option maxRecDepth 100000 in
theorem eff_plain (bi : Nat) (im : Img) (bd : Bod) (ak : Option Addr) (n capk : Nat) (x : Ins) (st lo : List UInt8) (w : World) (hI : ImgAt w bi im) (hW : WfI im) (hbd : WfB im.classes im.sigs bd) (hx : WfX im.classes im.sigs.length bd.locals.length x) (hst : ∀ c ∈ st, okT im.classes.length c = true) (hsl : st.length ≤ 200) (hll : lo.length = bd.locals.length) (hv : x.op.toNat ≠ 115 ∧ x.op.toNat ≠ 100 ∧ x.op.toNat ≠ 101 ∧ x.op.toNat ≠ 120 ∧ x.op.toNat ≠ 108) :
    Calls Tryz.prog 81 #[.pointer (some ⟨bi, 0, none⟩), .agg #[.int .i64 bd.cls, .int .i64 bd.meth, .string ⟨bd.locals.toArray⟩, .slice ak n capk, .slice none 0 0], .agg #[.int .u8 x.op.toNat, .int .i64 x.a, .int .i64 x.b, .int .i64 x.pos], .agg #[.bool true, .string ⟨st.toArray⟩, .string ⟨lo.toArray⟩]] w fun en w' => en = .returned (effV (effT im.classes im.sigs bd x st lo) st lo) ∧ But (fun _ => False) w w' := by
  obtain ⟨R, hRR⟩ : ∃ R, effT im.classes im.sigs bd x st lo = R := ⟨_, rfl⟩
  rw [hRR]
  have HRR : Hid (effT im.classes im.sigs bd x st lo = R) := hRR
  clear hRR
  have hlo5 : lo.length ≤ 5 := by have := hbd.loc.1; omega
  have t115 : ((x.op.toNat : Int) == 115) = false := by rw [beq_eq_false_iff_ne]; omega
  have t100 : ((x.op.toNat : Int) == 100) = false := by rw [beq_eq_false_iff_ne]; omega
  have t101 : ((x.op.toNat : Int) == 101) = false := by rw [beq_eq_false_iff_ne]; omega
  have t120 : ((x.op.toNat : Int) == 120) = false := by rw [beq_eq_false_iff_ne]; omega
  have t108 : ((x.op.toNat : Int) == 108) = false := by rw [beq_eq_false_iff_ne]; omega
  have hstep : R = if fitsT im.classes st (popsT im.classes im.sigs bd x) = true then some (st.take (st.length - (popsT im.classes im.sigs bd x).length) ++ pushT im.classes im.sigs x, lo) else none := by rw [← HRR.out, effT, if_neg (by omega), if_neg (by omega)]
  have hPl := popsT_len im.classes im.sigs bd x
  have hUl := pushT_len im.classes im.sigs x
  have hpop := fun w (h : ImgAt w bi im) => pops_any bi im bd ak n capk x w h hW hbd hx trivial
  have hpush := fun w (h : ImgAt w bi im) => push_any bi im bd.locals.length x w h hW hx trivial
  generalize popsT im.classes im.sigs bd x = P at *
  generalize pushT im.classes im.sigs x = U at *
  have HST : Hid (R = if fitsT im.classes st P = true then some (st.take (st.length - P.length) ++ U, lo) else none) := hstep
  have HPOP := hid hpop
  have HPUSH := hid hpush
  clear hstep hv HRR hll hpop hpush
  go_enter Tryz.func81, Tryz.ntmps81
  go_wp2_with fail
  have hB0 : But (fun _ => False) w ((((w.alloc (.cells #[.int .i64 bd.cls, .int .i64 bd.meth, .string ⟨bd.locals.toArray⟩, .slice ak n capk, .slice none 0 0] 79)).alloc (.cells #[.int .u8 x.op.toNat, .int .i64 x.a, .int .i64 x.b, .int .i64 x.pos] 163)).alloc (.cells #[.bool true, .string ⟨st.toArray⟩, .string ⟨lo.toArray⟩] 117)).alloc (.cells #[.bool false, .string ⟨#[]⟩, .string ⟨#[]⟩] 117)) := (((But.alloc _ _ _).trans (But.alloc _ _ _)).trans (But.alloc _ _ _)).trans (But.alloc _ _ _)
  have hgR : ((((w.alloc (.cells #[.int .i64 bd.cls, .int .i64 bd.meth, .string ⟨bd.locals.toArray⟩, .slice ak n capk, .slice none 0 0] 79)).alloc (.cells #[.int .u8 x.op.toNat, .int .i64 x.a, .int .i64 x.b, .int .i64 x.pos] 163)).alloc (.cells #[.bool true, .string ⟨st.toArray⟩, .string ⟨lo.toArray⟩] 117)).alloc (.cells #[.bool false, .string ⟨#[]⟩, .string ⟨#[]⟩] 117)).heap[w.heap.size + 3]? = some (.cells #[.bool false, .string ⟨#[]⟩, .string ⟨#[]⟩] 117) := heap_alloc_at (by simp) _
  have hgS : ((((w.alloc (.cells #[.int .i64 bd.cls, .int .i64 bd.meth, .string ⟨bd.locals.toArray⟩, .slice ak n capk, .slice none 0 0] 79)).alloc (.cells #[.int .u8 x.op.toNat, .int .i64 x.a, .int .i64 x.b, .int .i64 x.pos] 163)).alloc (.cells #[.bool true, .string ⟨st.toArray⟩, .string ⟨lo.toArray⟩] 117)).alloc (.cells #[.bool false, .string ⟨#[]⟩, .string ⟨#[]⟩] 117)).heap[w.heap.size + 2]? = some (.cells #[.bool true, .string ⟨st.toArray⟩, .string ⟨lo.toArray⟩] 117) := ((But.alloc (fun _ => False) _ _).block _ (by simp) (fun h => h)).trans (heap_alloc_at (by simp) _)
  have hgI : ((((w.alloc (.cells #[.int .i64 bd.cls, .int .i64 bd.meth, .string ⟨bd.locals.toArray⟩, .slice ak n capk, .slice none 0 0] 79)).alloc (.cells #[.int .u8 x.op.toNat, .int .i64 x.a, .int .i64 x.b, .int .i64 x.pos] 163)).alloc (.cells #[.bool true, .string ⟨st.toArray⟩, .string ⟨lo.toArray⟩] 117)).alloc (.cells #[.bool false, .string ⟨#[]⟩, .string ⟨#[]⟩] 117)).heap[w.heap.size + 1]? = some (.cells #[.int .u8 x.op.toNat, .int .i64 x.a, .int .i64 x.b, .int .i64 x.pos] 163) := (((But.alloc (fun _ => False) _ _).trans (But.alloc (fun _ => False) _ _)).block _ (by simp) (fun h => h)).trans (heap_alloc_at (by simp) _)
  have hgB : ((((w.alloc (.cells #[.int .i64 bd.cls, .int .i64 bd.meth, .string ⟨bd.locals.toArray⟩, .slice ak n capk, .slice none 0 0] 79)).alloc (.cells #[.int .u8 x.op.toNat, .int .i64 x.a, .int .i64 x.b, .int .i64 x.pos] 163)).alloc (.cells #[.bool true, .string ⟨st.toArray⟩, .string ⟨lo.toArray⟩] 117)).alloc (.cells #[.bool false, .string ⟨#[]⟩, .string ⟨#[]⟩] 117)).heap[w.heap.size]? = some (.cells #[.int .i64 bd.cls, .int .i64 bd.meth, .string ⟨bd.locals.toArray⟩, .slice ak n capk, .slice none 0 0] 79) := ((((But.alloc (fun _ => False) _ _).trans (But.alloc (fun _ => False) _ _)).trans (But.alloc (fun _ => False) _ _)).block _ (by simp) (fun h => h)).trans (heap_alloc_new w _)
  generalize ((((w.alloc (.cells #[.int .i64 bd.cls, .int .i64 bd.meth, .string ⟨bd.locals.toArray⟩, .slice ak n capk, .slice none 0 0] 79)).alloc (.cells #[.int .u8 x.op.toNat, .int .i64 x.a, .int .i64 x.b, .int .i64 x.pos] 163)).alloc (.cells #[.bool true, .string ⟨st.toArray⟩, .string ⟨lo.toArray⟩] 117)).alloc (.cells #[.bool false, .string ⟨#[]⟩, .string ⟨#[]⟩] 117)) = W at *
  refine (HPOP.out _ (hI.but hB0)).mono ?_
  rintro en w1 ⟨rfl, hB1⟩
  replace hgR := (hB1.block _ (lt_of_block hgR) (fun h => h)).trans hgR
  replace hgS := (hB1.block _ (lt_of_block hgS) (fun h => h)).trans hgS
  replace hgI := (hB1.block _ (lt_of_block hgI) (fun h => h)).trans hgI
  replace hgB := (hB1.block _ (lt_of_block hgB) (fun h => h)).trans hgB
  have hBw1 := hB0.trans hB1
  have cS0 : w1.cell? ⟨w.heap.size + 2, 0, none⟩ = some (.bool true) := by rw [cell_of_row w1 _ 0 _ _ (0, 0) hgS]; rfl
  have cS1 : w1.cell? ⟨w.heap.size + 2, 1, none⟩ = some (.string ⟨st.toArray⟩) := by rw [cell_of_row w1 _ 1 _ _ (0, 0) hgS]; rfl
  have cS2 : w1.cell? ⟨w.heap.size + 2, 2, none⟩ = some (.string ⟨lo.toArray⟩) := by rw [cell_of_row w1 _ 2 _ _ (0, 0) hgS]; rfl
  go_wp2_with fail
  refine (fits_any bi im.classes st P _ (hI.but hBw1).cls hW.cls hW.nc hst (by omega) (by omega)).mono ?_
  rintro en w2 ⟨rfl, hB2⟩
  clear cS0 cS1 cS2
  replace hgR := (hB2.block _ (lt_of_block hgR) (fun h => h)).trans hgR
  replace hgS := (hB2.block _ (lt_of_block hgS) (fun h => h)).trans hgS
  replace hgI := (hB2.block _ (lt_of_block hgI) (fun h => h)).trans hgI
  replace hgB := (hB2.block _ (lt_of_block hgB) (fun h => h)).trans hgB
  have hBw2 := hBw1.trans hB2
  have cI0 : w2.cell? ⟨w.heap.size + 1, 0, none⟩ = some (.int .u8 x.op.toNat) := by rw [cell_of_row w2 _ 0 _ _ (0, 0) hgI]; rfl
  have cI1 : w2.cell? ⟨w.heap.size + 1, 1, none⟩ = some (.int .i64 x.a) := by rw [cell_of_row w2 _ 1 _ _ (0, 0) hgI]; rfl
  have cI2 : w2.cell? ⟨w.heap.size + 1, 2, none⟩ = some (.int .i64 x.b) := by rw [cell_of_row w2 _ 2 _ _ (0, 0) hgI]; rfl
  have cI3 : w2.cell? ⟨w.heap.size + 1, 3, none⟩ = some (.int .i64 x.pos) := by rw [cell_of_row w2 _ 3 _ _ (0, 0) hgI]; rfl
  have cS0 : w2.cell? ⟨w.heap.size + 2, 0, none⟩ = some (.bool true) := by rw [cell_of_row w2 _ 0 _ _ (0, 0) hgS]; rfl
  have cS1 : w2.cell? ⟨w.heap.size + 2, 1, none⟩ = some (.string ⟨st.toArray⟩) := by rw [cell_of_row w2 _ 1 _ _ (0, 0) hgS]; rfl
  have cS2 : w2.cell? ⟨w.heap.size + 2, 2, none⟩ = some (.string ⟨lo.toArray⟩) := by rw [cell_of_row w2 _ 2 _ _ (0, 0) hgS]; rfl
  have cR0 : w2.cell? ⟨w.heap.size + 3, 0, none⟩ = some (.bool false) := by rw [cell_of_row w2 _ 0 _ _ (0, 0) hgR]; rfl
  have fR0 : w2.frozen? ⟨w.heap.size + 3, 0, none⟩ = false := frozen_of_row w2 _ 0 _ _ hgR
  have cR1 : w2.cell? ⟨w.heap.size + 3, 1, none⟩ = some (.string ⟨#[]⟩) := by rw [cell_of_row w2 _ 1 _ _ (0, 0) hgR]; rfl
  have fR1 : w2.frozen? ⟨w.heap.size + 3, 1, none⟩ = false := frozen_of_row w2 _ 1 _ _ hgR
  have cR2 : w2.cell? ⟨w.heap.size + 3, 2, none⟩ = some (.string ⟨#[]⟩) := by rw [cell_of_row w2 _ 2 _ _ (0, 0) hgR]; rfl
  have fR2 : w2.frozen? ⟨w.heap.size + 3, 2, none⟩ = false := frozen_of_row w2 _ 2 _ _ hgR
  have hHP : Hid (∀ q, fitsT im.classes st P = q → R = if q = true then some (st.take (st.length - P.length) ++ U, lo) else none) := fun q hq => by rw [HST.out, hq]
  have hPL : fitsT im.classes st P = true → P.length ≤ st.length := fitsT_len
  cases hq : fitsT im.classes st P with
  | false =>
    have hres : R = none := by have := hHP.out _ hq; simpa using this
    subst hres
    clear hq hPL
    go_wp2_with fail
    refine bodyPost_ret (v := .tuple #[.agg #[.bool true, .string ⟨st.toArray⟩, .string ⟨lo.toArray⟩], .bool false]) (by simp [results, Tryz.results81, go_sem, cR0, cR1, cR2]) rfl ⟨rfl, ?_⟩
    exact ((hBw2.next (But.setB _ _ _ _) (fun k hk h => by omega)).next (But.setB _ _ _ _) (fun k hk h => by omega)).next (But.setB _ _ _ _) (fun k hk h => by omega)
  | true =>
    have hres : R = some (st.take (st.length - P.length) ++ U, lo) := by have := hHP.out _ hq; simpa using this
    have hPn := hPL hq
    subst hres
    clear hq hPL
    go_wp2_with fail
    refine (HPUSH.out _ (hI.but hBw2)).mono ?_
    rintro en w3 ⟨rfl, hB3⟩
    clear cI0 cI1 cI2 cI3 cS0 cS1 cS2 cR0 cR1 cR2 fR0 fR1 fR2
    replace hgR := (hB3.block _ (lt_of_block hgR) (fun h => h)).trans hgR
    replace hgS := (hB3.block _ (lt_of_block hgS) (fun h => h)).trans hgS
    replace hgI := (hB3.block _ (lt_of_block hgI) (fun h => h)).trans hgI
    replace hgB := (hB3.block _ (lt_of_block hgB) (fun h => h)).trans hgB
    have hBw3 := hBw2.trans hB3
    have cS0 : w3.cell? ⟨w.heap.size + 2, 0, none⟩ = some (.bool true) := by rw [cell_of_row w3 _ 0 _ _ (0, 0) hgS]; rfl
    have cS1 : w3.cell? ⟨w.heap.size + 2, 1, none⟩ = some (.string ⟨st.toArray⟩) := by rw [cell_of_row w3 _ 1 _ _ (0, 0) hgS]; rfl
    have cS2 : w3.cell? ⟨w.heap.size + 2, 2, none⟩ = some (.string ⟨lo.toArray⟩) := by rw [cell_of_row w3 _ 2 _ _ (0, 0) hgS]; rfl
    have cR0 : w3.cell? ⟨w.heap.size + 3, 0, none⟩ = some (.bool false) := by rw [cell_of_row w3 _ 0 _ _ (0, 0) hgR]; rfl
    have fR0 : w3.frozen? ⟨w.heap.size + 3, 0, none⟩ = false := frozen_of_row w3 _ 0 _ _ hgR
    have cR1 : w3.cell? ⟨w.heap.size + 3, 1, none⟩ = some (.string ⟨#[]⟩) := by rw [cell_of_row w3 _ 1 _ _ (0, 0) hgR]; rfl
    have fR1 : w3.frozen? ⟨w.heap.size + 3, 1, none⟩ = false := frozen_of_row w3 _ 1 _ _ hgR
    have cR2 : w3.cell? ⟨w.heap.size + 3, 2, none⟩ = some (.string ⟨#[]⟩) := by rw [cell_of_row w3 _ 2 _ _ (0, 0) hgR]; rfl
    have fR2 : w3.frozen? ⟨w.heap.size + 3, 2, none⟩ = false := frozen_of_row w3 _ 2 _ _ hgR
    have hPi : (P.length : Int) ≤ (st.length : Int) := by omega
    have hd0 : (0 : Int) ≤ (st.length : Int) - (P.length : Int) := by omega
    have hd1 : (st.length : Int) - (P.length : Int) ≤ (st.length : Int) := by omega
    have hwr := wrapI ((st.length : Int) - (P.length : Int)) (by omega) (by omega)
    have lS := lt_of_block hgS
    go_wp2_with fail
    have hS0 : But (fun _ => False) w3 w3.drew := But.drew _ _
    refine wpTx_begin (But (fun _ => False) w3) 12 (by kernel_rfl) ?_
    have fSA := hid (fun wS (h : (But (fun _ => False) w3) wS) => (And.intro ((h.cell (p := ⟨w.heap.size + 2, 1, none⟩) lS (fun h => h)).trans cS1) ((h.cell (p := ⟨w.heap.size + 2, 2, none⟩) lS (fun h => h)).trans cS2)))
    refine wpTx_take (v := ?vA0) rfl (by kernel_rfl) ?qA0 rfl hS0 ?yA0 ?rA0
    case yA0 => intro wS h; obtain ⟨q0, q1⟩ := fSA.out wS h; clear h; go_simp; try rfl
    case qA0 => exact fun _ _ _ h => h
    dsimp only [Act.put]
    try simp only [puts]
    refine wpTx_take (v := ?vA1) rfl (by kernel_rfl) ?qA1 rfl hS0 ?yA1 ?rA1
    case yA1 => intro wS h; obtain ⟨q0, q1⟩ := fSA.out wS h; clear h; go_simp; try rfl
    case qA1 => exact fun _ _ _ h => h
    dsimp only [Act.put]
    try simp only [puts]
    refine wpTx_take (v := ?vA2) rfl (by kernel_rfl) ?qA2 rfl hS0 ?yA2 ?rA2
    case yA2 => intro wS h; obtain ⟨q0, q1⟩ := fSA.out wS h; clear h; go_simp; try rfl
    case qA2 => exact fun _ _ _ h => h
    dsimp only [Act.put]
    try simp only [puts]
    refine wpTx_take (v := ?vA3) rfl (by kernel_rfl) ?qA3 rfl hS0 ?yA3 ?rA3
    case yA3 => intro wS h; obtain ⟨q0, q1⟩ := fSA.out wS h; clear h; go_simp; try rfl
    case qA3 => exact fun _ _ _ h => h
    dsimp only [Act.put]
    try simp only [puts]
    refine wpTx_take (v := ?vA4) rfl (by kernel_rfl) ?qA4 rfl hS0 ?yA4 ?rA4
    case yA4 => intro wS h; obtain ⟨q0, q1⟩ := fSA.out wS h; clear h; go_simp; try rfl
    case qA4 => exact fun _ _ _ h => h
    dsimp only [Act.put]
    try simp only [puts]
    refine wpTx_take (v := ?vA5) rfl (by kernel_rfl) ?qA5 rfl hS0 ?yA5 ?rA5
    case yA5 => intro wS h; obtain ⟨q0, q1⟩ := fSA.out wS h; clear h; go_simp; try rfl
    case qA5 => exact fun _ _ _ h => h
    dsimp only [Act.put]
    try simp only [puts]
    refine wpTx_take (v := ?vA6) rfl (by kernel_rfl) ?qA6 rfl hS0 ?yA6 ?rA6
    case yA6 => intro wS h; obtain ⟨q0, q1⟩ := fSA.out wS h; clear h; go_simp; try rfl
    case qA6 => exact fun _ _ _ h => h
    dsimp only [Act.put]
    try simp only [puts]
    try clear fSA
    have hext : (⟨st.toArray⟩ : ByteArray).extract 0 (st.length - P.length) = ⟨(st.take (st.length - P.length)).toArray⟩ := extract_take _ _
    have hsz : (⟨(st.take (st.length - P.length)).toArray⟩ : ByteArray).size + (⟨U.toArray⟩ : ByteArray).size ≤ 1000 := by show (st.take (st.length - P.length)).toArray.size + U.toArray.size ≤ 1000; simp; omega
    rw [hext]
    have hcat : ¬ 9223372036854775807 < st.length - P.length + U.length := by omega
    have fSA := hid (fun wS (h : (But (fun _ => False) w3) wS) => (And.intro ((h.cell (p := ⟨w.heap.size + 2, 1, none⟩) lS (fun h => h)).trans cS1) ((h.cell (p := ⟨w.heap.size + 2, 2, none⟩) lS (fun h => h)).trans cS2)))
    refine wpTx_take (v := ?vA7) rfl (by kernel_rfl) ?qA7 rfl hS0 ?yA7 ?rA7
    case yA7 => intro wS h; obtain ⟨q0, q1⟩ := fSA.out wS h; clear h; go_simp; try rfl
    case qA7 => exact fun _ _ _ h => h
    dsimp only [Act.put]
    try simp only [puts]
    refine wpTx_take (v := ?vA8) rfl (by kernel_rfl) ?qA8 rfl hS0 ?yA8 ?rA8
    case yA8 => intro wS h; obtain ⟨q0, q1⟩ := fSA.out wS h; clear h; go_simp; try rfl
    case qA8 => exact fun _ _ _ h => h
    dsimp only [Act.put]
    try simp only [puts]
    refine wpTx_take (v := ?vA9) rfl (by kernel_rfl) ?qA9 rfl hS0 ?yA9 ?rA9
    case yA9 => intro wS h; obtain ⟨q0, q1⟩ := fSA.out wS h; clear h; go_simp; try rfl
    case qA9 => exact fun _ _ _ h => h
    dsimp only [Act.put]
    try simp only [puts]
    refine wpTx_take (v := ?vA10) rfl (by kernel_rfl) ?qA10 rfl hS0 ?yA10 ?rA10
    case yA10 => intro wS h; obtain ⟨q0, q1⟩ := fSA.out wS h; clear h; go_simp; try rfl
    case qA10 => exact fun _ _ _ h => h
    dsimp only [Act.put]
    try simp only [puts]
    refine wpTx_take (v := ?vA11) rfl (by kernel_rfl) ?qA11 rfl hS0 ?yA11 ?rA11
    case yA11 => intro wS h; obtain ⟨q0, q1⟩ := fSA.out wS h; clear h; go_simp; try rfl
    case qA11 => exact fun _ _ _ h => h
    dsimp only [Act.put]
    try simp only [puts]
    try clear fSA
    clear hcat hsz hext hwr hd0 hd1 hPi
    refine wpTx_step (o := ?oA12) (rest := ?rsA12) ?hoA12 ?hrA12 ?stA12
    case hoA12 => rfl
    case hrA12 => kernel_rfl
    case' stA12 =>
    intro KS hKS
    go_simp
    refine hKS.out _ _ (fun h => absurd h (by decide)) ?_
    clear hKS KS
    refine wpTx_step (o := ?oA13) (rest := ?rsA13) ?hoA13 ?hrA13 ?stA13
    case hoA13 => rfl
    case hrA13 => kernel_rfl
    case' stA13 =>
    intro KS hKS
    go_simp
    refine hKS.out _ _ (fun h => absurd h (by decide)) ?_
    clear hKS KS
    refine wpTx_done rfl (by kernel_rfl) ?_
    go_wp2_with fail
    refine bodyPost_ret (v := .tuple #[.agg #[.bool true, .string ⟨(st.take (st.length - P.length) ++ U).toArray⟩, .string ⟨lo.toArray⟩], .bool true]) ?_ rfl ⟨rfl, ?_⟩
    · rw [← bytes_append]
      simp [results, Tryz.results81, go_sem, cR0, cR1, cR2]
    · exact (((hBw3.next (But.setB _ _ _ _) (fun k hk h => by omega)).next (But.setB _ _ _ _) (fun k hk h => by omega)).next (But.setB _ _ _ _) (fun k hk h => by omega)).trans (But.drew _ _)
end Go.Proofs.YtmfbojnnoonidaaGreatDoor
namespace Go.Proofs.YtmfbojnnoonidaaGreatDoor
open Go Go.RowKit Sp
set_option linter.unusedSimpArgs false
set_option linter.unusedVariables false
attribute [local go_sem ↓] Go.wp_at_zero Go.wp_at_succ

set_option maxHeartbeats 3200000 in
set_option maxRecDepth 100000 in
theorem eff_l (bi : Nat) (im : Img) (bd : Bod) (ak : Option Addr) (n capk : Nat) (x : Ins) (st lo : List UInt8) (w : World) (hI : ImgAt w bi im) (hW : WfI im) (hbd : WfB im.classes im.sigs bd) (hx : WfX im.classes im.sigs.length bd.locals.length x) (hst : ∀ c ∈ st, okT im.classes.length c = true) (hsl : st.length ≤ 200) (hll : lo.length = bd.locals.length) (hv : x.op.toNat = 108) :
    Calls Tryz.prog 81 #[.pointer (some ⟨bi, 0, none⟩), .agg #[.int .i64 bd.cls, .int .i64 bd.meth, .string ⟨bd.locals.toArray⟩, .slice ak n capk, .slice none 0 0], .agg #[.int .u8 x.op.toNat, .int .i64 x.a, .int .i64 x.b, .int .i64 x.pos], .agg #[.bool true, .string ⟨st.toArray⟩, .string ⟨lo.toArray⟩]] w fun en w' => en = .returned (effV (effT im.classes im.sigs bd x st lo) st lo) ∧ But (fun _ => False) w w' := by
  obtain ⟨R, hRR⟩ : ∃ R, effT im.classes im.sigs bd x st lo = R := ⟨_, rfl⟩
  rw [hRR]
  have HRR : Hid (effT im.classes im.sigs bd x st lo = R) := hRR
  clear hRR
  have hlo5 : lo.length ≤ 5 := by have := hbd.loc.1; omega
  have t115 : ((x.op.toNat : Int) == 115) = false := by rw [beq_eq_false_iff_ne]; omega
  have t100 : ((x.op.toNat : Int) == 100) = false := by rw [beq_eq_false_iff_ne]; omega
  have t101 : ((x.op.toNat : Int) == 101) = false := by rw [beq_eq_false_iff_ne]; omega
  have t120 : ((x.op.toNat : Int) == 120) = false := by rw [beq_eq_false_iff_ne]; omega
  have t108 : ((x.op.toNat : Int) == 108) = true := by rw [beq_iff_eq]; omega
  have hb : x.b < lo.length := by rw [hll]; exact hx.loc (by omega)
  have hbi : (x.b : Int) < (lo.length : Int) := by omega
  have hstep : R = if (lo.getD x.b 0).toNat = 45 then none else some (st ++ [lo.getD x.b 0], lo) := by rw [← HRR.out, effT, if_neg (by omega), if_pos hv]
  have hgd := getD_lt lo _ hb
  have hlg : ∀ h, (⟨lo.toArray⟩ : ByteArray)[x.b]'h = lo.getD x.b 0 := fun h => by rw [hgd]; exact lget lo _ hb _
  have hext : (⟨lo.toArray⟩ : ByteArray).extract x.b (x.b + 1) = ⟨#[lo.getD x.b 0]⟩ := by rw [extract1 lo x.b hb, hgd]
  clear hgd
  generalize lo.getD x.b 0 = C at *
  have HST : Hid (R = if C.toNat = 45 then none else some (st ++ [C], lo)) := hstep
  have HEX : Hid ((⟨lo.toArray⟩ : ByteArray).extract x.b (x.b + 1) = ⟨#[C]⟩) := hext
  clear hstep hv HRR hll hext
  by_cases h45 : C.toNat = 45
  · have hres : R = none := by rw [HST.out, if_pos h45]
    subst hres
    have tc : ((C.toNat : Int) == 45) = true := by rw [beq_iff_eq]; omega
    clear h45
    go_enter Tryz.func81, Tryz.ntmps81
    go_wp2_with fail
    refine bodyPost_ret (v := .tuple #[.agg #[.bool true, .string ⟨st.toArray⟩, .string ⟨lo.toArray⟩], .bool false]) (by simp [results, Tryz.results81, go_sem]) rfl ⟨rfl, ?_⟩
    exact (((But.alloc _ _ _).trans (But.alloc _ _ _)).trans (But.alloc _ _ _)).trans (But.alloc _ _ _)
  · have hres : R = some (st ++ [C], lo) := by rw [HST.out, if_neg h45]
    subst hres
    have tc : ((C.toNat : Int) == 45) = false := by rw [beq_eq_false_iff_ne]; omega
    clear h45
    go_enter Tryz.func81, Tryz.ntmps81
    go_wp2_with fail
    have hB0 : But (fun _ => False) w ((((w.alloc (.cells #[.int .i64 bd.cls, .int .i64 bd.meth, .string ⟨bd.locals.toArray⟩, .slice ak n capk, .slice none 0 0] 79)).alloc (.cells #[.int .u8 x.op.toNat, .int .i64 x.a, .int .i64 x.b, .int .i64 x.pos] 163)).alloc (.cells #[.bool true, .string ⟨st.toArray⟩, .string ⟨lo.toArray⟩] 117)).alloc (.cells #[.bool false, .string ⟨#[]⟩, .string ⟨#[]⟩] 117)) := (((But.alloc _ _ _).trans (But.alloc _ _ _)).trans (But.alloc _ _ _)).trans (But.alloc _ _ _)
    have hgR : ((((w.alloc (.cells #[.int .i64 bd.cls, .int .i64 bd.meth, .string ⟨bd.locals.toArray⟩, .slice ak n capk, .slice none 0 0] 79)).alloc (.cells #[.int .u8 x.op.toNat, .int .i64 x.a, .int .i64 x.b, .int .i64 x.pos] 163)).alloc (.cells #[.bool true, .string ⟨st.toArray⟩, .string ⟨lo.toArray⟩] 117)).alloc (.cells #[.bool false, .string ⟨#[]⟩, .string ⟨#[]⟩] 117)).heap[w.heap.size + 3]? = some (.cells #[.bool false, .string ⟨#[]⟩, .string ⟨#[]⟩] 117) := heap_alloc_at (by simp) _
    have hgS : ((((w.alloc (.cells #[.int .i64 bd.cls, .int .i64 bd.meth, .string ⟨bd.locals.toArray⟩, .slice ak n capk, .slice none 0 0] 79)).alloc (.cells #[.int .u8 x.op.toNat, .int .i64 x.a, .int .i64 x.b, .int .i64 x.pos] 163)).alloc (.cells #[.bool true, .string ⟨st.toArray⟩, .string ⟨lo.toArray⟩] 117)).alloc (.cells #[.bool false, .string ⟨#[]⟩, .string ⟨#[]⟩] 117)).heap[w.heap.size + 2]? = some (.cells #[.bool true, .string ⟨st.toArray⟩, .string ⟨lo.toArray⟩] 117) := ((But.alloc (fun _ => False) _ _).block _ (by simp) (fun h => h)).trans (heap_alloc_at (by simp) _)
    have hgI : ((((w.alloc (.cells #[.int .i64 bd.cls, .int .i64 bd.meth, .string ⟨bd.locals.toArray⟩, .slice ak n capk, .slice none 0 0] 79)).alloc (.cells #[.int .u8 x.op.toNat, .int .i64 x.a, .int .i64 x.b, .int .i64 x.pos] 163)).alloc (.cells #[.bool true, .string ⟨st.toArray⟩, .string ⟨lo.toArray⟩] 117)).alloc (.cells #[.bool false, .string ⟨#[]⟩, .string ⟨#[]⟩] 117)).heap[w.heap.size + 1]? = some (.cells #[.int .u8 x.op.toNat, .int .i64 x.a, .int .i64 x.b, .int .i64 x.pos] 163) := (((But.alloc (fun _ => False) _ _).trans (But.alloc (fun _ => False) _ _)).block _ (by simp) (fun h => h)).trans (heap_alloc_at (by simp) _)
    have hgB : ((((w.alloc (.cells #[.int .i64 bd.cls, .int .i64 bd.meth, .string ⟨bd.locals.toArray⟩, .slice ak n capk, .slice none 0 0] 79)).alloc (.cells #[.int .u8 x.op.toNat, .int .i64 x.a, .int .i64 x.b, .int .i64 x.pos] 163)).alloc (.cells #[.bool true, .string ⟨st.toArray⟩, .string ⟨lo.toArray⟩] 117)).alloc (.cells #[.bool false, .string ⟨#[]⟩, .string ⟨#[]⟩] 117)).heap[w.heap.size]? = some (.cells #[.int .i64 bd.cls, .int .i64 bd.meth, .string ⟨bd.locals.toArray⟩, .slice ak n capk, .slice none 0 0] 79) := ((((But.alloc (fun _ => False) _ _).trans (But.alloc (fun _ => False) _ _)).trans (But.alloc (fun _ => False) _ _)).block _ (by simp) (fun h => h)).trans (heap_alloc_new w _)
    generalize ((((w.alloc (.cells #[.int .i64 bd.cls, .int .i64 bd.meth, .string ⟨bd.locals.toArray⟩, .slice ak n capk, .slice none 0 0] 79)).alloc (.cells #[.int .u8 x.op.toNat, .int .i64 x.a, .int .i64 x.b, .int .i64 x.pos] 163)).alloc (.cells #[.bool true, .string ⟨st.toArray⟩, .string ⟨lo.toArray⟩] 117)).alloc (.cells #[.bool false, .string ⟨#[]⟩, .string ⟨#[]⟩] 117)) = W at *
    have cI0 : W.cell? ⟨w.heap.size + 1, 0, none⟩ = some (.int .u8 x.op.toNat) := by rw [cell_of_row W _ 0 _ _ (0, 0) hgI]; rfl
    have cI1 : W.cell? ⟨w.heap.size + 1, 1, none⟩ = some (.int .i64 x.a) := by rw [cell_of_row W _ 1 _ _ (0, 0) hgI]; rfl
    have cI2 : W.cell? ⟨w.heap.size + 1, 2, none⟩ = some (.int .i64 x.b) := by rw [cell_of_row W _ 2 _ _ (0, 0) hgI]; rfl
    have cI3 : W.cell? ⟨w.heap.size + 1, 3, none⟩ = some (.int .i64 x.pos) := by rw [cell_of_row W _ 3 _ _ (0, 0) hgI]; rfl
    have cS0 : W.cell? ⟨w.heap.size + 2, 0, none⟩ = some (.bool true) := by rw [cell_of_row W _ 0 _ _ (0, 0) hgS]; rfl
    have cS1 : W.cell? ⟨w.heap.size + 2, 1, none⟩ = some (.string ⟨st.toArray⟩) := by rw [cell_of_row W _ 1 _ _ (0, 0) hgS]; rfl
    have cS2 : W.cell? ⟨w.heap.size + 2, 2, none⟩ = some (.string ⟨lo.toArray⟩) := by rw [cell_of_row W _ 2 _ _ (0, 0) hgS]; rfl
    have cR0 : W.cell? ⟨w.heap.size + 3, 0, none⟩ = some (.bool false) := by rw [cell_of_row W _ 0 _ _ (0, 0) hgR]; rfl
    have fR0 : W.frozen? ⟨w.heap.size + 3, 0, none⟩ = false := frozen_of_row W _ 0 _ _ hgR
    have cR1 : W.cell? ⟨w.heap.size + 3, 1, none⟩ = some (.string ⟨#[]⟩) := by rw [cell_of_row W _ 1 _ _ (0, 0) hgR]; rfl
    have fR1 : W.frozen? ⟨w.heap.size + 3, 1, none⟩ = false := frozen_of_row W _ 1 _ _ hgR
    have cR2 : W.cell? ⟨w.heap.size + 3, 2, none⟩ = some (.string ⟨#[]⟩) := by rw [cell_of_row W _ 2 _ _ (0, 0) hgR]; rfl
    have fR2 : W.frozen? ⟨w.heap.size + 3, 2, none⟩ = false := frozen_of_row W _ 2 _ _ hgR
    have lS := lt_of_block hgS
    have lI := lt_of_block hgI
    have hnum := hx.num
    have hwr := wrapI ((x.b : Int) + 1) (by omega) (by omega)
    have hle : (x.b : Int) ≤ (x.b : Int) + 1 := by omega
    have hle0 : (0 : Int) ≤ (x.b : Int) + 1 := by omega
    have hle1 : (x.b : Int) + 1 ≤ (lo.length : Int) := by omega
    have hS0 : But (fun _ => False) W W.drew := But.drew _ _
    refine wpTx_begin (But (fun _ => False) W) 14 (by kernel_rfl) ?_
    have fSA := hid (fun wS (h : (But (fun _ => False) W) wS) => (And.intro ((h.cell (p := ⟨w.heap.size + 2, 1, none⟩) lS (fun h => h)).trans cS1) (And.intro ((h.cell (p := ⟨w.heap.size + 2, 2, none⟩) lS (fun h => h)).trans cS2) ((h.cell (p := ⟨w.heap.size + 1, 2, none⟩) lI (fun h => h)).trans cI2))))
    refine wpTx_take (v := ?vA0) rfl (by kernel_rfl) ?qA0 rfl hS0 ?yA0 ?rA0
    case yA0 => intro wS h; obtain ⟨q0, q1, q2⟩ := fSA.out wS h; clear h; go_simp; try rfl
    case qA0 => exact fun _ _ _ h => h
    dsimp only [Act.put]
    try simp only [puts]
    refine wpTx_take (v := ?vA1) rfl (by kernel_rfl) ?qA1 rfl hS0 ?yA1 ?rA1
    case yA1 => intro wS h; obtain ⟨q0, q1, q2⟩ := fSA.out wS h; clear h; go_simp; try rfl
    case qA1 => exact fun _ _ _ h => h
    dsimp only [Act.put]
    try simp only [puts]
    refine wpTx_take (v := ?vA2) rfl (by kernel_rfl) ?qA2 rfl hS0 ?yA2 ?rA2
    case yA2 => intro wS h; obtain ⟨q0, q1, q2⟩ := fSA.out wS h; clear h; go_simp; try rfl
    case qA2 => exact fun _ _ _ h => h
    dsimp only [Act.put]
    try simp only [puts]
    refine wpTx_take (v := ?vA3) rfl (by kernel_rfl) ?qA3 rfl hS0 ?yA3 ?rA3
    case yA3 => intro wS h; obtain ⟨q0, q1, q2⟩ := fSA.out wS h; clear h; go_simp; try rfl
    case qA3 => exact fun _ _ _ h => h
    dsimp only [Act.put]
    try simp only [puts]
    refine wpTx_take (v := ?vA4) rfl (by kernel_rfl) ?qA4 rfl hS0 ?yA4 ?rA4
    case yA4 => intro wS h; obtain ⟨q0, q1, q2⟩ := fSA.out wS h; clear h; go_simp; try rfl
    case qA4 => exact fun _ _ _ h => h
    dsimp only [Act.put]
    try simp only [puts]
    refine wpTx_take (v := ?vA5) rfl (by kernel_rfl) ?qA5 rfl hS0 ?yA5 ?rA5
    case yA5 => intro wS h; obtain ⟨q0, q1, q2⟩ := fSA.out wS h; clear h; go_simp; try rfl
    case qA5 => exact fun _ _ _ h => h
    dsimp only [Act.put]
    try simp only [puts]
    refine wpTx_take (v := ?vA6) rfl (by kernel_rfl) ?qA6 rfl hS0 ?yA6 ?rA6
    case yA6 => intro wS h; obtain ⟨q0, q1, q2⟩ := fSA.out wS h; clear h; go_simp; try rfl
    case qA6 => exact fun _ _ _ h => h
    dsimp only [Act.put]
    try simp only [puts]
    refine wpTx_take (v := ?vA7) rfl (by kernel_rfl) ?qA7 rfl hS0 ?yA7 ?rA7
    case yA7 => intro wS h; obtain ⟨q0, q1, q2⟩ := fSA.out wS h; clear h; go_simp; try rfl
    case qA7 => exact fun _ _ _ h => h
    dsimp only [Act.put]
    try simp only [puts]
    refine wpTx_take (v := ?vA8) rfl (by kernel_rfl) ?qA8 rfl hS0 ?yA8 ?rA8
    case yA8 => intro wS h; obtain ⟨q0, q1, q2⟩ := fSA.out wS h; clear h; go_simp; try rfl
    case qA8 => exact fun _ _ _ h => h
    dsimp only [Act.put]
    try simp only [puts]
    refine wpTx_take (v := ?vA9) rfl (by kernel_rfl) ?qA9 rfl hS0 ?yA9 ?rA9
    case yA9 => intro wS h; obtain ⟨q0, q1, q2⟩ := fSA.out wS h; clear h; go_simp; try rfl
    case qA9 => exact fun _ _ _ h => h
    dsimp only [Act.put]
    try simp only [puts]
    try clear fSA
    rw [HEX.out]
    clear hwr hle hle0 hle1
    have hcat : ¬ 9223372036854775807 < st.length + 1 := by omega
    have hcz : (⟨#[C]⟩ : ByteArray).size = 1 := rfl
    have fSA := hid (fun wS (h : (But (fun _ => False) W) wS) => (And.intro ((h.cell (p := ⟨w.heap.size + 2, 1, none⟩) lS (fun h => h)).trans cS1) ((h.cell (p := ⟨w.heap.size + 2, 2, none⟩) lS (fun h => h)).trans cS2)))
    refine wpTx_take (v := ?vA10) rfl (by kernel_rfl) ?qA10 rfl hS0 ?yA10 ?rA10
    case yA10 => intro wS h; obtain ⟨q0, q1⟩ := fSA.out wS h; clear h; go_simp; try rfl
    case qA10 => exact fun _ _ _ h => h
    dsimp only [Act.put]
    try simp only [puts]
    refine wpTx_take (v := ?vA11) rfl (by kernel_rfl) ?qA11 rfl hS0 ?yA11 ?rA11
    case yA11 => intro wS h; obtain ⟨q0, q1⟩ := fSA.out wS h; clear h; go_simp; try rfl
    case qA11 => exact fun _ _ _ h => h
    dsimp only [Act.put]
    try simp only [puts]
    refine wpTx_take (v := ?vA12) rfl (by kernel_rfl) ?qA12 rfl hS0 ?yA12 ?rA12
    case yA12 => intro wS h; obtain ⟨q0, q1⟩ := fSA.out wS h; clear h; go_simp; try rfl
    case qA12 => exact fun _ _ _ h => h
    dsimp only [Act.put]
    try simp only [puts]
    refine wpTx_take (v := ?vA13) rfl (by kernel_rfl) ?qA13 rfl hS0 ?yA13 ?rA13
    case yA13 => intro wS h; obtain ⟨q0, q1⟩ := fSA.out wS h; clear h; go_simp; try rfl
    case qA13 => exact fun _ _ _ h => h
    dsimp only [Act.put]
    try simp only [puts]
    try clear fSA
    clear hcat hcz
    refine wpTx_step (o := ?oA14) (rest := ?rsA14) ?hoA14 ?hrA14 ?stA14
    case hoA14 => rfl
    case hrA14 => kernel_rfl
    case' stA14 =>
    intro KS hKS
    go_simp
    refine hKS.out _ _ (fun h => absurd h (by decide)) ?_
    clear hKS KS
    refine wpTx_step (o := ?oA15) (rest := ?rsA15) ?hoA15 ?hrA15 ?stA15
    case hoA15 => rfl
    case hrA15 => kernel_rfl
    case' stA15 =>
    intro KS hKS
    go_simp
    refine hKS.out _ _ (fun h => absurd h (by decide)) ?_
    clear hKS KS
    refine wpTx_done rfl (by kernel_rfl) ?_
    go_wp2_with fail
    refine bodyPost_ret (v := .tuple #[.agg #[.bool true, .string ⟨(st ++ [C]).toArray⟩, .string ⟨lo.toArray⟩], .bool true]) ?_ rfl ⟨rfl, ?_⟩
    · rw [← bytes_snoc]
      simp [results, Tryz.results81, go_sem, cR0, cR1, cR2]
    · exact (((hB0.next (But.setB _ _ _ _) (fun k hk h => by omega)).next (But.setB _ _ _ _) (fun k hk h => by omega)).next (But.setB _ _ _ _) (fun k hk h => by omega)).trans (But.drew _ _)
end Go.Proofs.YtmfbojnnoonidaaGreatDoor
