import Derived.Test.YtpfkkmacakjmbaaGreatDoorP11
namespace Go.Proofs.YtpfkkmacakjmbaaGreatDoor
open Go Go.RowKit Sp
set_option linter.unusedSimpArgs false
set_option linter.unusedVariables false
attribute [local go_sem ↓] Go.wp_at_zero Go.wp_at_succ
set_option maxHeartbeats 3200000 in
set_option maxRecDepth 100000 in
theorem eff_l (bi : Nat) (im : Img) (bd : Bod) (ak : Option Addr) (n capk : Nat) (x : Ins) (st lo : List UInt8) (w : World) (hI : ImgAt w bi im) (hW : WfI im) (hbd : WfB im.classes im.sigs bd) (hx : WfX im.classes im.sigs.length bd.locals.length x) (hst : ∀ c ∈ st, okT im.classes.length c = true) (hsl : st.length ≤ 200) (hll : lo.length = bd.locals.length) (hv : x.op.toNat = 108) :
  Calls Tryz.prog 84 #[.pointer (some ⟨bi, 0, none⟩), .agg #[.int .i64 bd.cls, .int .i64 bd.meth, .string ⟨bd.locals.toArray⟩, .slice ak n capk, .slice none 0 0], .agg #[.int .u8 x.op.toNat, .int .i64 x.a, .int .i64 x.b, .int .i64 x.pos], .agg #[.bool true, .string ⟨st.toArray⟩, .string ⟨lo.toArray⟩]] w fun en w' => en = .returned (effV (effT im.classes im.sigs bd x st lo) st lo) ∧ But (fun _ => False) w w' := by
 obtain ⟨R, hRR⟩ : ∃ R, effT im.classes im.sigs bd x st lo = R := ⟨_, rfl⟩
 rw [hRR]
 have HRR : Hid (effT im.classes im.sigs bd x st lo = R) := hRR
 clear hRR
 have hlo5 : lo.length ≤ 5 := by have := hbd.loc.1; omega
 have t115 : ((x.op.toNat : Int) == 115) = false := by rw [beq_eq_false_iff_ne]; omega
 have t100 : ((x.op.toNat : Int) == 100) = false := by rw [beq_eq_false_iff_ne]; omega
 have t101 : ((x.op.toNat : Int) == 101) = false := by rw [beq_eq_false_iff_ne]; omega
 have t120 : ((x.op.toNat : Int) == 120) = false := by rw [beq_eq_false_iff_ne]; omega
 have t108 : ((x.op.toNat : Int) == 108) = true := by rw [beq_iff_eq]; omega
 have hb : x.b < lo.length := by rw [hll]; exact hx.loc (by omega)
 have hbi : (x.b : Int) < (lo.length : Int) := by omega
 have hstep : R = if (lo.getD x.b 0).toNat = 45 then none else some (st ++ [lo.getD x.b 0], lo) := by rw [← HRR.out, effT, if_neg (by omega), if_pos hv]
 have hgd := getD_lt lo _ hb
 have hlg : ∀ h, (⟨lo.toArray⟩ : ByteArray)[x.b]'h = lo.getD x.b 0 := fun h => by rw [hgd]; exact lget lo _ hb _
 have hext : (⟨lo.toArray⟩ : ByteArray).extract x.b (x.b + 1) = ⟨#[lo.getD x.b 0]⟩ := by rw [extract1 lo x.b hb, hgd]
 clear hgd
 generalize lo.getD x.b 0 = C at *
 have HST : Hid (R = if C.toNat = 45 then none else some (st ++ [C], lo)) := hstep
 have HEX : Hid ((⟨lo.toArray⟩ : ByteArray).extract x.b (x.b + 1) = ⟨#[C]⟩) := hext
 clear hstep hv HRR hll hext
 by_cases h45 : C.toNat = 45
 ·have hres : R = none := by rw [HST.out, if_pos h45]
  subst hres
  have tc : ((C.toNat : Int) == 45) = true := by rw [beq_iff_eq]; omega
  clear h45
  go_enter Tryz.func84, Tryz.ntmps84
  go_wp2_with fail
  refine bodyPost_ret (v := .tuple #[.agg #[.bool true, .string ⟨st.toArray⟩, .string ⟨lo.toArray⟩], .bool false]) (by simp [results, Tryz.results84, go_sem]) rfl ⟨rfl, ?_⟩
  exact (((But.alloc _ _ _).trans (But.alloc _ _ _)).trans (But.alloc _ _ _)).trans (But.alloc _ _ _)
 ·have hres : R = some (st ++ [C], lo) := by rw [HST.out, if_neg h45]
  subst hres
  have tc : ((C.toNat : Int) == 45) = false := by rw [beq_eq_false_iff_ne]; omega
  clear h45
  go_enter Tryz.func84, Tryz.ntmps84
  go_wp2_with fail
  have hB0 : But (fun _ => False) w ((((w.alloc (.cells #[.int .i64 bd.cls, .int .i64 bd.meth, .string ⟨bd.locals.toArray⟩, .slice ak n capk, .slice none 0 0] 52)).alloc (.cells #[.int .u8 x.op.toNat, .int .i64 x.a, .int .i64 x.b, .int .i64 x.pos] 144)).alloc (.cells #[.bool true, .string ⟨st.toArray⟩, .string ⟨lo.toArray⟩] 91)).alloc (.cells #[.bool false, .string ⟨#[]⟩, .string ⟨#[]⟩] 91)) := (((But.alloc _ _ _).trans (But.alloc _ _ _)).trans (But.alloc _ _ _)).trans (But.alloc _ _ _)
  have hgR : ((((w.alloc (.cells #[.int .i64 bd.cls, .int .i64 bd.meth, .string ⟨bd.locals.toArray⟩, .slice ak n capk, .slice none 0 0] 52)).alloc (.cells #[.int .u8 x.op.toNat, .int .i64 x.a, .int .i64 x.b, .int .i64 x.pos] 144)).alloc (.cells #[.bool true, .string ⟨st.toArray⟩, .string ⟨lo.toArray⟩] 91)).alloc (.cells #[.bool false, .string ⟨#[]⟩, .string ⟨#[]⟩] 91)).heap[w.heap.size + 3]? = some (.cells #[.bool false, .string ⟨#[]⟩, .string ⟨#[]⟩] 91) := heap_alloc_at (by simp) _
  have hgS : ((((w.alloc (.cells #[.int .i64 bd.cls, .int .i64 bd.meth, .string ⟨bd.locals.toArray⟩, .slice ak n capk, .slice none 0 0] 52)).alloc (.cells #[.int .u8 x.op.toNat, .int .i64 x.a, .int .i64 x.b, .int .i64 x.pos] 144)).alloc (.cells #[.bool true, .string ⟨st.toArray⟩, .string ⟨lo.toArray⟩] 91)).alloc (.cells #[.bool false, .string ⟨#[]⟩, .string ⟨#[]⟩] 91)).heap[w.heap.size + 2]? = some (.cells #[.bool true, .string ⟨st.toArray⟩, .string ⟨lo.toArray⟩] 91) := ((But.alloc (fun _ => False) _ _).block _ (by simp) (fun h => h)).trans (heap_alloc_at (by simp) _)
  have hgI : ((((w.alloc (.cells #[.int .i64 bd.cls, .int .i64 bd.meth, .string ⟨bd.locals.toArray⟩, .slice ak n capk, .slice none 0 0] 52)).alloc (.cells #[.int .u8 x.op.toNat, .int .i64 x.a, .int .i64 x.b, .int .i64 x.pos] 144)).alloc (.cells #[.bool true, .string ⟨st.toArray⟩, .string ⟨lo.toArray⟩] 91)).alloc (.cells #[.bool false, .string ⟨#[]⟩, .string ⟨#[]⟩] 91)).heap[w.heap.size + 1]? = some (.cells #[.int .u8 x.op.toNat, .int .i64 x.a, .int .i64 x.b, .int .i64 x.pos] 144) := (((But.alloc (fun _ => False) _ _).trans (But.alloc (fun _ => False) _ _)).block _ (by simp) (fun h => h)).trans (heap_alloc_at (by simp) _)
  have hgB : ((((w.alloc (.cells #[.int .i64 bd.cls, .int .i64 bd.meth, .string ⟨bd.locals.toArray⟩, .slice ak n capk, .slice none 0 0] 52)).alloc (.cells #[.int .u8 x.op.toNat, .int .i64 x.a, .int .i64 x.b, .int .i64 x.pos] 144)).alloc (.cells #[.bool true, .string ⟨st.toArray⟩, .string ⟨lo.toArray⟩] 91)).alloc (.cells #[.bool false, .string ⟨#[]⟩, .string ⟨#[]⟩] 91)).heap[w.heap.size]? = some (.cells #[.int .i64 bd.cls, .int .i64 bd.meth, .string ⟨bd.locals.toArray⟩, .slice ak n capk, .slice none 0 0] 52) := ((((But.alloc (fun _ => False) _ _).trans (But.alloc (fun _ => False) _ _)).trans (But.alloc (fun _ => False) _ _)).block _ (by simp) (fun h => h)).trans (heap_alloc_new w _)
  generalize ((((w.alloc (.cells #[.int .i64 bd.cls, .int .i64 bd.meth, .string ⟨bd.locals.toArray⟩, .slice ak n capk, .slice none 0 0] 52)).alloc (.cells #[.int .u8 x.op.toNat, .int .i64 x.a, .int .i64 x.b, .int .i64 x.pos] 144)).alloc (.cells #[.bool true, .string ⟨st.toArray⟩, .string ⟨lo.toArray⟩] 91)).alloc (.cells #[.bool false, .string ⟨#[]⟩, .string ⟨#[]⟩] 91)) = W at *
  have cI0 : W.cell? ⟨w.heap.size + 1, 0, none⟩ = some (.int .u8 x.op.toNat) := by rw [cell_of_row W _ 0 _ _ (0, 0) hgI]; rfl
  have cI1 : W.cell? ⟨w.heap.size + 1, 1, none⟩ = some (.int .i64 x.a) := by rw [cell_of_row W _ 1 _ _ (0, 0) hgI]; rfl
  have cI2 : W.cell? ⟨w.heap.size + 1, 2, none⟩ = some (.int .i64 x.b) := by rw [cell_of_row W _ 2 _ _ (0, 0) hgI]; rfl
  have cI3 : W.cell? ⟨w.heap.size + 1, 3, none⟩ = some (.int .i64 x.pos) := by rw [cell_of_row W _ 3 _ _ (0, 0) hgI]; rfl
  have cS0 : W.cell? ⟨w.heap.size + 2, 0, none⟩ = some (.bool true) := by rw [cell_of_row W _ 0 _ _ (0, 0) hgS]; rfl
  have cS1 : W.cell? ⟨w.heap.size + 2, 1, none⟩ = some (.string ⟨st.toArray⟩) := by rw [cell_of_row W _ 1 _ _ (0, 0) hgS]; rfl
  have cS2 : W.cell? ⟨w.heap.size + 2, 2, none⟩ = some (.string ⟨lo.toArray⟩) := by rw [cell_of_row W _ 2 _ _ (0, 0) hgS]; rfl
  have cR0 : W.cell? ⟨w.heap.size + 3, 0, none⟩ = some (.bool false) := by rw [cell_of_row W _ 0 _ _ (0, 0) hgR]; rfl
  have fR0 : W.frozen? ⟨w.heap.size + 3, 0, none⟩ = false := frozen_of_row W _ 0 _ _ hgR
  have cR1 : W.cell? ⟨w.heap.size + 3, 1, none⟩ = some (.string ⟨#[]⟩) := by rw [cell_of_row W _ 1 _ _ (0, 0) hgR]; rfl
  have fR1 : W.frozen? ⟨w.heap.size + 3, 1, none⟩ = false := frozen_of_row W _ 1 _ _ hgR
  have cR2 : W.cell? ⟨w.heap.size + 3, 2, none⟩ = some (.string ⟨#[]⟩) := by rw [cell_of_row W _ 2 _ _ (0, 0) hgR]; rfl
  have fR2 : W.frozen? ⟨w.heap.size + 3, 2, none⟩ = false := frozen_of_row W _ 2 _ _ hgR
  have lS := lt_of_block hgS
  have lI := lt_of_block hgI
  have hnum := hx.num
  have hwr := wrapI ((x.b : Int) + 1) (by omega) (by omega)
  have hle : (x.b : Int) ≤ (x.b : Int) + 1 := by omega
  have hle0 : (0 : Int) ≤ (x.b : Int) + 1 := by omega
  have hle1 : (x.b : Int) + 1 ≤ (lo.length : Int) := by omega
  have hS0 : But (fun _ => False) W W.drew := But.drew _ _
  refine wpTx_begin (But (fun _ => False) W) 14 (by kernel_rfl) ?_
  have fSA := hid (fun wS (h : (But (fun _ => False) W) wS) => (And.intro ((h.cell (p := ⟨w.heap.size + 2, 1, none⟩) lS (fun h => h)).trans cS1) (And.intro ((h.cell (p := ⟨w.heap.size + 2, 2, none⟩) lS (fun h => h)).trans cS2) ((h.cell (p := ⟨w.heap.size + 1, 2, none⟩) lI (fun h => h)).trans cI2))))
  refine wpTx_take (v := ?vA0) rfl (by kernel_rfl) ?qA0 rfl hS0 ?yA0 ?rA0
  case yA0 => intro wS h; obtain ⟨q0, q1, q2⟩ := fSA.out wS h; clear h; go_simp; try rfl
  case qA0 => exact fun _ _ _ h => h
  dsimp only [Act.put]
  try simp only [puts]
  refine wpTx_take (v := ?vA1) rfl (by kernel_rfl) ?qA1 rfl hS0 ?yA1 ?rA1
  case yA1 => intro wS h; obtain ⟨q0, q1, q2⟩ := fSA.out wS h; clear h; go_simp; try rfl
  case qA1 => exact fun _ _ _ h => h
  dsimp only [Act.put]
  try simp only [puts]
  refine wpTx_take (v := ?vA2) rfl (by kernel_rfl) ?qA2 rfl hS0 ?yA2 ?rA2
  case yA2 => intro wS h; obtain ⟨q0, q1, q2⟩ := fSA.out wS h; clear h; go_simp; try rfl
  case qA2 => exact fun _ _ _ h => h
  dsimp only [Act.put]
  try simp only [puts]
  refine wpTx_take (v := ?vA3) rfl (by kernel_rfl) ?qA3 rfl hS0 ?yA3 ?rA3
  case yA3 => intro wS h; obtain ⟨q0, q1, q2⟩ := fSA.out wS h; clear h; go_simp; try rfl
  case qA3 => exact fun _ _ _ h => h
  dsimp only [Act.put]
  try simp only [puts]
  refine wpTx_take (v := ?vA4) rfl (by kernel_rfl) ?qA4 rfl hS0 ?yA4 ?rA4
  case yA4 => intro wS h; obtain ⟨q0, q1, q2⟩ := fSA.out wS h; clear h; go_simp; try rfl
  case qA4 => exact fun _ _ _ h => h
  dsimp only [Act.put]
  try simp only [puts]
  refine wpTx_take (v := ?vA5) rfl (by kernel_rfl) ?qA5 rfl hS0 ?yA5 ?rA5
  case yA5 => intro wS h; obtain ⟨q0, q1, q2⟩ := fSA.out wS h; clear h; go_simp; try rfl
  case qA5 => exact fun _ _ _ h => h
  dsimp only [Act.put]
  try simp only [puts]
  refine wpTx_take (v := ?vA6) rfl (by kernel_rfl) ?qA6 rfl hS0 ?yA6 ?rA6
  case yA6 => intro wS h; obtain ⟨q0, q1, q2⟩ := fSA.out wS h; clear h; go_simp; try rfl
  case qA6 => exact fun _ _ _ h => h
  dsimp only [Act.put]
  try simp only [puts]
  refine wpTx_take (v := ?vA7) rfl (by kernel_rfl) ?qA7 rfl hS0 ?yA7 ?rA7
  case yA7 => intro wS h; obtain ⟨q0, q1, q2⟩ := fSA.out wS h; clear h; go_simp; try rfl
  case qA7 => exact fun _ _ _ h => h
  dsimp only [Act.put]
  try simp only [puts]
  refine wpTx_take (v := ?vA8) rfl (by kernel_rfl) ?qA8 rfl hS0 ?yA8 ?rA8
  case yA8 => intro wS h; obtain ⟨q0, q1, q2⟩ := fSA.out wS h; clear h; go_simp; try rfl
  case qA8 => exact fun _ _ _ h => h
  dsimp only [Act.put]
  try simp only [puts]
  refine wpTx_take (v := ?vA9) rfl (by kernel_rfl) ?qA9 rfl hS0 ?yA9 ?rA9
  case yA9 => intro wS h; obtain ⟨q0, q1, q2⟩ := fSA.out wS h; clear h; go_simp; try rfl
  case qA9 => exact fun _ _ _ h => h
  dsimp only [Act.put]
  try simp only [puts]
  try clear fSA
  rw [HEX.out]
  clear hwr hle hle0 hle1
  have hcat : ¬ 9223372036854775807 < st.length + 1 := by omega
  have hcz : (⟨#[C]⟩ : ByteArray).size = 1 := rfl
  have fSA := hid (fun wS (h : (But (fun _ => False) W) wS) => (And.intro ((h.cell (p := ⟨w.heap.size + 2, 1, none⟩) lS (fun h => h)).trans cS1) ((h.cell (p := ⟨w.heap.size + 2, 2, none⟩) lS (fun h => h)).trans cS2)))
  refine wpTx_take (v := ?vA10) rfl (by kernel_rfl) ?qA10 rfl hS0 ?yA10 ?rA10
  case yA10 => intro wS h; obtain ⟨q0, q1⟩ := fSA.out wS h; clear h; go_simp; try rfl
  case qA10 => exact fun _ _ _ h => h
  dsimp only [Act.put]
  try simp only [puts]
  refine wpTx_take (v := ?vA11) rfl (by kernel_rfl) ?qA11 rfl hS0 ?yA11 ?rA11
  case yA11 => intro wS h; obtain ⟨q0, q1⟩ := fSA.out wS h; clear h; go_simp; try rfl
  case qA11 => exact fun _ _ _ h => h
  dsimp only [Act.put]
  try simp only [puts]
  refine wpTx_take (v := ?vA12) rfl (by kernel_rfl) ?qA12 rfl hS0 ?yA12 ?rA12
  case yA12 => intro wS h; obtain ⟨q0, q1⟩ := fSA.out wS h; clear h; go_simp; try rfl
  case qA12 => exact fun _ _ _ h => h
  dsimp only [Act.put]
  try simp only [puts]
  refine wpTx_take (v := ?vA13) rfl (by kernel_rfl) ?qA13 rfl hS0 ?yA13 ?rA13
  case yA13 => intro wS h; obtain ⟨q0, q1⟩ := fSA.out wS h; clear h; go_simp; try rfl
  case qA13 => exact fun _ _ _ h => h
  dsimp only [Act.put]
  try simp only [puts]
  try clear fSA
  clear hcat hcz
  refine wpTx_step (o := ?oA14) (rest := ?rsA14) ?hoA14 ?hrA14 ?stA14
  case hoA14 => rfl
  case hrA14 => kernel_rfl
  case' stA14 =>
  intro KS hKS
  go_simp
  refine hKS.out _ _ (fun h => absurd h (by decide)) ?_
  clear hKS KS
  refine wpTx_step (o := ?oA15) (rest := ?rsA15) ?hoA15 ?hrA15 ?stA15
  case hoA15 => rfl
  case hrA15 => kernel_rfl
  case' stA15 =>
  intro KS hKS
  go_simp
  refine hKS.out _ _ (fun h => absurd h (by decide)) ?_
  clear hKS KS
  refine wpTx_done rfl (by kernel_rfl) ?_
  go_wp2_with fail
  refine bodyPost_ret (v := .tuple #[.agg #[.bool true, .string ⟨(st ++ [C]).toArray⟩, .string ⟨lo.toArray⟩], .bool true]) ?_ rfl ⟨rfl, ?_⟩
  ·rw [← bytes_snoc]
   simp [results, Tryz.results84, go_sem, cR0, cR1, cR2]
  ·exact (((hB0.next (But.setB _ _ _ _) (fun k hk h => by omega)).next (But.setB _ _ _ _) (fun k hk h => by omega)).next (But.setB _ _ _ _) (fun k hk h => by omega)).trans (But.drew _ _)
end Go.Proofs.YtpfkkmacakjmbaaGreatDoor
namespace Go.Proofs.YtpfkkmacakjmbaaGreatDoor
open Go Go.RowKit Sp
set_option linter.unusedSimpArgs false
set_option linter.unusedVariables false
attribute [local go_sem ↓] Go.wp_at_zero Go.wp_at_succ
theorem set_parts (lo st : List UInt8) (b : Nat) (hb : b < lo.length) (hs : 0 < st.length) :
  ((⟨lo.toArray⟩ : ByteArray).extract 0 b ++ (⟨st.toArray⟩ : ByteArray).extract (st.length - 1) st.length) ++ (⟨lo.toArray⟩ : ByteArray).extract (b + 1) lo.length = ⟨(lo.set b (st.getD (st.length - 1) 0)).toArray⟩ := by
 rw [extract_take, extract_drop, extract_drop, bytes_append, bytes_append]
 congr 2
 have h1 : st.drop (st.length - 1) = [st.getD (st.length - 1) 0] := by
  rw [getD_lt st _ (by omega)]
  rw [List.drop_eq_getElem_cons (by omega)]
  rw [List.drop_eq_nil_of_le (by omega)]
 rw [h1, List.set_eq_take_append_cons_drop, if_pos hb]
 simp
theorem looseT_le {c : Nat} {st : List UInt8} {k : Nat} (h : looseT c st = some k) : k ≤ st.length ∧ 1 ≤ k := by
 unfold looseT at h
 split at h
 ·split at h
  ·cases h
  ·rename_i h1; cases h; omega
 ·split at h
  ·cases h
  ·rename_i h1; cases h; omega
set_option maxHeartbeats 3200000 in
set_option maxRecDepth 100000 in
theorem eff_115 (bi : Nat) (im : Img) (bd : Bod) (ak : Option Addr) (n capk : Nat) (x : Ins) (st lo : List UInt8) (w : World) (hI : ImgAt w bi im) (hW : WfI im) (hbd : WfB im.classes im.sigs bd) (hx : WfX im.classes im.sigs.length bd.locals.length x) (hst : ∀ c ∈ st, okT im.classes.length c = true) (hsl : st.length ≤ 200) (hll : lo.length = bd.locals.length) (hv : x.op.toNat = 115) :
  Calls Tryz.prog 84 #[.pointer (some ⟨bi, 0, none⟩), .agg #[.int .i64 bd.cls, .int .i64 bd.meth, .string ⟨bd.locals.toArray⟩, .slice ak n capk, .slice none 0 0], .agg #[.int .u8 x.op.toNat, .int .i64 x.a, .int .i64 x.b, .int .i64 x.pos], .agg #[.bool true, .string ⟨st.toArray⟩, .string ⟨lo.toArray⟩]] w fun en w' => en = .returned (effV (effT im.classes im.sigs bd x st lo) st lo) ∧ But (fun _ => False) w w' := by
 obtain ⟨R, hRR⟩ : ∃ R, effT im.classes im.sigs bd x st lo = R := ⟨_, rfl⟩
 rw [hRR]
 have HRR : Hid (effT im.classes im.sigs bd x st lo = R) := hRR
 clear hRR
 have hlo5 : lo.length ≤ 5 := by have := hbd.loc.1; omega
 have t115 : ((x.op.toNat : Int) == 115) = true := by rw [beq_iff_eq]; omega
 have hb : x.b < lo.length := by rw [hll]; exact hx.loc (by omega)
 have hbI : (x.b : Int) < (lo.length : Int) := by omega
 have hstep : R = match looseT x.op.toNat st with | none => none | some k => some (st.take (st.length - k) ++ pushT im.classes im.sigs x, lo.set x.b (st.getD (st.length - 1) 0)) := by rw [← HRR.out, effT, if_pos (by omega)]; cases looseT x.op.toNat st <;> simp [hv]
 have hUl := pushT_len im.classes im.sigs x
 have hpush := fun w (h : ImgAt w bi im) => push_any bi im bd.locals.length x w h hW hx trivial
 generalize pushT im.classes im.sigs x = U at *
 obtain ⟨lo2, hlo2⟩ : ∃ lo2, lo.set x.b (st.getD (st.length - 1) 0) = lo2 := ⟨_, rfl⟩
 rw [hlo2] at hstep
 have HLO : Hid (lo.set x.b (st.getD (st.length - 1) 0) = lo2) := hlo2
 clear hlo2
 have HST : Hid (R = match looseT x.op.toNat st with | none => none | some k => some (st.take (st.length - k) ++ U, lo2)) := hstep
 have HPUSH := hid hpush
 clear hstep hv HRR hll hpush
 go_enter Tryz.func84, Tryz.ntmps84
 go_wp2_with fail
 have hB0 : But (fun _ => False) w ((((w.alloc (.cells #[.int .i64 bd.cls, .int .i64 bd.meth, .string ⟨bd.locals.toArray⟩, .slice ak n capk, .slice none 0 0] 52)).alloc (.cells #[.int .u8 x.op.toNat, .int .i64 x.a, .int .i64 x.b, .int .i64 x.pos] 144)).alloc (.cells #[.bool true, .string ⟨st.toArray⟩, .string ⟨lo.toArray⟩] 91)).alloc (.cells #[.bool false, .string ⟨#[]⟩, .string ⟨#[]⟩] 91)) := (((But.alloc _ _ _).trans (But.alloc _ _ _)).trans (But.alloc _ _ _)).trans (But.alloc _ _ _)
 have hgR : ((((w.alloc (.cells #[.int .i64 bd.cls, .int .i64 bd.meth, .string ⟨bd.locals.toArray⟩, .slice ak n capk, .slice none 0 0] 52)).alloc (.cells #[.int .u8 x.op.toNat, .int .i64 x.a, .int .i64 x.b, .int .i64 x.pos] 144)).alloc (.cells #[.bool true, .string ⟨st.toArray⟩, .string ⟨lo.toArray⟩] 91)).alloc (.cells #[.bool false, .string ⟨#[]⟩, .string ⟨#[]⟩] 91)).heap[w.heap.size + 3]? = some (.cells #[.bool false, .string ⟨#[]⟩, .string ⟨#[]⟩] 91) := heap_alloc_at (by simp) _
 have hgS : ((((w.alloc (.cells #[.int .i64 bd.cls, .int .i64 bd.meth, .string ⟨bd.locals.toArray⟩, .slice ak n capk, .slice none 0 0] 52)).alloc (.cells #[.int .u8 x.op.toNat, .int .i64 x.a, .int .i64 x.b, .int .i64 x.pos] 144)).alloc (.cells #[.bool true, .string ⟨st.toArray⟩, .string ⟨lo.toArray⟩] 91)).alloc (.cells #[.bool false, .string ⟨#[]⟩, .string ⟨#[]⟩] 91)).heap[w.heap.size + 2]? = some (.cells #[.bool true, .string ⟨st.toArray⟩, .string ⟨lo.toArray⟩] 91) := ((But.alloc (fun _ => False) _ _).block _ (by simp) (fun h => h)).trans (heap_alloc_at (by simp) _)
 have hgI : ((((w.alloc (.cells #[.int .i64 bd.cls, .int .i64 bd.meth, .string ⟨bd.locals.toArray⟩, .slice ak n capk, .slice none 0 0] 52)).alloc (.cells #[.int .u8 x.op.toNat, .int .i64 x.a, .int .i64 x.b, .int .i64 x.pos] 144)).alloc (.cells #[.bool true, .string ⟨st.toArray⟩, .string ⟨lo.toArray⟩] 91)).alloc (.cells #[.bool false, .string ⟨#[]⟩, .string ⟨#[]⟩] 91)).heap[w.heap.size + 1]? = some (.cells #[.int .u8 x.op.toNat, .int .i64 x.a, .int .i64 x.b, .int .i64 x.pos] 144) := (((But.alloc (fun _ => False) _ _).trans (But.alloc (fun _ => False) _ _)).block _ (by simp) (fun h => h)).trans (heap_alloc_at (by simp) _)
 have hgB : ((((w.alloc (.cells #[.int .i64 bd.cls, .int .i64 bd.meth, .string ⟨bd.locals.toArray⟩, .slice ak n capk, .slice none 0 0] 52)).alloc (.cells #[.int .u8 x.op.toNat, .int .i64 x.a, .int .i64 x.b, .int .i64 x.pos] 144)).alloc (.cells #[.bool true, .string ⟨st.toArray⟩, .string ⟨lo.toArray⟩] 91)).alloc (.cells #[.bool false, .string ⟨#[]⟩, .string ⟨#[]⟩] 91)).heap[w.heap.size]? = some (.cells #[.int .i64 bd.cls, .int .i64 bd.meth, .string ⟨bd.locals.toArray⟩, .slice ak n capk, .slice none 0 0] 52) := ((((But.alloc (fun _ => False) _ _).trans (But.alloc (fun _ => False) _ _)).trans (But.alloc (fun _ => False) _ _)).block _ (by simp) (fun h => h)).trans (heap_alloc_new w _)
 generalize ((((w.alloc (.cells #[.int .i64 bd.cls, .int .i64 bd.meth, .string ⟨bd.locals.toArray⟩, .slice ak n capk, .slice none 0 0] 52)).alloc (.cells #[.int .u8 x.op.toNat, .int .i64 x.a, .int .i64 x.b, .int .i64 x.pos] 144)).alloc (.cells #[.bool true, .string ⟨st.toArray⟩, .string ⟨lo.toArray⟩] 91)).alloc (.cells #[.bool false, .string ⟨#[]⟩, .string ⟨#[]⟩] 91)) = W at *
 refine (loose_any x st _ (by omega)).mono ?_
 rintro en w1 ⟨rfl, hB1⟩
 replace hgR := (hB1.block _ (lt_of_block hgR) (fun h => h)).trans hgR
 replace hgS := (hB1.block _ (lt_of_block hgS) (fun h => h)).trans hgS
 replace hgI := (hB1.block _ (lt_of_block hgI) (fun h => h)).trans hgI
 replace hgB := (hB1.block _ (lt_of_block hgB) (fun h => h)).trans hgB
 have hBw1 := hB0.trans hB1
 have cI0 : w1.cell? ⟨w.heap.size + 1, 0, none⟩ = some (.int .u8 x.op.toNat) := by rw [cell_of_row w1 _ 0 _ _ (0, 0) hgI]; rfl
 have cI1 : w1.cell? ⟨w.heap.size + 1, 1, none⟩ = some (.int .i64 x.a) := by rw [cell_of_row w1 _ 1 _ _ (0, 0) hgI]; rfl
 have cI2 : w1.cell? ⟨w.heap.size + 1, 2, none⟩ = some (.int .i64 x.b) := by rw [cell_of_row w1 _ 2 _ _ (0, 0) hgI]; rfl
 have cI3 : w1.cell? ⟨w.heap.size + 1, 3, none⟩ = some (.int .i64 x.pos) := by rw [cell_of_row w1 _ 3 _ _ (0, 0) hgI]; rfl
 have cS0 : w1.cell? ⟨w.heap.size + 2, 0, none⟩ = some (.bool true) := by rw [cell_of_row w1 _ 0 _ _ (0, 0) hgS]; rfl
 have cS1 : w1.cell? ⟨w.heap.size + 2, 1, none⟩ = some (.string ⟨st.toArray⟩) := by rw [cell_of_row w1 _ 1 _ _ (0, 0) hgS]; rfl
 have cS2 : w1.cell? ⟨w.heap.size + 2, 2, none⟩ = some (.string ⟨lo.toArray⟩) := by rw [cell_of_row w1 _ 2 _ _ (0, 0) hgS]; rfl
 have cR0 : w1.cell? ⟨w.heap.size + 3, 0, none⟩ = some (.bool false) := by rw [cell_of_row w1 _ 0 _ _ (0, 0) hgR]; rfl
 have fR0 : w1.frozen? ⟨w.heap.size + 3, 0, none⟩ = false := frozen_of_row w1 _ 0 _ _ hgR
 have cR1 : w1.cell? ⟨w.heap.size + 3, 1, none⟩ = some (.string ⟨#[]⟩) := by rw [cell_of_row w1 _ 1 _ _ (0, 0) hgR]; rfl
 have fR1 : w1.frozen? ⟨w.heap.size + 3, 1, none⟩ = false := frozen_of_row w1 _ 1 _ _ hgR
 have cR2 : w1.cell? ⟨w.heap.size + 3, 2, none⟩ = some (.string ⟨#[]⟩) := by rw [cell_of_row w1 _ 2 _ _ (0, 0) hgR]; rfl
 have fR2 : w1.frozen? ⟨w.heap.size + 3, 2, none⟩ = false := frozen_of_row w1 _ 2 _ _ hgR
 have lS := lt_of_block hgS
 have lI := lt_of_block hgI
 have lR := lt_of_block hgR
 have hlt := @looseT_le x.op.toNat st
 cases hq : looseT x.op.toNat st with
 | none =>
  have hres : R = none := by rw [HST.out, hq]
  subst hres
  simp only [optI]
  clear hq hlt
  go_wp2_with fail
  refine bodyPost_ret (v := .tuple #[.agg #[.bool true, .string ⟨st.toArray⟩, .string ⟨lo.toArray⟩], .bool false]) (by simp [results, Tryz.results84, go_sem, cR0, cR1, cR2]) rfl ⟨rfl, ?_⟩
  exact ((hBw1.next (But.setB _ _ _ _) (fun k hk h => by omega)).next (But.setB _ _ _ _) (fun k hk h => by omega)).next (But.setB _ _ _ _) (fun k hk h => by omega)
 | some k =>
  have hres : R = some (st.take (st.length - k) ++ U, lo2) := by rw [HST.out, hq]
  subst hres
  obtain ⟨hkl, hk1⟩ := hlt hq
  simp only [optI]
  clear hq hlt HST
  have hk0 : (0 : Int) ≤ (k : Int) := by omega
  go_wp2_with fail
  have hd0 : (0 : Int) ≤ (st.length : Int) - (k : Int) := by omega
  have hd1 : (st.length : Int) - (k : Int) ≤ (st.length : Int) := by omega
  have hdk : (k : Int) ≤ (st.length : Int) := by omega
  have hwr := wrapI ((st.length : Int) - (k : Int)) (by omega) (by omega)
  have hS0 : But (fun _ => False) w1 w1.drew := But.drew _ _
  refine wpTx_begin (But (fun _ => False) w1) 10 (by kernel_rfl) ?_
  have fSA := hid (fun wS (h : (But (fun _ => False) w1) wS) => (And.intro ((h.cell (p := ⟨w.heap.size + 2, 1, none⟩) lS (fun h => h)).trans cS1) ((h.cell (p := ⟨w.heap.size + 2, 2, none⟩) lS (fun h => h)).trans cS2)))
  refine wpTx_take (v := ?vA0) rfl (by kernel_rfl) ?qA0 rfl hS0 ?yA0 ?rA0
  case yA0 => intro wS h; obtain ⟨q0, q1⟩ := fSA.out wS h; clear h; go_simp; try rfl
  case qA0 => exact fun _ _ _ h => h
  dsimp only [Act.put]
  try simp only [puts]
  refine wpTx_take (v := ?vA1) rfl (by kernel_rfl) ?qA1 rfl hS0 ?yA1 ?rA1
  case yA1 => intro wS h; obtain ⟨q0, q1⟩ := fSA.out wS h; clear h; go_simp; try rfl
  case qA1 => exact fun _ _ _ h => h
  dsimp only [Act.put]
  try simp only [puts]
  refine wpTx_take (v := ?vA2) rfl (by kernel_rfl) ?qA2 rfl hS0 ?yA2 ?rA2
  case yA2 => intro wS h; obtain ⟨q0, q1⟩ := fSA.out wS h; clear h; go_simp; try rfl
  case qA2 => exact fun _ _ _ h => h
  dsimp only [Act.put]
  try simp only [puts]
  refine wpTx_take (v := ?vA3) rfl (by kernel_rfl) ?qA3 rfl hS0 ?yA3 ?rA3
  case yA3 => intro wS h; obtain ⟨q0, q1⟩ := fSA.out wS h; clear h; go_simp; try rfl
  case qA3 => exact fun _ _ _ h => h
  dsimp only [Act.put]
  try simp only [puts]
  refine wpTx_take (v := ?vA4) rfl (by kernel_rfl) ?qA4 rfl hS0 ?yA4 ?rA4
  case yA4 => intro wS h; obtain ⟨q0, q1⟩ := fSA.out wS h; clear h; go_simp; try rfl
  case qA4 => exact fun _ _ _ h => h
  dsimp only [Act.put]
  try simp only [puts]
  refine wpTx_take (v := ?vA5) rfl (by kernel_rfl) ?qA5 rfl hS0 ?yA5 ?rA5
  case yA5 => intro wS h; obtain ⟨q0, q1⟩ := fSA.out wS h; clear h; go_simp; try rfl
  case qA5 => exact fun _ _ _ h => h
  dsimp only [Act.put]
  try simp only [puts]
  refine wpTx_take (v := ?vA6) rfl (by kernel_rfl) ?qA6 rfl hS0 ?yA6 ?rA6
  case yA6 => intro wS h; obtain ⟨q0, q1⟩ := fSA.out wS h; clear h; go_simp; try rfl
  case qA6 => exact fun _ _ _ h => h
  dsimp only [Act.put]
  try simp only [puts]
  refine wpTx_take (v := ?vA7) rfl (by kernel_rfl) ?qA7 rfl hS0 ?yA7 ?rA7
  case yA7 => intro wS h; obtain ⟨q0, q1⟩ := fSA.out wS h; clear h; go_simp; try rfl
  case qA7 => exact fun _ _ _ h => h
  dsimp only [Act.put]
  try simp only [puts]
  refine wpTx_take (v := ?vA8) rfl (by kernel_rfl) ?qA8 rfl hS0 ?yA8 ?rA8
  case yA8 => intro wS h; obtain ⟨q0, q1⟩ := fSA.out wS h; clear h; go_simp; try rfl
  case qA8 => exact fun _ _ _ h => h
  dsimp only [Act.put]
  try simp only [puts]
  try clear fSA
  have hext : (⟨st.toArray⟩ : ByteArray).extract 0 (st.length - k) = ⟨(st.take (st.length - k)).toArray⟩ := extract_take _ _
  rw [hext]
  clear hext hwr hd0 hd1 hdk
  refine wpTx_step (o := ?oA9) (rest := ?rsA9) ?hoA9 ?hrA9 ?stA9
  case hoA9 => rfl
  case hrA9 => kernel_rfl
  case' stA9 =>
  intro KS hKS
  go_simp
  refine hKS.out _ _ (fun _ => (But.alloc _ _ _).trans (But.drew _ _)) ?_
  clear hKS KS
  refine wpTx_step (o := ?oA10) (rest := ?rsA10) ?hoA10 ?hrA10 ?stA10
  case hoA10 => rfl
  case hrA10 => kernel_rfl
  case' stA10 =>
  intro KS hKS
  go_simp
  refine hKS.out _ _ (fun h => absurd h (by decide)) ?_
  clear hKS KS
  refine wpTx_done rfl (by kernel_rfl) ?_
  clear cI0 cI1 cI2 cI3 cS0 cS1 cS2 cR0 cR1 cR2 fR0 fR1 fR2
  have hBa : But (fun _ => False) w1 (w1.alloc (.cells #[.bool true, .string ⟨(st.take (st.length - k)).toArray⟩, .string ⟨lo.toArray⟩] 91)).drew := (But.alloc _ _ _).trans (But.drew _ _)
  have hgT : (w1.alloc (.cells #[.bool true, .string ⟨(st.take (st.length - k)).toArray⟩, .string ⟨lo.toArray⟩] 91)).drew.heap[w1.heap.size]? = some (.cells #[.bool true, .string ⟨(st.take (st.length - k)).toArray⟩, .string ⟨lo.toArray⟩] 91) := heap_alloc_new w1 _
  replace hgR := (hBa.block _ (lt_of_block hgR) (fun h => h)).trans hgR
  replace hgS := (hBa.block _ (lt_of_block hgS) (fun h => h)).trans hgS
  replace hgI := (hBa.block _ (lt_of_block hgI) (fun h => h)).trans hgI
  replace hgB := (hBa.block _ (lt_of_block hgB) (fun h => h)).trans hgB
  have hBw2 := hBw1.trans hBa
  generalize (w1.alloc (.cells #[.bool true, .string ⟨(st.take (st.length - k)).toArray⟩, .string ⟨lo.toArray⟩] 91)).drew = w2 at *
  obtain ⟨gT, hgTd⟩ : ∃ gT, w1.heap.size = gT := ⟨_, rfl⟩
  rw [hgTd] at hgT ⊢
  have hTR : w.heap.size + 3 < gT := by omega
  clear hgTd
  have cI0 : w2.cell? ⟨w.heap.size + 1, 0, none⟩ = some (.int .u8 x.op.toNat) := by rw [cell_of_row w2 _ 0 _ _ (0, 0) hgI]; rfl
  have cI1 : w2.cell? ⟨w.heap.size + 1, 1, none⟩ = some (.int .i64 x.a) := by rw [cell_of_row w2 _ 1 _ _ (0, 0) hgI]; rfl
  have cI2 : w2.cell? ⟨w.heap.size + 1, 2, none⟩ = some (.int .i64 x.b) := by rw [cell_of_row w2 _ 2 _ _ (0, 0) hgI]; rfl
  have cI3 : w2.cell? ⟨w.heap.size + 1, 3, none⟩ = some (.int .i64 x.pos) := by rw [cell_of_row w2 _ 3 _ _ (0, 0) hgI]; rfl
  have hs1 : (1 : Int) ≤ (st.length : Int) := by omega
  go_wp2_with fail
  clear cI0 cI1 cI2 cI3
  have cI0 : w2.cell? ⟨w.heap.size + 1, 0, none⟩ = some (.int .u8 x.op.toNat) := by rw [cell_of_row w2 _ 0 _ _ (0, 0) hgI]; rfl
  have cI1 : w2.cell? ⟨w.heap.size + 1, 1, none⟩ = some (.int .i64 x.a) := by rw [cell_of_row w2 _ 1 _ _ (0, 0) hgI]; rfl
  have cI2 : w2.cell? ⟨w.heap.size + 1, 2, none⟩ = some (.int .i64 x.b) := by rw [cell_of_row w2 _ 2 _ _ (0, 0) hgI]; rfl
  have cI3 : w2.cell? ⟨w.heap.size + 1, 3, none⟩ = some (.int .i64 x.pos) := by rw [cell_of_row w2 _ 3 _ _ (0, 0) hgI]; rfl
  have cS0 : w2.cell? ⟨w.heap.size + 2, 0, none⟩ = some (.bool true) := by rw [cell_of_row w2 _ 0 _ _ (0, 0) hgS]; rfl
  have cS1 : w2.cell? ⟨w.heap.size + 2, 1, none⟩ = some (.string ⟨st.toArray⟩) := by rw [cell_of_row w2 _ 1 _ _ (0, 0) hgS]; rfl
  have cS2 : w2.cell? ⟨w.heap.size + 2, 2, none⟩ = some (.string ⟨lo.toArray⟩) := by rw [cell_of_row w2 _ 2 _ _ (0, 0) hgS]; rfl
  replace lS := lt_of_block hgS
  replace lI := lt_of_block hgI
  have hnum := hx.num
  have hwr := wrapI ((x.b : Int) + 1) (by omega) (by omega)
  have hwr2 := wrapI ((st.length : Int) - 1) (by omega) (by omega)
  have hm0 : (0 : Int) ≤ (st.length : Int) - 1 := by omega
  have hm1 : (st.length : Int) - 1 ≤ (st.length : Int) := by omega
  have hle : (x.b : Int) ≤ (lo.length : Int) := by omega
  have hle0 : (0 : Int) ≤ (x.b : Int) + 1 := by omega
  have hle1 : (x.b : Int) + 1 ≤ (lo.length : Int) := by omega
  have hc1 : ¬ 9223372036854775807 < min x.b lo.length + (st.length - (st.length - 1)) := by omega
  have hc2 : ¬ 9223372036854775807 < min x.b lo.length + (st.length - (st.length - 1)) + (lo.length - (x.b + 1)) := by omega
  have hc3 : ¬ 9223372036854775807 < x.b + 1 := by omega
  have hS1 : But (fun _ => False) w2 w2.drew := But.drew _ _
  refine wpTx_begin (But (fun _ => False) w2) 19 (by kernel_rfl) ?_
  have fSB := hid (fun wS (h : (But (fun _ => False) w2) wS) => (And.intro ((h.cell (p := ⟨w.heap.size + 2, 1, none⟩) lS (fun h => h)).trans cS1) (And.intro ((h.cell (p := ⟨w.heap.size + 2, 2, none⟩) lS (fun h => h)).trans cS2) ((h.cell (p := ⟨w.heap.size + 1, 2, none⟩) lI (fun h => h)).trans cI2))))
  refine wpTx_take (v := ?vB0) rfl (by kernel_rfl) ?qB0 rfl hS1 ?yB0 ?rB0
  case yB0 => intro wS h; obtain ⟨q0, q1, q2⟩ := fSB.out wS h; clear h; go_simp; try rfl
  case qB0 => exact fun _ _ _ h => h
  dsimp only [Act.put]
  try simp only [puts]
  refine wpTx_take (v := ?vB1) rfl (by kernel_rfl) ?qB1 rfl hS1 ?yB1 ?rB1
  case yB1 => intro wS h; obtain ⟨q0, q1, q2⟩ := fSB.out wS h; clear h; go_simp; try rfl
  case qB1 => exact fun _ _ _ h => h
  dsimp only [Act.put]
  try simp only [puts]
  refine wpTx_take (v := ?vB2) rfl (by kernel_rfl) ?qB2 rfl hS1 ?yB2 ?rB2
  case yB2 => intro wS h; obtain ⟨q0, q1, q2⟩ := fSB.out wS h; clear h; go_simp; try rfl
  case qB2 => exact fun _ _ _ h => h
  dsimp only [Act.put]
  try simp only [puts]
  refine wpTx_take (v := ?vB3) rfl (by kernel_rfl) ?qB3 rfl hS1 ?yB3 ?rB3
  case yB3 => intro wS h; obtain ⟨q0, q1, q2⟩ := fSB.out wS h; clear h; go_simp; try rfl
  case qB3 => exact fun _ _ _ h => h
  dsimp only [Act.put]
  try simp only [puts]
  refine wpTx_take (v := ?vB4) rfl (by kernel_rfl) ?qB4 rfl hS1 ?yB4 ?rB4
  case yB4 => intro wS h; obtain ⟨q0, q1, q2⟩ := fSB.out wS h; clear h; go_simp; try rfl
  case qB4 => exact fun _ _ _ h => h
  dsimp only [Act.put]
  try simp only [puts]
  refine wpTx_take (v := ?vB5) rfl (by kernel_rfl) ?qB5 rfl hS1 ?yB5 ?rB5
  case yB5 => intro wS h; obtain ⟨q0, q1, q2⟩ := fSB.out wS h; clear h; go_simp; try rfl
  case qB5 => exact fun _ _ _ h => h
  dsimp only [Act.put]
  try simp only [puts]
  refine wpTx_take (v := ?vB6) rfl (by kernel_rfl) ?qB6 rfl hS1 ?yB6 ?rB6
  case yB6 => intro wS h; obtain ⟨q0, q1, q2⟩ := fSB.out wS h; clear h; go_simp; try rfl
  case qB6 => exact fun _ _ _ h => h
  dsimp only [Act.put]
  try simp only [puts]
  refine wpTx_take (v := ?vB7) rfl (by kernel_rfl) ?qB7 rfl hS1 ?yB7 ?rB7
  case yB7 => intro wS h; obtain ⟨q0, q1, q2⟩ := fSB.out wS h; clear h; go_simp; try rfl
  case qB7 => exact fun _ _ _ h => h
  dsimp only [Act.put]
  try simp only [puts]
  refine wpTx_take (v := ?vB8) rfl (by kernel_rfl) ?qB8 rfl hS1 ?yB8 ?rB8
  case yB8 => intro wS h; obtain ⟨q0, q1, q2⟩ := fSB.out wS h; clear h; go_simp; try rfl
  case qB8 => exact fun _ _ _ h => h
  dsimp only [Act.put]
  try simp only [puts]
  refine wpTx_take (v := ?vB9) rfl (by kernel_rfl) ?qB9 rfl hS1 ?yB9 ?rB9
  case yB9 => intro wS h; obtain ⟨q0, q1, q2⟩ := fSB.out wS h; clear h; go_simp; try rfl
  case qB9 => exact fun _ _ _ h => h
  dsimp only [Act.put]
  try simp only [puts]
  refine wpTx_take (v := ?vB10) rfl (by kernel_rfl) ?qB10 rfl hS1 ?yB10 ?rB10
  case yB10 => intro wS h; obtain ⟨q0, q1, q2⟩ := fSB.out wS h; clear h; go_simp; try rfl
  case qB10 => exact fun _ _ _ h => h
  dsimp only [Act.put]
  try simp only [puts]
  refine wpTx_take (v := ?vB11) rfl (by kernel_rfl) ?qB11 rfl hS1 ?yB11 ?rB11
  case yB11 => intro wS h; obtain ⟨q0, q1, q2⟩ := fSB.out wS h; clear h; go_simp; try rfl
  case qB11 => exact fun _ _ _ h => h
  dsimp only [Act.put]
  try simp only [puts]
  refine wpTx_take (v := ?vB12) rfl (by kernel_rfl) ?qB12 rfl hS1 ?yB12 ?rB12
  case yB12 => intro wS h; obtain ⟨q0, q1, q2⟩ := fSB.out wS h; clear h; go_simp; try rfl
  case qB12 => exact fun _ _ _ h => h
  dsimp only [Act.put]
  try simp only [puts]
  refine wpTx_take (v := ?vB13) rfl (by kernel_rfl) ?qB13 rfl hS1 ?yB13 ?rB13
  case yB13 => intro wS h; obtain ⟨q0, q1, q2⟩ := fSB.out wS h; clear h; go_simp; try rfl
  case qB13 => exact fun _ _ _ h => h
  dsimp only [Act.put]
  try simp only [puts]
  refine wpTx_take (v := ?vB14) rfl (by kernel_rfl) ?qB14 rfl hS1 ?yB14 ?rB14
  case yB14 => intro wS h; obtain ⟨q0, q1, q2⟩ := fSB.out wS h; clear h; go_simp; try rfl
  case qB14 => exact fun _ _ _ h => h
  dsimp only [Act.put]
  try simp only [puts]
  refine wpTx_take (v := ?vB15) rfl (by kernel_rfl) ?qB15 rfl hS1 ?yB15 ?rB15
  case yB15 => intro wS h; obtain ⟨q0, q1, q2⟩ := fSB.out wS h; clear h; go_simp; try rfl
  case qB15 => exact fun _ _ _ h => h
  dsimp only [Act.put]
  try simp only [puts]
  refine wpTx_take (v := ?vB16) rfl (by kernel_rfl) ?qB16 rfl hS1 ?yB16 ?rB16
  case yB16 => intro wS h; obtain ⟨q0, q1, q2⟩ := fSB.out wS h; clear h; go_simp; try rfl
  case qB16 => exact fun _ _ _ h => h
  dsimp only [Act.put]
  try simp only [puts]
  refine wpTx_take (v := ?vB17) rfl (by kernel_rfl) ?qB17 rfl hS1 ?yB17 ?rB17
  case yB17 => intro wS h; obtain ⟨q0, q1, q2⟩ := fSB.out wS h; clear h; go_simp; try rfl
  case qB17 => exact fun _ _ _ h => h
  dsimp only [Act.put]
  try simp only [puts]
  refine wpTx_take (v := ?vB18) rfl (by kernel_rfl) ?qB18 rfl hS1 ?yB18 ?rB18
  case yB18 => intro wS h; obtain ⟨q0, q1, q2⟩ := fSB.out wS h; clear h; go_simp; try rfl
  case qB18 => exact fun _ _ _ h => h
  dsimp only [Act.put]
  try simp only [puts]
  try clear fSB
  have hsp := set_parts lo st x.b hb (by omega)
  rw [HLO.out] at hsp
  rw [hsp]
  clear hsp hwr hwr2 hm0 hm1 hle hle0 hle1 hc1 hc2 hc3
  have T2 : w2.cell? ⟨gT, 2, none⟩ = some (.string ⟨lo.toArray⟩) := by rw [cell_of_row w2 _ 2 _ _ (0, 0) hgT]; rfl
  have F2 : w2.frozen? ⟨gT, 2, none⟩ = false := frozen_of_row w2 _ 2 _ _ hgT
  refine wpTx_step (o := ?oB19) (rest := ?rsB19) ?hoB19 ?hrB19 ?stB19
  case hoB19 => rfl
  case hrB19 => kernel_rfl
  case' stB19 =>
  intro KS hKS
  go_simp
  refine hKS.out _ _ (fun h => absurd h (by decide)) ?_
  clear hKS KS T2 F2
  refine wpTx_done rfl (by kernel_rfl) ?_
  clear cI0 cI1 cI2 cI3 cS0 cS1 cS2
  have hBc : But (· = gT) w2 (w2.setCell ⟨gT, 2, none⟩ (.string ⟨lo2.toArray⟩)).drew := (But.setB _ _ _ _).next (But.drew (fun _ => False) _) (fun _ _ h => h.elim)
  have hgT3 : (w2.setCell ⟨gT, 2, none⟩ (.string ⟨lo2.toArray⟩)).drew.heap[gT]? = some (.cells #[.bool true, .string ⟨(st.take (st.length - k)).toArray⟩, .string ⟨lo2.toArray⟩] 91) := heap_setCell_same w2 _ 2 _ _ _ hgT
  replace hgR := (hBc.block _ (lt_of_block hgR) (by omega)).trans hgR
  replace hgS := (hBc.block _ (lt_of_block hgS) (by omega)).trans hgS
  replace hgI := (hBc.block _ (lt_of_block hgI) (by omega)).trans hgI
  replace hgB := (hBc.block _ (lt_of_block hgB) (by omega)).trans hgB
  have hBw2c := hBw2.next hBc (fun k hk h => by omega)
  generalize (w2.setCell ⟨gT, 2, none⟩ (.string ⟨lo2.toArray⟩)).drew = w2c at *
  have cI0 : w2c.cell? ⟨w.heap.size + 1, 0, none⟩ = some (.int .u8 x.op.toNat) := by rw [cell_of_row w2c _ 0 _ _ (0, 0) hgI]; rfl
  have cI1 : w2c.cell? ⟨w.heap.size + 1, 1, none⟩ = some (.int .i64 x.a) := by rw [cell_of_row w2c _ 1 _ _ (0, 0) hgI]; rfl
  have cI2 : w2c.cell? ⟨w.heap.size + 1, 2, none⟩ = some (.int .i64 x.b) := by rw [cell_of_row w2c _ 2 _ _ (0, 0) hgI]; rfl
  have cI3 : w2c.cell? ⟨w.heap.size + 1, 3, none⟩ = some (.int .i64 x.pos) := by rw [cell_of_row w2c _ 3 _ _ (0, 0) hgI]; rfl
  go_wp2_with fail
  refine (HPUSH.out _ (hI.but hBw2c)).mono ?_
  rintro en w3 ⟨rfl, hB3⟩
  clear cI0 cI1 cI2 cI3
  replace hgT := (hB3.block _ (lt_of_block hgT3) (fun h => h)).trans hgT3
  replace hgR := (hB3.block _ (lt_of_block hgR) (fun h => h)).trans hgR
  replace hgS := (hB3.block _ (lt_of_block hgS) (fun h => h)).trans hgS
  replace hgI := (hB3.block _ (lt_of_block hgI) (fun h => h)).trans hgI
  replace hgB := (hB3.block _ (lt_of_block hgB) (fun h => h)).trans hgB
  have hBw3 := hBw2c.trans hB3
  have cR0 : w3.cell? ⟨w.heap.size + 3, 0, none⟩ = some (.bool false) := by rw [cell_of_row w3 _ 0 _ _ (0, 0) hgR]; rfl
  have fR0 : w3.frozen? ⟨w.heap.size + 3, 0, none⟩ = false := frozen_of_row w3 _ 0 _ _ hgR
  have cR1 : w3.cell? ⟨w.heap.size + 3, 1, none⟩ = some (.string ⟨#[]⟩) := by rw [cell_of_row w3 _ 1 _ _ (0, 0) hgR]; rfl
  have fR1 : w3.frozen? ⟨w.heap.size + 3, 1, none⟩ = false := frozen_of_row w3 _ 1 _ _ hgR
  have cR2 : w3.cell? ⟨w.heap.size + 3, 2, none⟩ = some (.string ⟨#[]⟩) := by rw [cell_of_row w3 _ 2 _ _ (0, 0) hgR]; rfl
  have fR2 : w3.frozen? ⟨w.heap.size + 3, 2, none⟩ = false := frozen_of_row w3 _ 2 _ _ hgR
  have T0 : w3.cell? ⟨gT, 0, none⟩ = some (.bool true) := by rw [cell_of_row w3 _ 0 _ _ (0, 0) hgT]; rfl
  have T1 : w3.cell? ⟨gT, 1, none⟩ = some (.string ⟨(st.take (st.length - k)).toArray⟩) := by rw [cell_of_row w3 _ 1 _ _ (0, 0) hgT]; rfl
  have T2 : w3.cell? ⟨gT, 2, none⟩ = some (.string ⟨lo2.toArray⟩) := by rw [cell_of_row w3 _ 2 _ _ (0, 0) hgT]; rfl
  have F1 : w3.frozen? ⟨gT, 1, none⟩ = false := frozen_of_row w3 _ 1 _ _ hgT
  have hcat : ¬ 9223372036854775807 < st.length - k + U.length := by omega
  have hne1 : gT ≠ w.heap.size + 3 := by omega
  have hne2 : w.heap.size + 3 ≠ gT := by omega
  go_wp2_with fail
  clear hcat
  refine bodyPost_ret (v := .tuple #[.agg #[.bool true, .string ⟨(st.take (st.length - k) ++ U).toArray⟩, .string ⟨lo2.toArray⟩], .bool true]) ?_ rfl ⟨rfl, ?_⟩
  ·rw [← bytes_append]
   simp [results, Tryz.results84, go_sem, cR0, cR1, cR2]
  ·exact (((hBw3.next (But.setB _ _ _ _) (fun k hk h => by omega)).next (But.setB _ _ _ _) (fun k hk h => by omega)).next (But.setB _ _ _ _) (fun k hk h => by omega)).next (But.setB _ _ _ _) (fun k hk h => by omega)
set_option maxHeartbeats 3200000 in
set_option maxRecDepth 100000 in
theorem eff_100 (bi : Nat) (im : Img) (bd : Bod) (ak : Option Addr) (n capk : Nat) (x : Ins) (st lo : List UInt8) (w : World) (hI : ImgAt w bi im) (hW : WfI im) (hbd : WfB im.classes im.sigs bd) (hx : WfX im.classes im.sigs.length bd.locals.length x) (hst : ∀ c ∈ st, okT im.classes.length c = true) (hsl : st.length ≤ 200) (hll : lo.length = bd.locals.length) (hv : x.op.toNat = 100) :
  Calls Tryz.prog 84 #[.pointer (some ⟨bi, 0, none⟩), .agg #[.int .i64 bd.cls, .int .i64 bd.meth, .string ⟨bd.locals.toArray⟩, .slice ak n capk, .slice none 0 0], .agg #[.int .u8 x.op.toNat, .int .i64 x.a, .int .i64 x.b, .int .i64 x.pos], .agg #[.bool true, .string ⟨st.toArray⟩, .string ⟨lo.toArray⟩]] w fun en w' => en = .returned (effV (effT im.classes im.sigs bd x st lo) st lo) ∧ But (fun _ => False) w w' := by
 obtain ⟨R, hRR⟩ : ∃ R, effT im.classes im.sigs bd x st lo = R := ⟨_, rfl⟩
 rw [hRR]
 have HRR : Hid (effT im.classes im.sigs bd x st lo = R) := hRR
 clear hRR
 have hlo5 : lo.length ≤ 5 := by have := hbd.loc.1; omega
 have t115 : ((x.op.toNat : Int) == 115) = false := by rw [beq_eq_false_iff_ne]; omega
 have t100 : ((x.op.toNat : Int) == 100) = true := by rw [beq_iff_eq]; omega
 have hstep : R = match looseT x.op.toNat st with | none => none | some k => some (st.take (st.length - k) ++ pushT im.classes im.sigs x, lo) := by rw [← HRR.out, effT, if_pos (by omega)]; cases looseT x.op.toNat st <;> simp [hv]
 have hUl := pushT_len im.classes im.sigs x
 have hpush := fun w (h : ImgAt w bi im) => push_any bi im bd.locals.length x w h hW hx trivial
 generalize pushT im.classes im.sigs x = U at *
 have HST : Hid (R = match looseT x.op.toNat st with | none => none | some k => some (st.take (st.length - k) ++ U, lo)) := hstep
 have HPUSH := hid hpush
 clear hstep hv HRR hll hpush
 go_enter Tryz.func84, Tryz.ntmps84
 go_wp2_with fail
 have hB0 : But (fun _ => False) w ((((w.alloc (.cells #[.int .i64 bd.cls, .int .i64 bd.meth, .string ⟨bd.locals.toArray⟩, .slice ak n capk, .slice none 0 0] 52)).alloc (.cells #[.int .u8 x.op.toNat, .int .i64 x.a, .int .i64 x.b, .int .i64 x.pos] 144)).alloc (.cells #[.bool true, .string ⟨st.toArray⟩, .string ⟨lo.toArray⟩] 91)).alloc (.cells #[.bool false, .string ⟨#[]⟩, .string ⟨#[]⟩] 91)) := (((But.alloc _ _ _).trans (But.alloc _ _ _)).trans (But.alloc _ _ _)).trans (But.alloc _ _ _)
 have hgR : ((((w.alloc (.cells #[.int .i64 bd.cls, .int .i64 bd.meth, .string ⟨bd.locals.toArray⟩, .slice ak n capk, .slice none 0 0] 52)).alloc (.cells #[.int .u8 x.op.toNat, .int .i64 x.a, .int .i64 x.b, .int .i64 x.pos] 144)).alloc (.cells #[.bool true, .string ⟨st.toArray⟩, .string ⟨lo.toArray⟩] 91)).alloc (.cells #[.bool false, .string ⟨#[]⟩, .string ⟨#[]⟩] 91)).heap[w.heap.size + 3]? = some (.cells #[.bool false, .string ⟨#[]⟩, .string ⟨#[]⟩] 91) := heap_alloc_at (by simp) _
 have hgS : ((((w.alloc (.cells #[.int .i64 bd.cls, .int .i64 bd.meth, .string ⟨bd.locals.toArray⟩, .slice ak n capk, .slice none 0 0] 52)).alloc (.cells #[.int .u8 x.op.toNat, .int .i64 x.a, .int .i64 x.b, .int .i64 x.pos] 144)).alloc (.cells #[.bool true, .string ⟨st.toArray⟩, .string ⟨lo.toArray⟩] 91)).alloc (.cells #[.bool false, .string ⟨#[]⟩, .string ⟨#[]⟩] 91)).heap[w.heap.size + 2]? = some (.cells #[.bool true, .string ⟨st.toArray⟩, .string ⟨lo.toArray⟩] 91) := ((But.alloc (fun _ => False) _ _).block _ (by simp) (fun h => h)).trans (heap_alloc_at (by simp) _)
 have hgI : ((((w.alloc (.cells #[.int .i64 bd.cls, .int .i64 bd.meth, .string ⟨bd.locals.toArray⟩, .slice ak n capk, .slice none 0 0] 52)).alloc (.cells #[.int .u8 x.op.toNat, .int .i64 x.a, .int .i64 x.b, .int .i64 x.pos] 144)).alloc (.cells #[.bool true, .string ⟨st.toArray⟩, .string ⟨lo.toArray⟩] 91)).alloc (.cells #[.bool false, .string ⟨#[]⟩, .string ⟨#[]⟩] 91)).heap[w.heap.size + 1]? = some (.cells #[.int .u8 x.op.toNat, .int .i64 x.a, .int .i64 x.b, .int .i64 x.pos] 144) := (((But.alloc (fun _ => False) _ _).trans (But.alloc (fun _ => False) _ _)).block _ (by simp) (fun h => h)).trans (heap_alloc_at (by simp) _)
 have hgB : ((((w.alloc (.cells #[.int .i64 bd.cls, .int .i64 bd.meth, .string ⟨bd.locals.toArray⟩, .slice ak n capk, .slice none 0 0] 52)).alloc (.cells #[.int .u8 x.op.toNat, .int .i64 x.a, .int .i64 x.b, .int .i64 x.pos] 144)).alloc (.cells #[.bool true, .string ⟨st.toArray⟩, .string ⟨lo.toArray⟩] 91)).alloc (.cells #[.bool false, .string ⟨#[]⟩, .string ⟨#[]⟩] 91)).heap[w.heap.size]? = some (.cells #[.int .i64 bd.cls, .int .i64 bd.meth, .string ⟨bd.locals.toArray⟩, .slice ak n capk, .slice none 0 0] 52) := ((((But.alloc (fun _ => False) _ _).trans (But.alloc (fun _ => False) _ _)).trans (But.alloc (fun _ => False) _ _)).block _ (by simp) (fun h => h)).trans (heap_alloc_new w _)
 generalize ((((w.alloc (.cells #[.int .i64 bd.cls, .int .i64 bd.meth, .string ⟨bd.locals.toArray⟩, .slice ak n capk, .slice none 0 0] 52)).alloc (.cells #[.int .u8 x.op.toNat, .int .i64 x.a, .int .i64 x.b, .int .i64 x.pos] 144)).alloc (.cells #[.bool true, .string ⟨st.toArray⟩, .string ⟨lo.toArray⟩] 91)).alloc (.cells #[.bool false, .string ⟨#[]⟩, .string ⟨#[]⟩] 91)) = W at *
 refine (loose_any x st _ (by omega)).mono ?_
 rintro en w1 ⟨rfl, hB1⟩
 replace hgR := (hB1.block _ (lt_of_block hgR) (fun h => h)).trans hgR
 replace hgS := (hB1.block _ (lt_of_block hgS) (fun h => h)).trans hgS
 replace hgI := (hB1.block _ (lt_of_block hgI) (fun h => h)).trans hgI
 replace hgB := (hB1.block _ (lt_of_block hgB) (fun h => h)).trans hgB
 have hBw1 := hB0.trans hB1
 have cI0 : w1.cell? ⟨w.heap.size + 1, 0, none⟩ = some (.int .u8 x.op.toNat) := by rw [cell_of_row w1 _ 0 _ _ (0, 0) hgI]; rfl
 have cI1 : w1.cell? ⟨w.heap.size + 1, 1, none⟩ = some (.int .i64 x.a) := by rw [cell_of_row w1 _ 1 _ _ (0, 0) hgI]; rfl
 have cI2 : w1.cell? ⟨w.heap.size + 1, 2, none⟩ = some (.int .i64 x.b) := by rw [cell_of_row w1 _ 2 _ _ (0, 0) hgI]; rfl
 have cI3 : w1.cell? ⟨w.heap.size + 1, 3, none⟩ = some (.int .i64 x.pos) := by rw [cell_of_row w1 _ 3 _ _ (0, 0) hgI]; rfl
 have cS0 : w1.cell? ⟨w.heap.size + 2, 0, none⟩ = some (.bool true) := by rw [cell_of_row w1 _ 0 _ _ (0, 0) hgS]; rfl
 have cS1 : w1.cell? ⟨w.heap.size + 2, 1, none⟩ = some (.string ⟨st.toArray⟩) := by rw [cell_of_row w1 _ 1 _ _ (0, 0) hgS]; rfl
 have cS2 : w1.cell? ⟨w.heap.size + 2, 2, none⟩ = some (.string ⟨lo.toArray⟩) := by rw [cell_of_row w1 _ 2 _ _ (0, 0) hgS]; rfl
 have cR0 : w1.cell? ⟨w.heap.size + 3, 0, none⟩ = some (.bool false) := by rw [cell_of_row w1 _ 0 _ _ (0, 0) hgR]; rfl
 have fR0 : w1.frozen? ⟨w.heap.size + 3, 0, none⟩ = false := frozen_of_row w1 _ 0 _ _ hgR
 have cR1 : w1.cell? ⟨w.heap.size + 3, 1, none⟩ = some (.string ⟨#[]⟩) := by rw [cell_of_row w1 _ 1 _ _ (0, 0) hgR]; rfl
 have fR1 : w1.frozen? ⟨w.heap.size + 3, 1, none⟩ = false := frozen_of_row w1 _ 1 _ _ hgR
 have cR2 : w1.cell? ⟨w.heap.size + 3, 2, none⟩ = some (.string ⟨#[]⟩) := by rw [cell_of_row w1 _ 2 _ _ (0, 0) hgR]; rfl
 have fR2 : w1.frozen? ⟨w.heap.size + 3, 2, none⟩ = false := frozen_of_row w1 _ 2 _ _ hgR
 have lS := lt_of_block hgS
 have lI := lt_of_block hgI
 have lR := lt_of_block hgR
 have hlt := @looseT_le x.op.toNat st
 cases hq : looseT x.op.toNat st with
 | none =>
  have hres : R = none := by rw [HST.out, hq]
  subst hres
  simp only [optI]
  clear hq hlt
  go_wp2_with fail
  refine bodyPost_ret (v := .tuple #[.agg #[.bool true, .string ⟨st.toArray⟩, .string ⟨lo.toArray⟩], .bool false]) (by simp [results, Tryz.results84, go_sem, cR0, cR1, cR2]) rfl ⟨rfl, ?_⟩
  exact ((hBw1.next (But.setB _ _ _ _) (fun k hk h => by omega)).next (But.setB _ _ _ _) (fun k hk h => by omega)).next (But.setB _ _ _ _) (fun k hk h => by omega)
 | some k =>
  have hres : R = some (st.take (st.length - k) ++ U, lo) := by rw [HST.out, hq]
  subst hres
  obtain ⟨hkl, hk1⟩ := hlt hq
  simp only [optI]
  clear hq hlt HST
  have hk0 : (0 : Int) ≤ (k : Int) := by omega
  go_wp2_with fail
  have hd0 : (0 : Int) ≤ (st.length : Int) - (k : Int) := by omega
  have hd1 : (st.length : Int) - (k : Int) ≤ (st.length : Int) := by omega
  have hdk : (k : Int) ≤ (st.length : Int) := by omega
  have hwr := wrapI ((st.length : Int) - (k : Int)) (by omega) (by omega)
  have hS0 : But (fun _ => False) w1 w1.drew := But.drew _ _
  refine wpTx_begin (But (fun _ => False) w1) 10 (by kernel_rfl) ?_
  have fSA := hid (fun wS (h : (But (fun _ => False) w1) wS) => (And.intro ((h.cell (p := ⟨w.heap.size + 2, 1, none⟩) lS (fun h => h)).trans cS1) ((h.cell (p := ⟨w.heap.size + 2, 2, none⟩) lS (fun h => h)).trans cS2)))
  refine wpTx_take (v := ?vA0) rfl (by kernel_rfl) ?qA0 rfl hS0 ?yA0 ?rA0
  case yA0 => intro wS h; obtain ⟨q0, q1⟩ := fSA.out wS h; clear h; go_simp; try rfl
  case qA0 => exact fun _ _ _ h => h
  dsimp only [Act.put]
  try simp only [puts]
  refine wpTx_take (v := ?vA1) rfl (by kernel_rfl) ?qA1 rfl hS0 ?yA1 ?rA1
  case yA1 => intro wS h; obtain ⟨q0, q1⟩ := fSA.out wS h; clear h; go_simp; try rfl
  case qA1 => exact fun _ _ _ h => h
  dsimp only [Act.put]
  try simp only [puts]
  refine wpTx_take (v := ?vA2) rfl (by kernel_rfl) ?qA2 rfl hS0 ?yA2 ?rA2
  case yA2 => intro wS h; obtain ⟨q0, q1⟩ := fSA.out wS h; clear h; go_simp; try rfl
  case qA2 => exact fun _ _ _ h => h
  dsimp only [Act.put]
  try simp only [puts]
  refine wpTx_take (v := ?vA3) rfl (by kernel_rfl) ?qA3 rfl hS0 ?yA3 ?rA3
  case yA3 => intro wS h; obtain ⟨q0, q1⟩ := fSA.out wS h; clear h; go_simp; try rfl
  case qA3 => exact fun _ _ _ h => h
  dsimp only [Act.put]
  try simp only [puts]
  refine wpTx_take (v := ?vA4) rfl (by kernel_rfl) ?qA4 rfl hS0 ?yA4 ?rA4
  case yA4 => intro wS h; obtain ⟨q0, q1⟩ := fSA.out wS h; clear h; go_simp; try rfl
  case qA4 => exact fun _ _ _ h => h
  dsimp only [Act.put]
  try simp only [puts]
  refine wpTx_take (v := ?vA5) rfl (by kernel_rfl) ?qA5 rfl hS0 ?yA5 ?rA5
  case yA5 => intro wS h; obtain ⟨q0, q1⟩ := fSA.out wS h; clear h; go_simp; try rfl
  case qA5 => exact fun _ _ _ h => h
  dsimp only [Act.put]
  try simp only [puts]
  refine wpTx_take (v := ?vA6) rfl (by kernel_rfl) ?qA6 rfl hS0 ?yA6 ?rA6
  case yA6 => intro wS h; obtain ⟨q0, q1⟩ := fSA.out wS h; clear h; go_simp; try rfl
  case qA6 => exact fun _ _ _ h => h
  dsimp only [Act.put]
  try simp only [puts]
  refine wpTx_take (v := ?vA7) rfl (by kernel_rfl) ?qA7 rfl hS0 ?yA7 ?rA7
  case yA7 => intro wS h; obtain ⟨q0, q1⟩ := fSA.out wS h; clear h; go_simp; try rfl
  case qA7 => exact fun _ _ _ h => h
  dsimp only [Act.put]
  try simp only [puts]
  refine wpTx_take (v := ?vA8) rfl (by kernel_rfl) ?qA8 rfl hS0 ?yA8 ?rA8
  case yA8 => intro wS h; obtain ⟨q0, q1⟩ := fSA.out wS h; clear h; go_simp; try rfl
  case qA8 => exact fun _ _ _ h => h
  dsimp only [Act.put]
  try simp only [puts]
  try clear fSA
  have hext : (⟨st.toArray⟩ : ByteArray).extract 0 (st.length - k) = ⟨(st.take (st.length - k)).toArray⟩ := extract_take _ _
  rw [hext]
  clear hext hwr hd0 hd1 hdk
  refine wpTx_step (o := ?oA9) (rest := ?rsA9) ?hoA9 ?hrA9 ?stA9
  case hoA9 => rfl
  case hrA9 => kernel_rfl
  case' stA9 =>
  intro KS hKS
  go_simp
  refine hKS.out _ _ (fun _ => (But.alloc _ _ _).trans (But.drew _ _)) ?_
  clear hKS KS
  refine wpTx_step (o := ?oA10) (rest := ?rsA10) ?hoA10 ?hrA10 ?stA10
  case hoA10 => rfl
  case hrA10 => kernel_rfl
  case' stA10 =>
  intro KS hKS
  go_simp
  refine hKS.out _ _ (fun h => absurd h (by decide)) ?_
  clear hKS KS
  refine wpTx_done rfl (by kernel_rfl) ?_
  clear cI0 cI1 cI2 cI3 cS0 cS1 cS2 cR0 cR1 cR2 fR0 fR1 fR2
  have hBa : But (fun _ => False) w1 (w1.alloc (.cells #[.bool true, .string ⟨(st.take (st.length - k)).toArray⟩, .string ⟨lo.toArray⟩] 91)).drew := (But.alloc _ _ _).trans (But.drew _ _)
  have hgT : (w1.alloc (.cells #[.bool true, .string ⟨(st.take (st.length - k)).toArray⟩, .string ⟨lo.toArray⟩] 91)).drew.heap[w1.heap.size]? = some (.cells #[.bool true, .string ⟨(st.take (st.length - k)).toArray⟩, .string ⟨lo.toArray⟩] 91) := heap_alloc_new w1 _
  replace hgR := (hBa.block _ (lt_of_block hgR) (fun h => h)).trans hgR
  replace hgS := (hBa.block _ (lt_of_block hgS) (fun h => h)).trans hgS
  replace hgI := (hBa.block _ (lt_of_block hgI) (fun h => h)).trans hgI
  replace hgB := (hBa.block _ (lt_of_block hgB) (fun h => h)).trans hgB
  have hBw2 := hBw1.trans hBa
  generalize (w1.alloc (.cells #[.bool true, .string ⟨(st.take (st.length - k)).toArray⟩, .string ⟨lo.toArray⟩] 91)).drew = w2 at *
  obtain ⟨gT, hgTd⟩ : ∃ gT, w1.heap.size = gT := ⟨_, rfl⟩
  rw [hgTd] at hgT ⊢
  have hTR : w.heap.size + 3 < gT := by omega
  clear hgTd
  have cI0 : w2.cell? ⟨w.heap.size + 1, 0, none⟩ = some (.int .u8 x.op.toNat) := by rw [cell_of_row w2 _ 0 _ _ (0, 0) hgI]; rfl
  have cI1 : w2.cell? ⟨w.heap.size + 1, 1, none⟩ = some (.int .i64 x.a) := by rw [cell_of_row w2 _ 1 _ _ (0, 0) hgI]; rfl
  have cI2 : w2.cell? ⟨w.heap.size + 1, 2, none⟩ = some (.int .i64 x.b) := by rw [cell_of_row w2 _ 2 _ _ (0, 0) hgI]; rfl
  have cI3 : w2.cell? ⟨w.heap.size + 1, 3, none⟩ = some (.int .i64 x.pos) := by rw [cell_of_row w2 _ 3 _ _ (0, 0) hgI]; rfl
  go_wp2_with fail
  refine (HPUSH.out _ (hI.but hBw2)).mono ?_
  rintro en w3 ⟨rfl, hB3⟩
  clear cI0 cI1 cI2 cI3
  replace hgT := (hB3.block _ (lt_of_block hgT) (fun h => h)).trans hgT
  replace hgR := (hB3.block _ (lt_of_block hgR) (fun h => h)).trans hgR
  replace hgS := (hB3.block _ (lt_of_block hgS) (fun h => h)).trans hgS
  replace hgI := (hB3.block _ (lt_of_block hgI) (fun h => h)).trans hgI
  replace hgB := (hB3.block _ (lt_of_block hgB) (fun h => h)).trans hgB
  have hBw3 := hBw2.trans hB3
  have cR0 : w3.cell? ⟨w.heap.size + 3, 0, none⟩ = some (.bool false) := by rw [cell_of_row w3 _ 0 _ _ (0, 0) hgR]; rfl
  have fR0 : w3.frozen? ⟨w.heap.size + 3, 0, none⟩ = false := frozen_of_row w3 _ 0 _ _ hgR
  have cR1 : w3.cell? ⟨w.heap.size + 3, 1, none⟩ = some (.string ⟨#[]⟩) := by rw [cell_of_row w3 _ 1 _ _ (0, 0) hgR]; rfl
  have fR1 : w3.frozen? ⟨w.heap.size + 3, 1, none⟩ = false := frozen_of_row w3 _ 1 _ _ hgR
  have cR2 : w3.cell? ⟨w.heap.size + 3, 2, none⟩ = some (.string ⟨#[]⟩) := by rw [cell_of_row w3 _ 2 _ _ (0, 0) hgR]; rfl
  have fR2 : w3.frozen? ⟨w.heap.size + 3, 2, none⟩ = false := frozen_of_row w3 _ 2 _ _ hgR
  have T0 : w3.cell? ⟨gT, 0, none⟩ = some (.bool true) := by rw [cell_of_row w3 _ 0 _ _ (0, 0) hgT]; rfl
  have T1 : w3.cell? ⟨gT, 1, none⟩ = some (.string ⟨(st.take (st.length - k)).toArray⟩) := by rw [cell_of_row w3 _ 1 _ _ (0, 0) hgT]; rfl
  have T2 : w3.cell? ⟨gT, 2, none⟩ = some (.string ⟨lo.toArray⟩) := by rw [cell_of_row w3 _ 2 _ _ (0, 0) hgT]; rfl
  have F1 : w3.frozen? ⟨gT, 1, none⟩ = false := frozen_of_row w3 _ 1 _ _ hgT
  have hcat : ¬ 9223372036854775807 < st.length - k + U.length := by omega
  have hne1 : gT ≠ w.heap.size + 3 := by omega
  have hne2 : w.heap.size + 3 ≠ gT := by omega
  go_wp2_with fail
  clear hcat
  refine bodyPost_ret (v := .tuple #[.agg #[.bool true, .string ⟨(st.take (st.length - k) ++ U).toArray⟩, .string ⟨lo.toArray⟩], .bool true]) ?_ rfl ⟨rfl, ?_⟩
  ·rw [← bytes_append]
   simp [results, Tryz.results84, go_sem, cR0, cR1, cR2]
  ·exact (((hBw3.next (But.setB _ _ _ _) (fun k hk h => by omega)).next (But.setB _ _ _ _) (fun k hk h => by omega)).next (But.setB _ _ _ _) (fun k hk h => by omega)).next (But.setB _ _ _ _) (fun k hk h => by omega)
set_option maxHeartbeats 3200000 in
set_option maxRecDepth 100000 in
theorem eff_101 (bi : Nat) (im : Img) (bd : Bod) (ak : Option Addr) (n capk : Nat) (x : Ins) (st lo : List UInt8) (w : World) (hI : ImgAt w bi im) (hW : WfI im) (hbd : WfB im.classes im.sigs bd) (hx : WfX im.classes im.sigs.length bd.locals.length x) (hst : ∀ c ∈ st, okT im.classes.length c = true) (hsl : st.length ≤ 200) (hll : lo.length = bd.locals.length) (hv : x.op.toNat = 101) :
  Calls Tryz.prog 84 #[.pointer (some ⟨bi, 0, none⟩), .agg #[.int .i64 bd.cls, .int .i64 bd.meth, .string ⟨bd.locals.toArray⟩, .slice ak n capk, .slice none 0 0], .agg #[.int .u8 x.op.toNat, .int .i64 x.a, .int .i64 x.b, .int .i64 x.pos], .agg #[.bool true, .string ⟨st.toArray⟩, .string ⟨lo.toArray⟩]] w fun en w' => en = .returned (effV (effT im.classes im.sigs bd x st lo) st lo) ∧ But (fun _ => False) w w' := by
 obtain ⟨R, hRR⟩ : ∃ R, effT im.classes im.sigs bd x st lo = R := ⟨_, rfl⟩
 rw [hRR]
 have HRR : Hid (effT im.classes im.sigs bd x st lo = R) := hRR
 clear hRR
 have hlo5 : lo.length ≤ 5 := by have := hbd.loc.1; omega
 have t115 : ((x.op.toNat : Int) == 115) = false := by rw [beq_eq_false_iff_ne]; omega
 have t100 : ((x.op.toNat : Int) == 100) = false := by rw [beq_eq_false_iff_ne]; omega
 have t101 : ((x.op.toNat : Int) == 101) = true := by rw [beq_iff_eq]; omega
 have hstep : R = match looseT x.op.toNat st with | none => none | some k => some (st.take (st.length - k) ++ pushT im.classes im.sigs x, lo) := by rw [← HRR.out, effT, if_pos (by omega)]; cases looseT x.op.toNat st <;> simp [hv]
 have hUl := pushT_len im.classes im.sigs x
 have hpush := fun w (h : ImgAt w bi im) => push_any bi im bd.locals.length x w h hW hx trivial
 generalize pushT im.classes im.sigs x = U at *
 have HST : Hid (R = match looseT x.op.toNat st with | none => none | some k => some (st.take (st.length - k) ++ U, lo)) := hstep
 have HPUSH := hid hpush
 clear hstep hv HRR hll hpush
 go_enter Tryz.func84, Tryz.ntmps84
 go_wp2_with fail
 have hB0 : But (fun _ => False) w ((((w.alloc (.cells #[.int .i64 bd.cls, .int .i64 bd.meth, .string ⟨bd.locals.toArray⟩, .slice ak n capk, .slice none 0 0] 52)).alloc (.cells #[.int .u8 x.op.toNat, .int .i64 x.a, .int .i64 x.b, .int .i64 x.pos] 144)).alloc (.cells #[.bool true, .string ⟨st.toArray⟩, .string ⟨lo.toArray⟩] 91)).alloc (.cells #[.bool false, .string ⟨#[]⟩, .string ⟨#[]⟩] 91)) := (((But.alloc _ _ _).trans (But.alloc _ _ _)).trans (But.alloc _ _ _)).trans (But.alloc _ _ _)
 have hgR : ((((w.alloc (.cells #[.int .i64 bd.cls, .int .i64 bd.meth, .string ⟨bd.locals.toArray⟩, .slice ak n capk, .slice none 0 0] 52)).alloc (.cells #[.int .u8 x.op.toNat, .int .i64 x.a, .int .i64 x.b, .int .i64 x.pos] 144)).alloc (.cells #[.bool true, .string ⟨st.toArray⟩, .string ⟨lo.toArray⟩] 91)).alloc (.cells #[.bool false, .string ⟨#[]⟩, .string ⟨#[]⟩] 91)).heap[w.heap.size + 3]? = some (.cells #[.bool false, .string ⟨#[]⟩, .string ⟨#[]⟩] 91) := heap_alloc_at (by simp) _
 have hgS : ((((w.alloc (.cells #[.int .i64 bd.cls, .int .i64 bd.meth, .string ⟨bd.locals.toArray⟩, .slice ak n capk, .slice none 0 0] 52)).alloc (.cells #[.int .u8 x.op.toNat, .int .i64 x.a, .int .i64 x.b, .int .i64 x.pos] 144)).alloc (.cells #[.bool true, .string ⟨st.toArray⟩, .string ⟨lo.toArray⟩] 91)).alloc (.cells #[.bool false, .string ⟨#[]⟩, .string ⟨#[]⟩] 91)).heap[w.heap.size + 2]? = some (.cells #[.bool true, .string ⟨st.toArray⟩, .string ⟨lo.toArray⟩] 91) := ((But.alloc (fun _ => False) _ _).block _ (by simp) (fun h => h)).trans (heap_alloc_at (by simp) _)
 have hgI : ((((w.alloc (.cells #[.int .i64 bd.cls, .int .i64 bd.meth, .string ⟨bd.locals.toArray⟩, .slice ak n capk, .slice none 0 0] 52)).alloc (.cells #[.int .u8 x.op.toNat, .int .i64 x.a, .int .i64 x.b, .int .i64 x.pos] 144)).alloc (.cells #[.bool true, .string ⟨st.toArray⟩, .string ⟨lo.toArray⟩] 91)).alloc (.cells #[.bool false, .string ⟨#[]⟩, .string ⟨#[]⟩] 91)).heap[w.heap.size + 1]? = some (.cells #[.int .u8 x.op.toNat, .int .i64 x.a, .int .i64 x.b, .int .i64 x.pos] 144) := (((But.alloc (fun _ => False) _ _).trans (But.alloc (fun _ => False) _ _)).block _ (by simp) (fun h => h)).trans (heap_alloc_at (by simp) _)
 have hgB : ((((w.alloc (.cells #[.int .i64 bd.cls, .int .i64 bd.meth, .string ⟨bd.locals.toArray⟩, .slice ak n capk, .slice none 0 0] 52)).alloc (.cells #[.int .u8 x.op.toNat, .int .i64 x.a, .int .i64 x.b, .int .i64 x.pos] 144)).alloc (.cells #[.bool true, .string ⟨st.toArray⟩, .string ⟨lo.toArray⟩] 91)).alloc (.cells #[.bool false, .string ⟨#[]⟩, .string ⟨#[]⟩] 91)).heap[w.heap.size]? = some (.cells #[.int .i64 bd.cls, .int .i64 bd.meth, .string ⟨bd.locals.toArray⟩, .slice ak n capk, .slice none 0 0] 52) := ((((But.alloc (fun _ => False) _ _).trans (But.alloc (fun _ => False) _ _)).trans (But.alloc (fun _ => False) _ _)).block _ (by simp) (fun h => h)).trans (heap_alloc_new w _)
 generalize ((((w.alloc (.cells #[.int .i64 bd.cls, .int .i64 bd.meth, .string ⟨bd.locals.toArray⟩, .slice ak n capk, .slice none 0 0] 52)).alloc (.cells #[.int .u8 x.op.toNat, .int .i64 x.a, .int .i64 x.b, .int .i64 x.pos] 144)).alloc (.cells #[.bool true, .string ⟨st.toArray⟩, .string ⟨lo.toArray⟩] 91)).alloc (.cells #[.bool false, .string ⟨#[]⟩, .string ⟨#[]⟩] 91)) = W at *
 refine (loose_any x st _ (by omega)).mono ?_
 rintro en w1 ⟨rfl, hB1⟩
 replace hgR := (hB1.block _ (lt_of_block hgR) (fun h => h)).trans hgR
 replace hgS := (hB1.block _ (lt_of_block hgS) (fun h => h)).trans hgS
 replace hgI := (hB1.block _ (lt_of_block hgI) (fun h => h)).trans hgI
 replace hgB := (hB1.block _ (lt_of_block hgB) (fun h => h)).trans hgB
 have hBw1 := hB0.trans hB1
 have cI0 : w1.cell? ⟨w.heap.size + 1, 0, none⟩ = some (.int .u8 x.op.toNat) := by rw [cell_of_row w1 _ 0 _ _ (0, 0) hgI]; rfl
 have cI1 : w1.cell? ⟨w.heap.size + 1, 1, none⟩ = some (.int .i64 x.a) := by rw [cell_of_row w1 _ 1 _ _ (0, 0) hgI]; rfl
 have cI2 : w1.cell? ⟨w.heap.size + 1, 2, none⟩ = some (.int .i64 x.b) := by rw [cell_of_row w1 _ 2 _ _ (0, 0) hgI]; rfl
 have cI3 : w1.cell? ⟨w.heap.size + 1, 3, none⟩ = some (.int .i64 x.pos) := by rw [cell_of_row w1 _ 3 _ _ (0, 0) hgI]; rfl
 have cS0 : w1.cell? ⟨w.heap.size + 2, 0, none⟩ = some (.bool true) := by rw [cell_of_row w1 _ 0 _ _ (0, 0) hgS]; rfl
 have cS1 : w1.cell? ⟨w.heap.size + 2, 1, none⟩ = some (.string ⟨st.toArray⟩) := by rw [cell_of_row w1 _ 1 _ _ (0, 0) hgS]; rfl
 have cS2 : w1.cell? ⟨w.heap.size + 2, 2, none⟩ = some (.string ⟨lo.toArray⟩) := by rw [cell_of_row w1 _ 2 _ _ (0, 0) hgS]; rfl
 have cR0 : w1.cell? ⟨w.heap.size + 3, 0, none⟩ = some (.bool false) := by rw [cell_of_row w1 _ 0 _ _ (0, 0) hgR]; rfl
 have fR0 : w1.frozen? ⟨w.heap.size + 3, 0, none⟩ = false := frozen_of_row w1 _ 0 _ _ hgR
 have cR1 : w1.cell? ⟨w.heap.size + 3, 1, none⟩ = some (.string ⟨#[]⟩) := by rw [cell_of_row w1 _ 1 _ _ (0, 0) hgR]; rfl
 have fR1 : w1.frozen? ⟨w.heap.size + 3, 1, none⟩ = false := frozen_of_row w1 _ 1 _ _ hgR
 have cR2 : w1.cell? ⟨w.heap.size + 3, 2, none⟩ = some (.string ⟨#[]⟩) := by rw [cell_of_row w1 _ 2 _ _ (0, 0) hgR]; rfl
 have fR2 : w1.frozen? ⟨w.heap.size + 3, 2, none⟩ = false := frozen_of_row w1 _ 2 _ _ hgR
 have lS := lt_of_block hgS
 have lI := lt_of_block hgI
 have lR := lt_of_block hgR
 have hlt := @looseT_le x.op.toNat st
 cases hq : looseT x.op.toNat st with
 | none =>
  have hres : R = none := by rw [HST.out, hq]
  subst hres
  simp only [optI]
  clear hq hlt
  go_wp2_with fail
  refine bodyPost_ret (v := .tuple #[.agg #[.bool true, .string ⟨st.toArray⟩, .string ⟨lo.toArray⟩], .bool false]) (by simp [results, Tryz.results84, go_sem, cR0, cR1, cR2]) rfl ⟨rfl, ?_⟩
  exact ((hBw1.next (But.setB _ _ _ _) (fun k hk h => by omega)).next (But.setB _ _ _ _) (fun k hk h => by omega)).next (But.setB _ _ _ _) (fun k hk h => by omega)
 | some k =>
  have hres : R = some (st.take (st.length - k) ++ U, lo) := by rw [HST.out, hq]
  subst hres
  obtain ⟨hkl, hk1⟩ := hlt hq
  simp only [optI]
  clear hq hlt HST
  have hk0 : (0 : Int) ≤ (k : Int) := by omega
  go_wp2_with fail
  have hd0 : (0 : Int) ≤ (st.length : Int) - (k : Int) := by omega
  have hd1 : (st.length : Int) - (k : Int) ≤ (st.length : Int) := by omega
  have hdk : (k : Int) ≤ (st.length : Int) := by omega
  have hwr := wrapI ((st.length : Int) - (k : Int)) (by omega) (by omega)
  have hS0 : But (fun _ => False) w1 w1.drew := But.drew _ _
  refine wpTx_begin (But (fun _ => False) w1) 10 (by kernel_rfl) ?_
  have fSA := hid (fun wS (h : (But (fun _ => False) w1) wS) => (And.intro ((h.cell (p := ⟨w.heap.size + 2, 1, none⟩) lS (fun h => h)).trans cS1) ((h.cell (p := ⟨w.heap.size + 2, 2, none⟩) lS (fun h => h)).trans cS2)))
  refine wpTx_take (v := ?vA0) rfl (by kernel_rfl) ?qA0 rfl hS0 ?yA0 ?rA0
  case yA0 => intro wS h; obtain ⟨q0, q1⟩ := fSA.out wS h; clear h; go_simp; try rfl
  case qA0 => exact fun _ _ _ h => h
  dsimp only [Act.put]
  try simp only [puts]
  refine wpTx_take (v := ?vA1) rfl (by kernel_rfl) ?qA1 rfl hS0 ?yA1 ?rA1
  case yA1 => intro wS h; obtain ⟨q0, q1⟩ := fSA.out wS h; clear h; go_simp; try rfl
  case qA1 => exact fun _ _ _ h => h
  dsimp only [Act.put]
  try simp only [puts]
  refine wpTx_take (v := ?vA2) rfl (by kernel_rfl) ?qA2 rfl hS0 ?yA2 ?rA2
  case yA2 => intro wS h; obtain ⟨q0, q1⟩ := fSA.out wS h; clear h; go_simp; try rfl
  case qA2 => exact fun _ _ _ h => h
  dsimp only [Act.put]
  try simp only [puts]
  refine wpTx_take (v := ?vA3) rfl (by kernel_rfl) ?qA3 rfl hS0 ?yA3 ?rA3
  case yA3 => intro wS h; obtain ⟨q0, q1⟩ := fSA.out wS h; clear h; go_simp; try rfl
  case qA3 => exact fun _ _ _ h => h
  dsimp only [Act.put]
  try simp only [puts]
  refine wpTx_take (v := ?vA4) rfl (by kernel_rfl) ?qA4 rfl hS0 ?yA4 ?rA4
  case yA4 => intro wS h; obtain ⟨q0, q1⟩ := fSA.out wS h; clear h; go_simp; try rfl
  case qA4 => exact fun _ _ _ h => h
  dsimp only [Act.put]
  try simp only [puts]
  refine wpTx_take (v := ?vA5) rfl (by kernel_rfl) ?qA5 rfl hS0 ?yA5 ?rA5
  case yA5 => intro wS h; obtain ⟨q0, q1⟩ := fSA.out wS h; clear h; go_simp; try rfl
  case qA5 => exact fun _ _ _ h => h
  dsimp only [Act.put]
  try simp only [puts]
  refine wpTx_take (v := ?vA6) rfl (by kernel_rfl) ?qA6 rfl hS0 ?yA6 ?rA6
  case yA6 => intro wS h; obtain ⟨q0, q1⟩ := fSA.out wS h; clear h; go_simp; try rfl
  case qA6 => exact fun _ _ _ h => h
  dsimp only [Act.put]
  try simp only [puts]
  refine wpTx_take (v := ?vA7) rfl (by kernel_rfl) ?qA7 rfl hS0 ?yA7 ?rA7
  case yA7 => intro wS h; obtain ⟨q0, q1⟩ := fSA.out wS h; clear h; go_simp; try rfl
  case qA7 => exact fun _ _ _ h => h
  dsimp only [Act.put]
  try simp only [puts]
  refine wpTx_take (v := ?vA8) rfl (by kernel_rfl) ?qA8 rfl hS0 ?yA8 ?rA8
  case yA8 => intro wS h; obtain ⟨q0, q1⟩ := fSA.out wS h; clear h; go_simp; try rfl
  case qA8 => exact fun _ _ _ h => h
  dsimp only [Act.put]
  try simp only [puts]
  try clear fSA
  have hext : (⟨st.toArray⟩ : ByteArray).extract 0 (st.length - k) = ⟨(st.take (st.length - k)).toArray⟩ := extract_take _ _
  rw [hext]
  clear hext hwr hd0 hd1 hdk
  refine wpTx_step (o := ?oA9) (rest := ?rsA9) ?hoA9 ?hrA9 ?stA9
  case hoA9 => rfl
  case hrA9 => kernel_rfl
  case' stA9 =>
  intro KS hKS
  go_simp
  refine hKS.out _ _ (fun _ => (But.alloc _ _ _).trans (But.drew _ _)) ?_
  clear hKS KS
  refine wpTx_step (o := ?oA10) (rest := ?rsA10) ?hoA10 ?hrA10 ?stA10
  case hoA10 => rfl
  case hrA10 => kernel_rfl
  case' stA10 =>
  intro KS hKS
  go_simp
  refine hKS.out _ _ (fun h => absurd h (by decide)) ?_
  clear hKS KS
  refine wpTx_done rfl (by kernel_rfl) ?_
  clear cI0 cI1 cI2 cI3 cS0 cS1 cS2 cR0 cR1 cR2 fR0 fR1 fR2
  have hBa : But (fun _ => False) w1 (w1.alloc (.cells #[.bool true, .string ⟨(st.take (st.length - k)).toArray⟩, .string ⟨lo.toArray⟩] 91)).drew := (But.alloc _ _ _).trans (But.drew _ _)
  have hgT : (w1.alloc (.cells #[.bool true, .string ⟨(st.take (st.length - k)).toArray⟩, .string ⟨lo.toArray⟩] 91)).drew.heap[w1.heap.size]? = some (.cells #[.bool true, .string ⟨(st.take (st.length - k)).toArray⟩, .string ⟨lo.toArray⟩] 91) := heap_alloc_new w1 _
  replace hgR := (hBa.block _ (lt_of_block hgR) (fun h => h)).trans hgR
  replace hgS := (hBa.block _ (lt_of_block hgS) (fun h => h)).trans hgS
  replace hgI := (hBa.block _ (lt_of_block hgI) (fun h => h)).trans hgI
  replace hgB := (hBa.block _ (lt_of_block hgB) (fun h => h)).trans hgB
  have hBw2 := hBw1.trans hBa
  generalize (w1.alloc (.cells #[.bool true, .string ⟨(st.take (st.length - k)).toArray⟩, .string ⟨lo.toArray⟩] 91)).drew = w2 at *
  obtain ⟨gT, hgTd⟩ : ∃ gT, w1.heap.size = gT := ⟨_, rfl⟩
  rw [hgTd] at hgT ⊢
  have hTR : w.heap.size + 3 < gT := by omega
  clear hgTd
  have cI0 : w2.cell? ⟨w.heap.size + 1, 0, none⟩ = some (.int .u8 x.op.toNat) := by rw [cell_of_row w2 _ 0 _ _ (0, 0) hgI]; rfl
  have cI1 : w2.cell? ⟨w.heap.size + 1, 1, none⟩ = some (.int .i64 x.a) := by rw [cell_of_row w2 _ 1 _ _ (0, 0) hgI]; rfl
  have cI2 : w2.cell? ⟨w.heap.size + 1, 2, none⟩ = some (.int .i64 x.b) := by rw [cell_of_row w2 _ 2 _ _ (0, 0) hgI]; rfl
  have cI3 : w2.cell? ⟨w.heap.size + 1, 3, none⟩ = some (.int .i64 x.pos) := by rw [cell_of_row w2 _ 3 _ _ (0, 0) hgI]; rfl
  go_wp2_with fail
  refine (HPUSH.out _ (hI.but hBw2)).mono ?_
  rintro en w3 ⟨rfl, hB3⟩
  clear cI0 cI1 cI2 cI3
  replace hgT := (hB3.block _ (lt_of_block hgT) (fun h => h)).trans hgT
  replace hgR := (hB3.block _ (lt_of_block hgR) (fun h => h)).trans hgR
  replace hgS := (hB3.block _ (lt_of_block hgS) (fun h => h)).trans hgS
  replace hgI := (hB3.block _ (lt_of_block hgI) (fun h => h)).trans hgI
  replace hgB := (hB3.block _ (lt_of_block hgB) (fun h => h)).trans hgB
  have hBw3 := hBw2.trans hB3
  have cR0 : w3.cell? ⟨w.heap.size + 3, 0, none⟩ = some (.bool false) := by rw [cell_of_row w3 _ 0 _ _ (0, 0) hgR]; rfl
  have fR0 : w3.frozen? ⟨w.heap.size + 3, 0, none⟩ = false := frozen_of_row w3 _ 0 _ _ hgR
  have cR1 : w3.cell? ⟨w.heap.size + 3, 1, none⟩ = some (.string ⟨#[]⟩) := by rw [cell_of_row w3 _ 1 _ _ (0, 0) hgR]; rfl
  have fR1 : w3.frozen? ⟨w.heap.size + 3, 1, none⟩ = false := frozen_of_row w3 _ 1 _ _ hgR
  have cR2 : w3.cell? ⟨w.heap.size + 3, 2, none⟩ = some (.string ⟨#[]⟩) := by rw [cell_of_row w3 _ 2 _ _ (0, 0) hgR]; rfl
  have fR2 : w3.frozen? ⟨w.heap.size + 3, 2, none⟩ = false := frozen_of_row w3 _ 2 _ _ hgR
  have T0 : w3.cell? ⟨gT, 0, none⟩ = some (.bool true) := by rw [cell_of_row w3 _ 0 _ _ (0, 0) hgT]; rfl
  have T1 : w3.cell? ⟨gT, 1, none⟩ = some (.string ⟨(st.take (st.length - k)).toArray⟩) := by rw [cell_of_row w3 _ 1 _ _ (0, 0) hgT]; rfl
  have T2 : w3.cell? ⟨gT, 2, none⟩ = some (.string ⟨lo.toArray⟩) := by rw [cell_of_row w3 _ 2 _ _ (0, 0) hgT]; rfl
  have F1 : w3.frozen? ⟨gT, 1, none⟩ = false := frozen_of_row w3 _ 1 _ _ hgT
  have hcat : ¬ 9223372036854775807 < st.length - k + U.length := by omega
  have hne1 : gT ≠ w.heap.size + 3 := by omega
  have hne2 : w.heap.size + 3 ≠ gT := by omega
  go_wp2_with fail
  clear hcat
  refine bodyPost_ret (v := .tuple #[.agg #[.bool true, .string ⟨(st.take (st.length - k) ++ U).toArray⟩, .string ⟨lo.toArray⟩], .bool true]) ?_ rfl ⟨rfl, ?_⟩
  ·rw [← bytes_append]
   simp [results, Tryz.results84, go_sem, cR0, cR1, cR2]
  ·exact (((hBw3.next (But.setB _ _ _ _) (fun k hk h => by omega)).next (But.setB _ _ _ _) (fun k hk h => by omega)).next (But.setB _ _ _ _) (fun k hk h => by omega)).next (But.setB _ _ _ _) (fun k hk h => by omega)
set_option maxHeartbeats 3200000 in
set_option maxRecDepth 100000 in
theorem eff_120 (bi : Nat) (im : Img) (bd : Bod) (ak : Option Addr) (n capk : Nat) (x : Ins) (st lo : List UInt8) (w : World) (hI : ImgAt w bi im) (hW : WfI im) (hbd : WfB im.classes im.sigs bd) (hx : WfX im.classes im.sigs.length bd.locals.length x) (hst : ∀ c ∈ st, okT im.classes.length c = true) (hsl : st.length ≤ 200) (hll : lo.length = bd.locals.length) (hv : x.op.toNat = 120) :
  Calls Tryz.prog 84 #[.pointer (some ⟨bi, 0, none⟩), .agg #[.int .i64 bd.cls, .int .i64 bd.meth, .string ⟨bd.locals.toArray⟩, .slice ak n capk, .slice none 0 0], .agg #[.int .u8 x.op.toNat, .int .i64 x.a, .int .i64 x.b, .int .i64 x.pos], .agg #[.bool true, .string ⟨st.toArray⟩, .string ⟨lo.toArray⟩]] w fun en w' => en = .returned (effV (effT im.classes im.sigs bd x st lo) st lo) ∧ But (fun _ => False) w w' := by
 obtain ⟨R, hRR⟩ : ∃ R, effT im.classes im.sigs bd x st lo = R := ⟨_, rfl⟩
 rw [hRR]
 have HRR : Hid (effT im.classes im.sigs bd x st lo = R) := hRR
 clear hRR
 have hlo5 : lo.length ≤ 5 := by have := hbd.loc.1; omega
 have t115 : ((x.op.toNat : Int) == 115) = false := by rw [beq_eq_false_iff_ne]; omega
 have t100 : ((x.op.toNat : Int) == 100) = false := by rw [beq_eq_false_iff_ne]; omega
 have t101 : ((x.op.toNat : Int) == 101) = false := by rw [beq_eq_false_iff_ne]; omega
 have t120 : ((x.op.toNat : Int) == 120) = true := by rw [beq_iff_eq]; omega
 have hstep : R = match looseT x.op.toNat st with | none => none | some k => some (st.take (st.length - k) ++ pushT im.classes im.sigs x, lo) := by rw [← HRR.out, effT, if_pos (by omega)]; cases looseT x.op.toNat st <;> simp [hv]
 have hUl := pushT_len im.classes im.sigs x
 have hpush := fun w (h : ImgAt w bi im) => push_any bi im bd.locals.length x w h hW hx trivial
 generalize pushT im.classes im.sigs x = U at *
 have HST : Hid (R = match looseT x.op.toNat st with | none => none | some k => some (st.take (st.length - k) ++ U, lo)) := hstep
 have HPUSH := hid hpush
 clear hstep hv HRR hll hpush
 go_enter Tryz.func84, Tryz.ntmps84
 go_wp2_with fail
 have hB0 : But (fun _ => False) w ((((w.alloc (.cells #[.int .i64 bd.cls, .int .i64 bd.meth, .string ⟨bd.locals.toArray⟩, .slice ak n capk, .slice none 0 0] 52)).alloc (.cells #[.int .u8 x.op.toNat, .int .i64 x.a, .int .i64 x.b, .int .i64 x.pos] 144)).alloc (.cells #[.bool true, .string ⟨st.toArray⟩, .string ⟨lo.toArray⟩] 91)).alloc (.cells #[.bool false, .string ⟨#[]⟩, .string ⟨#[]⟩] 91)) := (((But.alloc _ _ _).trans (But.alloc _ _ _)).trans (But.alloc _ _ _)).trans (But.alloc _ _ _)
 have hgR : ((((w.alloc (.cells #[.int .i64 bd.cls, .int .i64 bd.meth, .string ⟨bd.locals.toArray⟩, .slice ak n capk, .slice none 0 0] 52)).alloc (.cells #[.int .u8 x.op.toNat, .int .i64 x.a, .int .i64 x.b, .int .i64 x.pos] 144)).alloc (.cells #[.bool true, .string ⟨st.toArray⟩, .string ⟨lo.toArray⟩] 91)).alloc (.cells #[.bool false, .string ⟨#[]⟩, .string ⟨#[]⟩] 91)).heap[w.heap.size + 3]? = some (.cells #[.bool false, .string ⟨#[]⟩, .string ⟨#[]⟩] 91) := heap_alloc_at (by simp) _
 have hgS : ((((w.alloc (.cells #[.int .i64 bd.cls, .int .i64 bd.meth, .string ⟨bd.locals.toArray⟩, .slice ak n capk, .slice none 0 0] 52)).alloc (.cells #[.int .u8 x.op.toNat, .int .i64 x.a, .int .i64 x.b, .int .i64 x.pos] 144)).alloc (.cells #[.bool true, .string ⟨st.toArray⟩, .string ⟨lo.toArray⟩] 91)).alloc (.cells #[.bool false, .string ⟨#[]⟩, .string ⟨#[]⟩] 91)).heap[w.heap.size + 2]? = some (.cells #[.bool true, .string ⟨st.toArray⟩, .string ⟨lo.toArray⟩] 91) := ((But.alloc (fun _ => False) _ _).block _ (by simp) (fun h => h)).trans (heap_alloc_at (by simp) _)
 have hgI : ((((w.alloc (.cells #[.int .i64 bd.cls, .int .i64 bd.meth, .string ⟨bd.locals.toArray⟩, .slice ak n capk, .slice none 0 0] 52)).alloc (.cells #[.int .u8 x.op.toNat, .int .i64 x.a, .int .i64 x.b, .int .i64 x.pos] 144)).alloc (.cells #[.bool true, .string ⟨st.toArray⟩, .string ⟨lo.toArray⟩] 91)).alloc (.cells #[.bool false, .string ⟨#[]⟩, .string ⟨#[]⟩] 91)).heap[w.heap.size + 1]? = some (.cells #[.int .u8 x.op.toNat, .int .i64 x.a, .int .i64 x.b, .int .i64 x.pos] 144) := (((But.alloc (fun _ => False) _ _).trans (But.alloc (fun _ => False) _ _)).block _ (by simp) (fun h => h)).trans (heap_alloc_at (by simp) _)
 have hgB : ((((w.alloc (.cells #[.int .i64 bd.cls, .int .i64 bd.meth, .string ⟨bd.locals.toArray⟩, .slice ak n capk, .slice none 0 0] 52)).alloc (.cells #[.int .u8 x.op.toNat, .int .i64 x.a, .int .i64 x.b, .int .i64 x.pos] 144)).alloc (.cells #[.bool true, .string ⟨st.toArray⟩, .string ⟨lo.toArray⟩] 91)).alloc (.cells #[.bool false, .string ⟨#[]⟩, .string ⟨#[]⟩] 91)).heap[w.heap.size]? = some (.cells #[.int .i64 bd.cls, .int .i64 bd.meth, .string ⟨bd.locals.toArray⟩, .slice ak n capk, .slice none 0 0] 52) := ((((But.alloc (fun _ => False) _ _).trans (But.alloc (fun _ => False) _ _)).trans (But.alloc (fun _ => False) _ _)).block _ (by simp) (fun h => h)).trans (heap_alloc_new w _)
 generalize ((((w.alloc (.cells #[.int .i64 bd.cls, .int .i64 bd.meth, .string ⟨bd.locals.toArray⟩, .slice ak n capk, .slice none 0 0] 52)).alloc (.cells #[.int .u8 x.op.toNat, .int .i64 x.a, .int .i64 x.b, .int .i64 x.pos] 144)).alloc (.cells #[.bool true, .string ⟨st.toArray⟩, .string ⟨lo.toArray⟩] 91)).alloc (.cells #[.bool false, .string ⟨#[]⟩, .string ⟨#[]⟩] 91)) = W at *
 refine (loose_any x st _ (by omega)).mono ?_
 rintro en w1 ⟨rfl, hB1⟩
 replace hgR := (hB1.block _ (lt_of_block hgR) (fun h => h)).trans hgR
 replace hgS := (hB1.block _ (lt_of_block hgS) (fun h => h)).trans hgS
 replace hgI := (hB1.block _ (lt_of_block hgI) (fun h => h)).trans hgI
 replace hgB := (hB1.block _ (lt_of_block hgB) (fun h => h)).trans hgB
 have hBw1 := hB0.trans hB1
 have cI0 : w1.cell? ⟨w.heap.size + 1, 0, none⟩ = some (.int .u8 x.op.toNat) := by rw [cell_of_row w1 _ 0 _ _ (0, 0) hgI]; rfl
 have cI1 : w1.cell? ⟨w.heap.size + 1, 1, none⟩ = some (.int .i64 x.a) := by rw [cell_of_row w1 _ 1 _ _ (0, 0) hgI]; rfl
 have cI2 : w1.cell? ⟨w.heap.size + 1, 2, none⟩ = some (.int .i64 x.b) := by rw [cell_of_row w1 _ 2 _ _ (0, 0) hgI]; rfl
 have cI3 : w1.cell? ⟨w.heap.size + 1, 3, none⟩ = some (.int .i64 x.pos) := by rw [cell_of_row w1 _ 3 _ _ (0, 0) hgI]; rfl
 have cS0 : w1.cell? ⟨w.heap.size + 2, 0, none⟩ = some (.bool true) := by rw [cell_of_row w1 _ 0 _ _ (0, 0) hgS]; rfl
 have cS1 : w1.cell? ⟨w.heap.size + 2, 1, none⟩ = some (.string ⟨st.toArray⟩) := by rw [cell_of_row w1 _ 1 _ _ (0, 0) hgS]; rfl
 have cS2 : w1.cell? ⟨w.heap.size + 2, 2, none⟩ = some (.string ⟨lo.toArray⟩) := by rw [cell_of_row w1 _ 2 _ _ (0, 0) hgS]; rfl
 have cR0 : w1.cell? ⟨w.heap.size + 3, 0, none⟩ = some (.bool false) := by rw [cell_of_row w1 _ 0 _ _ (0, 0) hgR]; rfl
 have fR0 : w1.frozen? ⟨w.heap.size + 3, 0, none⟩ = false := frozen_of_row w1 _ 0 _ _ hgR
 have cR1 : w1.cell? ⟨w.heap.size + 3, 1, none⟩ = some (.string ⟨#[]⟩) := by rw [cell_of_row w1 _ 1 _ _ (0, 0) hgR]; rfl
 have fR1 : w1.frozen? ⟨w.heap.size + 3, 1, none⟩ = false := frozen_of_row w1 _ 1 _ _ hgR
 have cR2 : w1.cell? ⟨w.heap.size + 3, 2, none⟩ = some (.string ⟨#[]⟩) := by rw [cell_of_row w1 _ 2 _ _ (0, 0) hgR]; rfl
 have fR2 : w1.frozen? ⟨w.heap.size + 3, 2, none⟩ = false := frozen_of_row w1 _ 2 _ _ hgR
 have lS := lt_of_block hgS
 have lI := lt_of_block hgI
 have lR := lt_of_block hgR
 have hlt := @looseT_le x.op.toNat st
 cases hq : looseT x.op.toNat st with
 | none =>
  have hres : R = none := by rw [HST.out, hq]
  subst hres
  simp only [optI]
  clear hq hlt
  go_wp2_with fail
  refine bodyPost_ret (v := .tuple #[.agg #[.bool true, .string ⟨st.toArray⟩, .string ⟨lo.toArray⟩], .bool false]) (by simp [results, Tryz.results84, go_sem, cR0, cR1, cR2]) rfl ⟨rfl, ?_⟩
  exact ((hBw1.next (But.setB _ _ _ _) (fun k hk h => by omega)).next (But.setB _ _ _ _) (fun k hk h => by omega)).next (But.setB _ _ _ _) (fun k hk h => by omega)
 | some k =>
  have hres : R = some (st.take (st.length - k) ++ U, lo) := by rw [HST.out, hq]
  subst hres
  obtain ⟨hkl, hk1⟩ := hlt hq
  simp only [optI]
  clear hq hlt HST
  have hk0 : (0 : Int) ≤ (k : Int) := by omega
  go_wp2_with fail
  have hd0 : (0 : Int) ≤ (st.length : Int) - (k : Int) := by omega
  have hd1 : (st.length : Int) - (k : Int) ≤ (st.length : Int) := by omega
  have hdk : (k : Int) ≤ (st.length : Int) := by omega
  have hwr := wrapI ((st.length : Int) - (k : Int)) (by omega) (by omega)
  have hS0 : But (fun _ => False) w1 w1.drew := But.drew _ _
  refine wpTx_begin (But (fun _ => False) w1) 10 (by kernel_rfl) ?_
  have fSA := hid (fun wS (h : (But (fun _ => False) w1) wS) => (And.intro ((h.cell (p := ⟨w.heap.size + 2, 1, none⟩) lS (fun h => h)).trans cS1) ((h.cell (p := ⟨w.heap.size + 2, 2, none⟩) lS (fun h => h)).trans cS2)))
  refine wpTx_take (v := ?vA0) rfl (by kernel_rfl) ?qA0 rfl hS0 ?yA0 ?rA0
  case yA0 => intro wS h; obtain ⟨q0, q1⟩ := fSA.out wS h; clear h; go_simp; try rfl
  case qA0 => exact fun _ _ _ h => h
  dsimp only [Act.put]
  try simp only [puts]
  refine wpTx_take (v := ?vA1) rfl (by kernel_rfl) ?qA1 rfl hS0 ?yA1 ?rA1
  case yA1 => intro wS h; obtain ⟨q0, q1⟩ := fSA.out wS h; clear h; go_simp; try rfl
  case qA1 => exact fun _ _ _ h => h
  dsimp only [Act.put]
  try simp only [puts]
  refine wpTx_take (v := ?vA2) rfl (by kernel_rfl) ?qA2 rfl hS0 ?yA2 ?rA2
  case yA2 => intro wS h; obtain ⟨q0, q1⟩ := fSA.out wS h; clear h; go_simp; try rfl
  case qA2 => exact fun _ _ _ h => h
  dsimp only [Act.put]
  try simp only [puts]
  refine wpTx_take (v := ?vA3) rfl (by kernel_rfl) ?qA3 rfl hS0 ?yA3 ?rA3
  case yA3 => intro wS h; obtain ⟨q0, q1⟩ := fSA.out wS h; clear h; go_simp; try rfl
  case qA3 => exact fun _ _ _ h => h
  dsimp only [Act.put]
  try simp only [puts]
  refine wpTx_take (v := ?vA4) rfl (by kernel_rfl) ?qA4 rfl hS0 ?yA4 ?rA4
  case yA4 => intro wS h; obtain ⟨q0, q1⟩ := fSA.out wS h; clear h; go_simp; try rfl
  case qA4 => exact fun _ _ _ h => h
  dsimp only [Act.put]
  try simp only [puts]
  refine wpTx_take (v := ?vA5) rfl (by kernel_rfl) ?qA5 rfl hS0 ?yA5 ?rA5
  case yA5 => intro wS h; obtain ⟨q0, q1⟩ := fSA.out wS h; clear h; go_simp; try rfl
  case qA5 => exact fun _ _ _ h => h
  dsimp only [Act.put]
  try simp only [puts]
  refine wpTx_take (v := ?vA6) rfl (by kernel_rfl) ?qA6 rfl hS0 ?yA6 ?rA6
  case yA6 => intro wS h; obtain ⟨q0, q1⟩ := fSA.out wS h; clear h; go_simp; try rfl
  case qA6 => exact fun _ _ _ h => h
  dsimp only [Act.put]
  try simp only [puts]
  refine wpTx_take (v := ?vA7) rfl (by kernel_rfl) ?qA7 rfl hS0 ?yA7 ?rA7
  case yA7 => intro wS h; obtain ⟨q0, q1⟩ := fSA.out wS h; clear h; go_simp; try rfl
  case qA7 => exact fun _ _ _ h => h
  dsimp only [Act.put]
  try simp only [puts]
  refine wpTx_take (v := ?vA8) rfl (by kernel_rfl) ?qA8 rfl hS0 ?yA8 ?rA8
  case yA8 => intro wS h; obtain ⟨q0, q1⟩ := fSA.out wS h; clear h; go_simp; try rfl
  case qA8 => exact fun _ _ _ h => h
  dsimp only [Act.put]
  try simp only [puts]
  try clear fSA
  have hext : (⟨st.toArray⟩ : ByteArray).extract 0 (st.length - k) = ⟨(st.take (st.length - k)).toArray⟩ := extract_take _ _
  rw [hext]
  clear hext hwr hd0 hd1 hdk
  refine wpTx_step (o := ?oA9) (rest := ?rsA9) ?hoA9 ?hrA9 ?stA9
  case hoA9 => rfl
  case hrA9 => kernel_rfl
  case' stA9 =>
  intro KS hKS
  go_simp
  refine hKS.out _ _ (fun _ => (But.alloc _ _ _).trans (But.drew _ _)) ?_
  clear hKS KS
  refine wpTx_step (o := ?oA10) (rest := ?rsA10) ?hoA10 ?hrA10 ?stA10
  case hoA10 => rfl
  case hrA10 => kernel_rfl
  case' stA10 =>
  intro KS hKS
  go_simp
  refine hKS.out _ _ (fun h => absurd h (by decide)) ?_
  clear hKS KS
  refine wpTx_done rfl (by kernel_rfl) ?_
  clear cI0 cI1 cI2 cI3 cS0 cS1 cS2 cR0 cR1 cR2 fR0 fR1 fR2
  have hBa : But (fun _ => False) w1 (w1.alloc (.cells #[.bool true, .string ⟨(st.take (st.length - k)).toArray⟩, .string ⟨lo.toArray⟩] 91)).drew := (But.alloc _ _ _).trans (But.drew _ _)
  have hgT : (w1.alloc (.cells #[.bool true, .string ⟨(st.take (st.length - k)).toArray⟩, .string ⟨lo.toArray⟩] 91)).drew.heap[w1.heap.size]? = some (.cells #[.bool true, .string ⟨(st.take (st.length - k)).toArray⟩, .string ⟨lo.toArray⟩] 91) := heap_alloc_new w1 _
  replace hgR := (hBa.block _ (lt_of_block hgR) (fun h => h)).trans hgR
  replace hgS := (hBa.block _ (lt_of_block hgS) (fun h => h)).trans hgS
  replace hgI := (hBa.block _ (lt_of_block hgI) (fun h => h)).trans hgI
  replace hgB := (hBa.block _ (lt_of_block hgB) (fun h => h)).trans hgB
  have hBw2 := hBw1.trans hBa
  generalize (w1.alloc (.cells #[.bool true, .string ⟨(st.take (st.length - k)).toArray⟩, .string ⟨lo.toArray⟩] 91)).drew = w2 at *
  obtain ⟨gT, hgTd⟩ : ∃ gT, w1.heap.size = gT := ⟨_, rfl⟩
  rw [hgTd] at hgT ⊢
  have hTR : w.heap.size + 3 < gT := by omega
  clear hgTd
  have cI0 : w2.cell? ⟨w.heap.size + 1, 0, none⟩ = some (.int .u8 x.op.toNat) := by rw [cell_of_row w2 _ 0 _ _ (0, 0) hgI]; rfl
  have cI1 : w2.cell? ⟨w.heap.size + 1, 1, none⟩ = some (.int .i64 x.a) := by rw [cell_of_row w2 _ 1 _ _ (0, 0) hgI]; rfl
  have cI2 : w2.cell? ⟨w.heap.size + 1, 2, none⟩ = some (.int .i64 x.b) := by rw [cell_of_row w2 _ 2 _ _ (0, 0) hgI]; rfl
  have cI3 : w2.cell? ⟨w.heap.size + 1, 3, none⟩ = some (.int .i64 x.pos) := by rw [cell_of_row w2 _ 3 _ _ (0, 0) hgI]; rfl
  go_wp2_with fail
  refine (HPUSH.out _ (hI.but hBw2)).mono ?_
  rintro en w3 ⟨rfl, hB3⟩
  clear cI0 cI1 cI2 cI3
  replace hgT := (hB3.block _ (lt_of_block hgT) (fun h => h)).trans hgT
  replace hgR := (hB3.block _ (lt_of_block hgR) (fun h => h)).trans hgR
  replace hgS := (hB3.block _ (lt_of_block hgS) (fun h => h)).trans hgS
  replace hgI := (hB3.block _ (lt_of_block hgI) (fun h => h)).trans hgI
  replace hgB := (hB3.block _ (lt_of_block hgB) (fun h => h)).trans hgB
  have hBw3 := hBw2.trans hB3
  have cR0 : w3.cell? ⟨w.heap.size + 3, 0, none⟩ = some (.bool false) := by rw [cell_of_row w3 _ 0 _ _ (0, 0) hgR]; rfl
  have fR0 : w3.frozen? ⟨w.heap.size + 3, 0, none⟩ = false := frozen_of_row w3 _ 0 _ _ hgR
  have cR1 : w3.cell? ⟨w.heap.size + 3, 1, none⟩ = some (.string ⟨#[]⟩) := by rw [cell_of_row w3 _ 1 _ _ (0, 0) hgR]; rfl
  have fR1 : w3.frozen? ⟨w.heap.size + 3, 1, none⟩ = false := frozen_of_row w3 _ 1 _ _ hgR
  have cR2 : w3.cell? ⟨w.heap.size + 3, 2, none⟩ = some (.string ⟨#[]⟩) := by rw [cell_of_row w3 _ 2 _ _ (0, 0) hgR]; rfl
  have fR2 : w3.frozen? ⟨w.heap.size + 3, 2, none⟩ = false := frozen_of_row w3 _ 2 _ _ hgR
  have T0 : w3.cell? ⟨gT, 0, none⟩ = some (.bool true) := by rw [cell_of_row w3 _ 0 _ _ (0, 0) hgT]; rfl
  have T1 : w3.cell? ⟨gT, 1, none⟩ = some (.string ⟨(st.take (st.length - k)).toArray⟩) := by rw [cell_of_row w3 _ 1 _ _ (0, 0) hgT]; rfl
  have T2 : w3.cell? ⟨gT, 2, none⟩ = some (.string ⟨lo.toArray⟩) := by rw [cell_of_row w3 _ 2 _ _ (0, 0) hgT]; rfl
  have F1 : w3.frozen? ⟨gT, 1, none⟩ = false := frozen_of_row w3 _ 1 _ _ hgT
  have hcat : ¬ 9223372036854775807 < st.length - k + U.length := by omega
  have hne1 : gT ≠ w.heap.size + 3 := by omega
  have hne2 : w.heap.size + 3 ≠ gT := by omega
  go_wp2_with fail
  clear hcat
  refine bodyPost_ret (v := .tuple #[.agg #[.bool true, .string ⟨(st.take (st.length - k) ++ U).toArray⟩, .string ⟨lo.toArray⟩], .bool true]) ?_ rfl ⟨rfl, ?_⟩
  ·rw [← bytes_append]
   simp [results, Tryz.results84, go_sem, cR0, cR1, cR2]
  ·exact (((hBw3.next (But.setB _ _ _ _) (fun k hk h => by omega)).next (But.setB _ _ _ _) (fun k hk h => by omega)).next (But.setB _ _ _ _) (fun k hk h => by omega)).next (But.setB _ _ _ _) (fun k hk h => by omega)
set_option maxHeartbeats 3200000 in
set_option maxRecDepth 100000 in
theorem effect_any (bi : Nat) (im : Img) (bd : Bod) (ak : Option Addr) (n capk : Nat) (x : Ins) (st lo : List UInt8) (w : World) (hI : ImgAt w bi im) (hW : WfI im) (hbd : WfB im.classes im.sigs bd) (hx : WfX im.classes im.sigs.length bd.locals.length x) (hst : ∀ c ∈ st, okT im.classes.length c = true) (hsl : st.length ≤ 200) (hll : lo.length = bd.locals.length) (hdummy : True) :
  Calls Tryz.prog 84 #[.pointer (some ⟨bi, 0, none⟩), .agg #[.int .i64 bd.cls, .int .i64 bd.meth, .string ⟨bd.locals.toArray⟩, .slice ak n capk, .slice none 0 0], .agg #[.int .u8 x.op.toNat, .int .i64 x.a, .int .i64 x.b, .int .i64 x.pos], .agg #[.bool true, .string ⟨st.toArray⟩, .string ⟨lo.toArray⟩]] w fun en w' => en = .returned (effV (effT im.classes im.sigs bd x st lo) st lo) ∧ But (fun _ => False) w w' := by
 by_cases h1 : x.op.toNat = 115
 ·exact eff_115 bi im bd ak n capk x st lo w hI hW hbd hx hst hsl hll h1
 by_cases h2 : x.op.toNat = 100
 ·exact eff_100 bi im bd ak n capk x st lo w hI hW hbd hx hst hsl hll h2
 by_cases h3 : x.op.toNat = 101
 ·exact eff_101 bi im bd ak n capk x st lo w hI hW hbd hx hst hsl hll h3
 by_cases h4 : x.op.toNat = 120
 ·exact eff_120 bi im bd ak n capk x st lo w hI hW hbd hx hst hsl hll h4
 by_cases h5 : x.op.toNat = 108
 ·exact eff_l bi im bd ak n capk x st lo w hI hW hbd hx hst hsl hll h5
 exact eff_plain bi im bd ak n capk x st lo w hI hW hbd hx hst hsl hll (by omega)
end Go.Proofs.YtpfkkmacakjmbaaGreatDoor
