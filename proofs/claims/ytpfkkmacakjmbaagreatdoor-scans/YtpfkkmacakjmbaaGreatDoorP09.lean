import Derived.Test.YtpfkkmacakjmbaaGreatDoorP08
namespace Go.Proofs.YtpfkkmacakjmbaaGreatDoor
open Go Go.RowKit Sp
set_option linter.unusedSimpArgs false
set_option linter.unusedVariables false
attribute [local go_sem ↓] Go.wp_at_zero Go.wp_at_succ
theorem conv1i (a : Int) (c : UInt8) (ha : a = c.toNat) (w : World) : (convert 112 9 (.slice (some ⟨w.heap.size, 0, none⟩) 1 1)).run Tryz.prog (w.alloc (.cells #[.int .u8 a] 5)) = .ok (.string ⟨#[c]⟩) (w.alloc (.cells #[.int .u8 a] 5)) := by
 subst ha
 exact conv1 c w
theorem conv1d (a : Int) (c : UInt8) (ha : a = c.toNat) (w : World) : (convert 112 9 (.slice (some ⟨w.heap.size, 0, none⟩) 1 1)).run Tryz.prog (w.alloc (.cells #[.int .u8 a] 5)).drew = .ok (.string ⟨#[c]⟩) (w.alloc (.cells #[.int .u8 a] 5)).drew := conv1i a c ha w.drew
theorem conv2d (a d : Int) (c e : UInt8) (ha : a = c.toNat) (hd : d = e.toNat) (w : World) : (convert 112 9 (.slice (some ⟨w.heap.size, 0, none⟩) 2 2)).run Tryz.prog (w.alloc (.cells #[.int .u8 a, .int .u8 d] 5)).drew = .ok (.string ⟨#[c, e]⟩) (w.alloc (.cells #[.int .u8 a, .int .u8 d] 5)).drew := conv2i a d c e ha hd w.drew
theorem clsT_nat {a : Nat} (h : a < 4) : (65 + (a : Int)) = ((clsT a).toNat : Int) := by
 unfold clsT
 rw [UInt8.toNat_ofNat']
 omega
/-- The signatures of an image in memory. -/
def SigAt (w : World) (bi : Nat) (gs : List Sig) : Prop :=
 ∃ v0 v1 v2, ImB w bi v0 v1 v2 ∧ w.ownsRow 0 129 2 v1 gs.length (sigCells gs)
theorem ImgAt.sig {w : World} {bi : Nat} {im : Img} (h : ImgAt w bi im) : SigAt w bi im.sigs := by
 obtain ⟨v0, v1, v2, l, hI, _, h1, _⟩ := h
 exact ⟨v0, v1, v2, hI, h1⟩
theorem SigAt.but {w w' : World} {bi : Nat} {gs : List Sig} (h : SigAt w bi gs) (hb : But (fun _ => False) w w') : SigAt w' bi gs := by
 obtain ⟨v0, v1, v2, hI, h0⟩ := h
 exact ⟨v0, v1, v2, hI.but hb (fun h => h), owns_but h0 hb (fun _ _ h => h)⟩
/-- A signature's two types in memory. -/
theorem SigAt.at {w : World} {bi : Nat} {gs : List Sig} (h : SigAt w bi gs) {k : Nat} (hk : k < gs.length) :
  ∃ (g n cap : Nat), w.cell? ⟨bi, 1, none⟩ = some (.slice (some ⟨g, 0, none⟩) n cap) ∧ (k : Int) < (n : Int) ∧ w.cell? ⟨g, k * 2, none⟩ = some (.int .u8 (argT gs k).toNat) ∧ w.cell? ⟨g, k * 2 + 1, none⟩ = some (.int .u8 (retT gs k).toNat) ∧ bi < w.heap.size ∧ g < w.heap.size := by
 obtain ⟨v0, v1, v2, hI, hO⟩ := h
 obtain ⟨a0, cap0, rfl⟩ := owns_len hO
 have hgl := List.getElem?_eq_getElem hk
 obtain ⟨g, rfl, hg1, hg2, hcell⟩ := owns_two hO (by omega)
 refine ⟨g, gs.length, cap0, hI.c1, by omega, ?_, ?_, hI.lt, hg1⟩
 ·rw [show argT gs k = gs[k].arg from by simp [argT, hgl]]; exact hcell _ _ (sigCells_at0 hgl)
 ·rw [show retT gs k = gs[k].ret from by simp [retT, hgl]]; exact hcell _ _ (sigCells_at1 hgl)
/-- A class's fields in memory. -/
theorem ClsAt.flds {w : World} {bi : Nat} {cs : List Cls} (h : ClsAt w bi cs) {k j : Nat} (hk : k < cs.length) (hj : j < nFields cs k) :
  ∃ (g n cap : Nat) (fl : List UInt8), w.cell? ⟨bi, 0, none⟩ = some (.slice (some ⟨g, 0, none⟩) n cap) ∧ (k : Int) < (n : Int) ∧ w.cell? ⟨g, k * 2 + 1, none⟩ = some (.string ⟨fl.toArray⟩) ∧ j < fl.length ∧ fl.getD j 0 = fieldT cs k j ∧ bi < w.heap.size ∧ g < w.heap.size := by
 obtain ⟨v0, v1, v2, hI, hO⟩ := h
 obtain ⟨a0, cap0, rfl⟩ := owns_len hO
 have hgl := List.getElem?_eq_getElem hk
 obtain ⟨g, rfl, hg1, hg2, hcell⟩ := owns_two hO (by omega)
 refine ⟨g, cs.length, cap0, cs[k].fields, hI.c0, by omega, hcell _ _ (clsCells_at1 hgl), ?_, ?_, hI.lt, hg1⟩
 ·simpa [nFields, hgl] using hj
 ·simp [fieldT, hgl]
set_option maxHeartbeats 1600000 in
set_option maxRecDepth 100000 in
theorem pops_wf (bi : Nat) (im : Img) (bd : Bod) (ak : Option Addr) (n capk : Nat) (x : Ins) (w : World) (hI : ImgAt w bi im) (hW : WfI im) (hbd : WfB im.classes im.sigs bd) (hx : WfX im.classes im.sigs.length bd.locals.length x) (hv : x.op.toNat = 119 ∨ x.op.toNat = 102) :
  Calls Tryz.prog 137 #[.pointer (some ⟨bi, 0, none⟩), .agg #[.int .i64 bd.cls, .int .i64 bd.meth, .string ⟨bd.locals.toArray⟩, .slice ak n capk, .slice none 0 0], .agg #[.int .u8 x.op.toNat, .int .i64 x.a, .int .i64 x.b, .int .i64 x.pos]] w fun en w' => en = .returned (.string ⟨(popsT im.classes im.sigs bd x).toArray⟩) ∧ But (fun _ => False) w w' := by
 have hres : popsT im.classes im.sigs bd x = [105] := by
  rcases hv with hv | hv <;> simp [popsT, hv, arith]
 rw [hres]
 clear hres
 rcases hv with hv | hv
 ·have t119 : ((x.op.toNat : Int) == 119) = true := by rw [beq_iff_eq]; omega
  clear hv
  go_enter Tryz.func137, Tryz.ntmps137
  go_wp2_with fail
  go_ret
  exact ⟨rfl, (But.alloc _ _ _).trans (But.alloc _ _ _)⟩
 ·have t119 : ((x.op.toNat : Int) == 119) = false := by rw [beq_eq_false_iff_ne]; omega
  have t102 : ((x.op.toNat : Int) == 102) = true := by rw [beq_iff_eq]; omega
  clear hv
  go_enter Tryz.func137, Tryz.ntmps137
  go_wp2_with fail
  go_ret
  exact ⟨rfl, (But.alloc _ _ _).trans (But.alloc _ _ _)⟩
set_option maxHeartbeats 1600000 in
set_option maxRecDepth 100000 in
theorem pops_ar (bi : Nat) (im : Img) (bd : Bod) (ak : Option Addr) (n capk : Nat) (x : Ins) (w : World) (hI : ImgAt w bi im) (hW : WfI im) (hbd : WfB im.classes im.sigs bd) (hx : WfX im.classes im.sigs.length bd.locals.length x) (hv : x.op.toNat = 43 ∨ x.op.toNat = 45 ∨ x.op.toNat = 42 ∨ x.op.toNat = 47 ∨ x.op.toNat = 60 ∨ x.op.toNat = 61) :
  Calls Tryz.prog 137 #[.pointer (some ⟨bi, 0, none⟩), .agg #[.int .i64 bd.cls, .int .i64 bd.meth, .string ⟨bd.locals.toArray⟩, .slice ak n capk, .slice none 0 0], .agg #[.int .u8 x.op.toNat, .int .i64 x.a, .int .i64 x.b, .int .i64 x.pos]] w fun en w' => en = .returned (.string ⟨(popsT im.classes im.sigs bd x).toArray⟩) ∧ But (fun _ => False) w w' := by
 have hres : popsT im.classes im.sigs bd x = [105, 105] := by
  rcases hv with hv | hv | hv | hv | hv | hv <;> simp [popsT, hv, arith]
 rw [hres]
 clear hres
 rcases hv with hv | hv | hv | hv | hv | hv
 ·have t119 : ((x.op.toNat : Int) == 119) = false := by rw [beq_eq_false_iff_ne]; omega
  have t102 : ((x.op.toNat : Int) == 102) = false := by rw [beq_eq_false_iff_ne]; omega
  have t43 : ((x.op.toNat : Int) == 43) = true := by rw [beq_iff_eq]; omega
  clear hv
  go_enter Tryz.func137, Tryz.ntmps137
  go_wp2_with fail
  go_ret
  exact ⟨rfl, (But.alloc _ _ _).trans (But.alloc _ _ _)⟩
 ·have t119 : ((x.op.toNat : Int) == 119) = false := by rw [beq_eq_false_iff_ne]; omega
  have t102 : ((x.op.toNat : Int) == 102) = false := by rw [beq_eq_false_iff_ne]; omega
  have t43 : ((x.op.toNat : Int) == 43) = false := by rw [beq_eq_false_iff_ne]; omega
  have t45 : ((x.op.toNat : Int) == 45) = true := by rw [beq_iff_eq]; omega
  clear hv
  go_enter Tryz.func137, Tryz.ntmps137
  go_wp2_with fail
  go_ret
  exact ⟨rfl, (But.alloc _ _ _).trans (But.alloc _ _ _)⟩
 ·have t119 : ((x.op.toNat : Int) == 119) = false := by rw [beq_eq_false_iff_ne]; omega
  have t102 : ((x.op.toNat : Int) == 102) = false := by rw [beq_eq_false_iff_ne]; omega
  have t43 : ((x.op.toNat : Int) == 43) = false := by rw [beq_eq_false_iff_ne]; omega
  have t45 : ((x.op.toNat : Int) == 45) = false := by rw [beq_eq_false_iff_ne]; omega
  have t42 : ((x.op.toNat : Int) == 42) = true := by rw [beq_iff_eq]; omega
  clear hv
  go_enter Tryz.func137, Tryz.ntmps137
  go_wp2_with fail
  go_ret
  exact ⟨rfl, (But.alloc _ _ _).trans (But.alloc _ _ _)⟩
 ·have t119 : ((x.op.toNat : Int) == 119) = false := by rw [beq_eq_false_iff_ne]; omega
  have t102 : ((x.op.toNat : Int) == 102) = false := by rw [beq_eq_false_iff_ne]; omega
  have t43 : ((x.op.toNat : Int) == 43) = false := by rw [beq_eq_false_iff_ne]; omega
  have t45 : ((x.op.toNat : Int) == 45) = false := by rw [beq_eq_false_iff_ne]; omega
  have t42 : ((x.op.toNat : Int) == 42) = false := by rw [beq_eq_false_iff_ne]; omega
  have t47 : ((x.op.toNat : Int) == 47) = true := by rw [beq_iff_eq]; omega
  clear hv
  go_enter Tryz.func137, Tryz.ntmps137
  go_wp2_with fail
  go_ret
  exact ⟨rfl, (But.alloc _ _ _).trans (But.alloc _ _ _)⟩
 ·have t119 : ((x.op.toNat : Int) == 119) = false := by rw [beq_eq_false_iff_ne]; omega
  have t102 : ((x.op.toNat : Int) == 102) = false := by rw [beq_eq_false_iff_ne]; omega
  have t43 : ((x.op.toNat : Int) == 43) = false := by rw [beq_eq_false_iff_ne]; omega
  have t45 : ((x.op.toNat : Int) == 45) = false := by rw [beq_eq_false_iff_ne]; omega
  have t42 : ((x.op.toNat : Int) == 42) = false := by rw [beq_eq_false_iff_ne]; omega
  have t47 : ((x.op.toNat : Int) == 47) = false := by rw [beq_eq_false_iff_ne]; omega
  have t60 : ((x.op.toNat : Int) == 60) = true := by rw [beq_iff_eq]; omega
  clear hv
  go_enter Tryz.func137, Tryz.ntmps137
  go_wp2_with fail
  go_ret
  exact ⟨rfl, (But.alloc _ _ _).trans (But.alloc _ _ _)⟩
 ·have t119 : ((x.op.toNat : Int) == 119) = false := by rw [beq_eq_false_iff_ne]; omega
  have t102 : ((x.op.toNat : Int) == 102) = false := by rw [beq_eq_false_iff_ne]; omega
  have t43 : ((x.op.toNat : Int) == 43) = false := by rw [beq_eq_false_iff_ne]; omega
  have t45 : ((x.op.toNat : Int) == 45) = false := by rw [beq_eq_false_iff_ne]; omega
  have t42 : ((x.op.toNat : Int) == 42) = false := by rw [beq_eq_false_iff_ne]; omega
  have t47 : ((x.op.toNat : Int) == 47) = false := by rw [beq_eq_false_iff_ne]; omega
  have t60 : ((x.op.toNat : Int) == 60) = false := by rw [beq_eq_false_iff_ne]; omega
  have t61 : ((x.op.toNat : Int) == 61) = true := by rw [beq_iff_eq]; omega
  clear hv
  go_enter Tryz.func137, Tryz.ntmps137
  go_wp2_with fail
  go_ret
  exact ⟨rfl, (But.alloc _ _ _).trans (But.alloc _ _ _)⟩
set_option maxHeartbeats 1600000 in
set_option maxRecDepth 100000 in
theorem pops_g (bi : Nat) (im : Img) (bd : Bod) (ak : Option Addr) (n capk : Nat) (x : Ins) (w : World) (hI : ImgAt w bi im) (hW : WfI im) (hbd : WfB im.classes im.sigs bd) (hx : WfX im.classes im.sigs.length bd.locals.length x) (hv : x.op.toNat = 103) :
  Calls Tryz.prog 137 #[.pointer (some ⟨bi, 0, none⟩), .agg #[.int .i64 bd.cls, .int .i64 bd.meth, .string ⟨bd.locals.toArray⟩, .slice ak n capk, .slice none 0 0], .agg #[.int .u8 x.op.toNat, .int .i64 x.a, .int .i64 x.b, .int .i64 x.pos]] w fun en w' => en = .returned (.string ⟨(popsT im.classes im.sigs bd x).toArray⟩) ∧ But (fun _ => False) w w' := by
 have hres : popsT im.classes im.sigs bd x = [clsT x.a] := by simp [popsT, hv, arith]
 rw [hres]
 clear hres
 have t119 : ((x.op.toNat : Int) == 119) = false := by rw [beq_eq_false_iff_ne]; omega
 have t102 : ((x.op.toNat : Int) == 102) = false := by rw [beq_eq_false_iff_ne]; omega
 have t43 : ((x.op.toNat : Int) == 43) = false := by rw [beq_eq_false_iff_ne]; omega
 have t45 : ((x.op.toNat : Int) == 45) = false := by rw [beq_eq_false_iff_ne]; omega
 have t42 : ((x.op.toNat : Int) == 42) = false := by rw [beq_eq_false_iff_ne]; omega
 have t47 : ((x.op.toNat : Int) == 47) = false := by rw [beq_eq_false_iff_ne]; omega
 have t60 : ((x.op.toNat : Int) == 60) = false := by rw [beq_eq_false_iff_ne]; omega
 have t61 : ((x.op.toNat : Int) == 61) = false := by rw [beq_eq_false_iff_ne]; omega
 have t103 : ((x.op.toNat : Int) == 103) = true := by rw [beq_iff_eq]; omega
 have hxa : x.a < 4 := by have := hx.cls (by omega); have := hW.nc; omega
 have hxi : (x.a : Int) < 4 := by omega
 clear hv
 have hcv := conv1i (65 + (x.a : Int)) (clsT x.a) (clsT_nat hxa) ((w.alloc (.cells #[.int .i64 bd.cls, .int .i64 bd.meth, .string ⟨bd.locals.toArray⟩, .slice ak n capk, .slice none 0 0] 52)).alloc (.cells #[.int .u8 x.op.toNat, .int .i64 x.a, .int .i64 x.b, .int .i64 x.pos] 144))
 rw [show ((w.alloc (.cells #[.int .i64 bd.cls, .int .i64 bd.meth, .string ⟨bd.locals.toArray⟩, .slice ak n capk, .slice none 0 0] 52)).alloc (.cells #[.int .u8 x.op.toNat, .int .i64 x.a, .int .i64 x.b, .int .i64 x.pos] 144)).heap.size = w.heap.size + 2 from by simp] at hcv
 generalize clsT x.a = C at *
 go_enter Tryz.func137, Tryz.ntmps137
 go_wp2_with fail
 go_ret
 exact ⟨rfl, ((But.alloc _ _ _).trans (But.alloc _ _ _)).trans (But.alloc _ _ _)⟩
set_option maxHeartbeats 1600000 in
set_option maxRecDepth 100000 in
theorem pops_p (bi : Nat) (im : Img) (bd : Bod) (ak : Option Addr) (n capk : Nat) (x : Ins) (w : World) (hI : ImgAt w bi im) (hW : WfI im) (hbd : WfB im.classes im.sigs bd) (hx : WfX im.classes im.sigs.length bd.locals.length x) (hv : x.op.toNat = 112) :
  Calls Tryz.prog 137 #[.pointer (some ⟨bi, 0, none⟩), .agg #[.int .i64 bd.cls, .int .i64 bd.meth, .string ⟨bd.locals.toArray⟩, .slice ak n capk, .slice none 0 0], .agg #[.int .u8 x.op.toNat, .int .i64 x.a, .int .i64 x.b, .int .i64 x.pos]] w fun en w' => en = .returned (.string ⟨(popsT im.classes im.sigs bd x).toArray⟩) ∧ But (fun _ => False) w w' := by
 have hres : popsT im.classes im.sigs bd x = [clsT x.a, fieldT im.classes x.a x.b] := by simp [popsT, hv, arith]
 rw [hres]
 clear hres
 generalize hCe : clsT x.a = C
 generalize hEe : fieldT im.classes x.a x.b = E
 have HCE : Hid (clsT x.a = C) := hCe
 have HEE : Hid (fieldT im.classes x.a x.b = E) := hEe
 clear hCe hEe
 have t119 : ((x.op.toNat : Int) == 119) = false := by rw [beq_eq_false_iff_ne]; omega
 have t102 : ((x.op.toNat : Int) == 102) = false := by rw [beq_eq_false_iff_ne]; omega
 have t43 : ((x.op.toNat : Int) == 43) = false := by rw [beq_eq_false_iff_ne]; omega
 have t45 : ((x.op.toNat : Int) == 45) = false := by rw [beq_eq_false_iff_ne]; omega
 have t42 : ((x.op.toNat : Int) == 42) = false := by rw [beq_eq_false_iff_ne]; omega
 have t47 : ((x.op.toNat : Int) == 47) = false := by rw [beq_eq_false_iff_ne]; omega
 have t60 : ((x.op.toNat : Int) == 60) = false := by rw [beq_eq_false_iff_ne]; omega
 have t61 : ((x.op.toNat : Int) == 61) = false := by rw [beq_eq_false_iff_ne]; omega
 have t103 : ((x.op.toNat : Int) == 103) = false := by rw [beq_eq_false_iff_ne]; omega
 have t112 : ((x.op.toNat : Int) == 112) = true := by rw [beq_iff_eq]; omega
 have hxa : x.a < im.classes.length := hx.cls (by omega)
 have hxb := hx.fld (by omega)
 have hnc := hW.nc
 have hxi : (x.a : Int) < 4 := by omega
 clear hv
 go_enter Tryz.func137, Tryz.ntmps137
 go_wp2_with fail
 have hB0 : But (fun _ => False) w ((w.alloc (.cells #[.int .i64 bd.cls, .int .i64 bd.meth, .string ⟨bd.locals.toArray⟩, .slice ak n capk, .slice none 0 0] 52)).alloc (.cells #[.int .u8 x.op.toNat, .int .i64 x.a, .int .i64 x.b, .int .i64 x.pos] 144)) := (But.alloc _ _ _).trans (But.alloc _ _ _)
 have hgI : ((w.alloc (.cells #[.int .i64 bd.cls, .int .i64 bd.meth, .string ⟨bd.locals.toArray⟩, .slice ak n capk, .slice none 0 0] 52)).alloc (.cells #[.int .u8 x.op.toNat, .int .i64 x.a, .int .i64 x.b, .int .i64 x.pos] 144)).heap[w.heap.size + 1]? = some (.cells #[.int .u8 x.op.toNat, .int .i64 x.a, .int .i64 x.b, .int .i64 x.pos] 144) := heap_alloc_at (by simp) _
 have hgB : ((w.alloc (.cells #[.int .i64 bd.cls, .int .i64 bd.meth, .string ⟨bd.locals.toArray⟩, .slice ak n capk, .slice none 0 0] 52)).alloc (.cells #[.int .u8 x.op.toNat, .int .i64 x.a, .int .i64 x.b, .int .i64 x.pos] 144)).heap[w.heap.size]? = some (.cells #[.int .i64 bd.cls, .int .i64 bd.meth, .string ⟨bd.locals.toArray⟩, .slice ak n capk, .slice none 0 0] 52) := ((But.alloc (fun _ => False) (w.alloc (.cells #[.int .i64 bd.cls, .int .i64 bd.meth, .string ⟨bd.locals.toArray⟩, .slice ak n capk, .slice none 0 0] 52)) _).block w.heap.size (by simp) (fun h => h)).trans (heap_alloc_new w _)
 generalize ((w.alloc (.cells #[.int .i64 bd.cls, .int .i64 bd.meth, .string ⟨bd.locals.toArray⟩, .slice ak n capk, .slice none 0 0] 52)).alloc (.cells #[.int .u8 x.op.toNat, .int .i64 x.a, .int .i64 x.b, .int .i64 x.pos] 144)) = W at *
 have i1 : W.cell? ⟨w.heap.size + 1, 1, none⟩ = some (.int .i64 x.a) := by rw [cell_of_row W _ 1 _ _ (0, 0) hgI]; rfl
 have i2 : W.cell? ⟨w.heap.size + 1, 2, none⟩ = some (.int .i64 x.b) := by rw [cell_of_row W _ 2 _ _ (0, 0) hgI]; rfl
 have b0 : W.cell? ⟨w.heap.size, 0, none⟩ = some (.int .i64 bd.cls) := by rw [cell_of_row W _ 0 _ _ (0, 0) hgB]; rfl
 have b1 : W.cell? ⟨w.heap.size, 1, none⟩ = some (.int .i64 bd.meth) := by rw [cell_of_row W _ 1 _ _ (0, 0) hgB]; rfl
 have lI := lt_of_block hgI
 have lB := lt_of_block hgB
 have hIW := hI.but hB0
 obtain ⟨g, m, cap, fl, d0, hm, hc, hjl, hfe, lbi, lg⟩ := hIW.cls.flds hxa hxb
 have hjl2 : (x.b : Int) < (fl.length : Int) := by omega
 have hcx := clsT_nat (a := x.a) (by omega)
 have hwr := wrapI (65 + (x.a : Int)) (by omega) (by omega)
 have hwr8 := IntWalk.u8_in (65 + (x.a : Int)) (by omega)
 have HFE : Hid (fl.getD x.b 0 = fieldT im.classes x.a x.b) := hfe
 have HCX : Hid ((65 + (x.a : Int)) = (C.toNat : Int)) := by show _ = _; rw [← HCE.out]; exact hcx
 clear hfe hcx
 have hS0 : But (fun _ => False) W W.drew := But.drew _ _
 refine wpTx_begin (But (fun _ => False) W) 18 (by kernel_rfl) ?_
 have fSA := hid (fun wS (h : (But (fun _ => False) W) wS) => (And.intro ((h.cell (p := ⟨w.heap.size + 1, 1, none⟩) lI (fun h => h)).trans i1) (And.intro ((h.cell (p := ⟨w.heap.size + 1, 2, none⟩) lI (fun h => h)).trans i2) (And.intro ((h.cell (p := ⟨bi, 0, none⟩) lbi (fun h => h)).trans d0) ((h.cell (p := ⟨g, x.a * 2 + 1, none⟩) lg (fun h => h)).trans hc)))))
 refine wpTx_take (v := ?vA0) rfl (by kernel_rfl) ?qA0 rfl hS0 ?yA0 ?rA0
 case yA0 => intro wS h; obtain ⟨q0, q1, q2, q3⟩ := fSA.out wS h; clear h; go_simp; try rfl
 case qA0 => exact fun _ _ _ h => h
 dsimp only [Act.put]
 try simp only [puts]
 refine wpTx_take (v := ?vA1) rfl (by kernel_rfl) ?qA1 rfl hS0 ?yA1 ?rA1
 case yA1 => intro wS h; obtain ⟨q0, q1, q2, q3⟩ := fSA.out wS h; clear h; go_simp; try rfl
 case qA1 => exact fun _ _ _ h => h
 dsimp only [Act.put]
 try simp only [puts]
 refine wpTx_take (v := ?vA2) rfl (by kernel_rfl) ?qA2 rfl hS0 ?yA2 ?rA2
 case yA2 => intro wS h; obtain ⟨q0, q1, q2, q3⟩ := fSA.out wS h; clear h; go_simp; try rfl
 case qA2 => exact fun _ _ _ h => h
 dsimp only [Act.put]
 try simp only [puts]
 refine wpTx_take (v := ?vA3) rfl (by kernel_rfl) ?qA3 rfl hS0 ?yA3 ?rA3
 case yA3 => intro wS h; obtain ⟨q0, q1, q2, q3⟩ := fSA.out wS h; clear h; go_simp; try rfl
 case qA3 => exact fun _ _ _ h => h
 dsimp only [Act.put]
 try simp only [puts]
 refine wpTx_take (v := ?vA4) rfl (by kernel_rfl) ?qA4 rfl hS0 ?yA4 ?rA4
 case yA4 => intro wS h; obtain ⟨q0, q1, q2, q3⟩ := fSA.out wS h; clear h; go_simp; try rfl
 case qA4 => exact fun _ _ _ h => h
 dsimp only [Act.put]
 try simp only [puts]
 refine wpTx_take (v := ?vA5) rfl (by kernel_rfl) ?qA5 rfl hS0 ?yA5 ?rA5
 case yA5 => intro wS h; obtain ⟨q0, q1, q2, q3⟩ := fSA.out wS h; clear h; go_simp; try rfl
 case qA5 => exact fun _ _ _ h => h
 dsimp only [Act.put]
 try simp only [puts]
 refine wpTx_take (v := ?vA6) rfl (by kernel_rfl) ?qA6 rfl hS0 ?yA6 ?rA6
 case yA6 => intro wS h; obtain ⟨q0, q1, q2, q3⟩ := fSA.out wS h; clear h; go_simp; try rfl
 case qA6 => exact fun _ _ _ h => h
 dsimp only [Act.put]
 try simp only [puts]
 refine wpTx_take (v := ?vA7) rfl (by kernel_rfl) ?qA7 rfl hS0 ?yA7 ?rA7
 case yA7 => intro wS h; obtain ⟨q0, q1, q2, q3⟩ := fSA.out wS h; clear h; go_simp; try rfl
 case qA7 => exact fun _ _ _ h => h
 dsimp only [Act.put]
 try simp only [puts]
 refine wpTx_take (v := ?vA8) rfl (by kernel_rfl) ?qA8 rfl hS0 ?yA8 ?rA8
 case yA8 => intro wS h; obtain ⟨q0, q1, q2, q3⟩ := fSA.out wS h; clear h; go_simp; try rfl
 case qA8 => exact fun _ _ _ h => h
 dsimp only [Act.put]
 try simp only [puts]
 refine wpTx_take (v := ?vA9) rfl (by kernel_rfl) ?qA9 rfl hS0 ?yA9 ?rA9
 case yA9 => intro wS h; obtain ⟨q0, q1, q2, q3⟩ := fSA.out wS h; clear h; go_simp; try rfl
 case qA9 => exact fun _ _ _ h => h
 dsimp only [Act.put]
 try simp only [puts]
 refine wpTx_take (v := ?vA10) rfl (by kernel_rfl) ?qA10 rfl hS0 ?yA10 ?rA10
 case yA10 => intro wS h; obtain ⟨q0, q1, q2, q3⟩ := fSA.out wS h; clear h; go_simp; try rfl
 case qA10 => exact fun _ _ _ h => h
 dsimp only [Act.put]
 try simp only [puts]
 refine wpTx_take (v := ?vA11) rfl (by kernel_rfl) ?qA11 rfl hS0 ?yA11 ?rA11
 case yA11 => intro wS h; obtain ⟨q0, q1, q2, q3⟩ := fSA.out wS h; clear h; go_simp; try rfl
 case qA11 => exact fun _ _ _ h => h
 dsimp only [Act.put]
 try simp only [puts]
 refine wpTx_take (v := ?vA12) rfl (by kernel_rfl) ?qA12 rfl hS0 ?yA12 ?rA12
 case yA12 => intro wS h; obtain ⟨q0, q1, q2, q3⟩ := fSA.out wS h; clear h; go_simp; try rfl
 case qA12 => exact fun _ _ _ h => h
 dsimp only [Act.put]
 try simp only [puts]
 refine wpTx_take (v := ?vA13) rfl (by kernel_rfl) ?qA13 rfl hS0 ?yA13 ?rA13
 case yA13 => intro wS h; obtain ⟨q0, q1, q2, q3⟩ := fSA.out wS h; clear h; go_simp; try rfl
 case qA13 => exact fun _ _ _ h => h
 dsimp only [Act.put]
 try simp only [puts]
 refine wpTx_take (v := ?vA14) rfl (by kernel_rfl) ?qA14 rfl hS0 ?yA14 ?rA14
 case yA14 => intro wS h; obtain ⟨q0, q1, q2, q3⟩ := fSA.out wS h; clear h; go_simp; try rfl
 case qA14 => exact fun _ _ _ h => h
 dsimp only [Act.put]
 try simp only [puts]
 refine wpTx_take (v := ?vA15) rfl (by kernel_rfl) ?qA15 rfl hS0 ?yA15 ?rA15
 case yA15 => intro wS h; obtain ⟨q0, q1, q2, q3⟩ := fSA.out wS h; clear h; go_simp; try rfl
 case qA15 => exact fun _ _ _ h => h
 dsimp only [Act.put]
 try simp only [puts]
 try clear fSA
 clear hwr hwr8
 refine wpTx_step (o := ?oA16) (rest := ?rsA16) ?hoA16 ?hrA16 ?stA16
 case hoA16 => rfl
 case hrA16 => kernel_rfl
 case' stA16 =>
 intro KS hKS
 go_simp
 have hfl : ∀ h, (⟨fl.toArray⟩ : ByteArray)[x.b]'h = E := fun h => by rw [← HEE.out, ← HFE.out, getD_lt fl _ hjl]; exact lget fl _ hjl _
 simp only [hfl]
 refine hKS.out _ _ (fun _ => (But.alloc _ _ _).trans (But.drew _ _)) ?_
 clear hKS KS hfl
 have hcv := conv2d (65 + (x.a : Int)) (E.toNat : Int) C E HCX.out rfl
 refine wpTx_step (o := ?oA17) (rest := ?rsA17) ?hoA17 ?hrA17 ?stA17
 case hoA17 => rfl
 case hrA17 => kernel_rfl
 case' stA17 =>
 intro KS hKS
 go_simp
 refine hKS.out _ _ (fun _ => (But.alloc _ _ _).trans (But.drew _ _)) ?_
 clear hKS KS
 refine wpTx_step (o := ?oA18) (rest := ?rsA18) ?hoA18 ?hrA18 ?stA18
 case hoA18 => rfl
 case hrA18 => kernel_rfl
 case' stA18 =>
 intro KS hKS
 go_simp
 refine hKS.out _ _ (fun h => absurd h (by decide)) ?_
 clear hKS KS
 refine wpTx_done rfl (by kernel_rfl) ?_
 go_wp2_with fail
 go_ret
 exact ⟨rfl, hB0.trans ((But.alloc _ _ _).trans (But.drew _ _))⟩
set_option maxHeartbeats 1600000 in
set_option maxRecDepth 100000 in
theorem pops_c (bi : Nat) (im : Img) (bd : Bod) (ak : Option Addr) (n capk : Nat) (x : Ins) (w : World) (hI : ImgAt w bi im) (hW : WfI im) (hbd : WfB im.classes im.sigs bd) (hx : WfX im.classes im.sigs.length bd.locals.length x) (hv : x.op.toNat = 99) :
  Calls Tryz.prog 137 #[.pointer (some ⟨bi, 0, none⟩), .agg #[.int .i64 bd.cls, .int .i64 bd.meth, .string ⟨bd.locals.toArray⟩, .slice ak n capk, .slice none 0 0], .agg #[.int .u8 x.op.toNat, .int .i64 x.a, .int .i64 x.b, .int .i64 x.pos]] w fun en w' => en = .returned (.string ⟨(popsT im.classes im.sigs bd x).toArray⟩) ∧ But (fun _ => False) w w' := by
 have hres : popsT im.classes im.sigs bd x = [clsT x.a, argT im.sigs x.b] := by simp [popsT, hv, arith]
 rw [hres]
 clear hres
 generalize hCe : clsT x.a = C
 generalize hEe : argT im.sigs x.b = E
 have HCE : Hid (clsT x.a = C) := hCe
 have HEE : Hid (argT im.sigs x.b = E) := hEe
 clear hCe hEe
 have t119 : ((x.op.toNat : Int) == 119) = false := by rw [beq_eq_false_iff_ne]; omega
 have t102 : ((x.op.toNat : Int) == 102) = false := by rw [beq_eq_false_iff_ne]; omega
 have t43 : ((x.op.toNat : Int) == 43) = false := by rw [beq_eq_false_iff_ne]; omega
 have t45 : ((x.op.toNat : Int) == 45) = false := by rw [beq_eq_false_iff_ne]; omega
 have t42 : ((x.op.toNat : Int) == 42) = false := by rw [beq_eq_false_iff_ne]; omega
 have t47 : ((x.op.toNat : Int) == 47) = false := by rw [beq_eq_false_iff_ne]; omega
 have t60 : ((x.op.toNat : Int) == 60) = false := by rw [beq_eq_false_iff_ne]; omega
 have t61 : ((x.op.toNat : Int) == 61) = false := by rw [beq_eq_false_iff_ne]; omega
 have t103 : ((x.op.toNat : Int) == 103) = false := by rw [beq_eq_false_iff_ne]; omega
 have t112 : ((x.op.toNat : Int) == 112) = false := by rw [beq_eq_false_iff_ne]; omega
 have t99 : ((x.op.toNat : Int) == 99) = true := by rw [beq_iff_eq]; omega
 have hxa : x.a < im.classes.length := hx.cls (by omega)
 have hxb := hx.sig (by omega)
 have hnc := hW.nc
 have hxi : (x.a : Int) < 4 := by omega
 clear hv
 go_enter Tryz.func137, Tryz.ntmps137
 go_wp2_with fail
 have hB0 : But (fun _ => False) w ((w.alloc (.cells #[.int .i64 bd.cls, .int .i64 bd.meth, .string ⟨bd.locals.toArray⟩, .slice ak n capk, .slice none 0 0] 52)).alloc (.cells #[.int .u8 x.op.toNat, .int .i64 x.a, .int .i64 x.b, .int .i64 x.pos] 144)) := (But.alloc _ _ _).trans (But.alloc _ _ _)
 have hgI : ((w.alloc (.cells #[.int .i64 bd.cls, .int .i64 bd.meth, .string ⟨bd.locals.toArray⟩, .slice ak n capk, .slice none 0 0] 52)).alloc (.cells #[.int .u8 x.op.toNat, .int .i64 x.a, .int .i64 x.b, .int .i64 x.pos] 144)).heap[w.heap.size + 1]? = some (.cells #[.int .u8 x.op.toNat, .int .i64 x.a, .int .i64 x.b, .int .i64 x.pos] 144) := heap_alloc_at (by simp) _
 have hgB : ((w.alloc (.cells #[.int .i64 bd.cls, .int .i64 bd.meth, .string ⟨bd.locals.toArray⟩, .slice ak n capk, .slice none 0 0] 52)).alloc (.cells #[.int .u8 x.op.toNat, .int .i64 x.a, .int .i64 x.b, .int .i64 x.pos] 144)).heap[w.heap.size]? = some (.cells #[.int .i64 bd.cls, .int .i64 bd.meth, .string ⟨bd.locals.toArray⟩, .slice ak n capk, .slice none 0 0] 52) := ((But.alloc (fun _ => False) (w.alloc (.cells #[.int .i64 bd.cls, .int .i64 bd.meth, .string ⟨bd.locals.toArray⟩, .slice ak n capk, .slice none 0 0] 52)) _).block w.heap.size (by simp) (fun h => h)).trans (heap_alloc_new w _)
 generalize ((w.alloc (.cells #[.int .i64 bd.cls, .int .i64 bd.meth, .string ⟨bd.locals.toArray⟩, .slice ak n capk, .slice none 0 0] 52)).alloc (.cells #[.int .u8 x.op.toNat, .int .i64 x.a, .int .i64 x.b, .int .i64 x.pos] 144)) = W at *
 have i1 : W.cell? ⟨w.heap.size + 1, 1, none⟩ = some (.int .i64 x.a) := by rw [cell_of_row W _ 1 _ _ (0, 0) hgI]; rfl
 have i2 : W.cell? ⟨w.heap.size + 1, 2, none⟩ = some (.int .i64 x.b) := by rw [cell_of_row W _ 2 _ _ (0, 0) hgI]; rfl
 have b0 : W.cell? ⟨w.heap.size, 0, none⟩ = some (.int .i64 bd.cls) := by rw [cell_of_row W _ 0 _ _ (0, 0) hgB]; rfl
 have b1 : W.cell? ⟨w.heap.size, 1, none⟩ = some (.int .i64 bd.meth) := by rw [cell_of_row W _ 1 _ _ (0, 0) hgB]; rfl
 have lI := lt_of_block hgI
 have lB := lt_of_block hgB
 have hIW := hI.but hB0
 obtain ⟨g, m, cap, d1, hm, hc, hc2, lbi, lg⟩ := hIW.sig.at hxb
 have HCX : Hid ((65 + (x.a : Int)) = (C.toNat : Int)) := by show _ = _; rw [← HCE.out]; exact clsT_nat (by omega)
 rw [HEE.out] at hc
 have hwr := wrapI (65 + (x.a : Int)) (by omega) (by omega)
 have hwr8 := IntWalk.u8_in (65 + (x.a : Int)) (by omega)
 have hS0 : But (fun _ => False) W W.drew := But.drew _ _
 refine wpTx_begin (But (fun _ => False) W) 15 (by kernel_rfl) ?_
 have fSA := hid (fun wS (h : (But (fun _ => False) W) wS) => (And.intro ((h.cell (p := ⟨w.heap.size + 1, 1, none⟩) lI (fun h => h)).trans i1) (And.intro ((h.cell (p := ⟨w.heap.size + 1, 2, none⟩) lI (fun h => h)).trans i2) (And.intro ((h.cell (p := ⟨bi, 1, none⟩) lbi (fun h => h)).trans d1) ((h.cell (p := ⟨g, x.b * 2, none⟩) lg (fun h => h)).trans hc)))))
 refine wpTx_take (v := ?vA0) rfl (by kernel_rfl) ?qA0 rfl hS0 ?yA0 ?rA0
 case yA0 => intro wS h; obtain ⟨q0, q1, q2, q3⟩ := fSA.out wS h; clear h; go_simp; try rfl
 case qA0 => exact fun _ _ _ h => h
 dsimp only [Act.put]
 try simp only [puts]
 refine wpTx_take (v := ?vA1) rfl (by kernel_rfl) ?qA1 rfl hS0 ?yA1 ?rA1
 case yA1 => intro wS h; obtain ⟨q0, q1, q2, q3⟩ := fSA.out wS h; clear h; go_simp; try rfl
 case qA1 => exact fun _ _ _ h => h
 dsimp only [Act.put]
 try simp only [puts]
 refine wpTx_take (v := ?vA2) rfl (by kernel_rfl) ?qA2 rfl hS0 ?yA2 ?rA2
 case yA2 => intro wS h; obtain ⟨q0, q1, q2, q3⟩ := fSA.out wS h; clear h; go_simp; try rfl
 case qA2 => exact fun _ _ _ h => h
 dsimp only [Act.put]
 try simp only [puts]
 refine wpTx_take (v := ?vA3) rfl (by kernel_rfl) ?qA3 rfl hS0 ?yA3 ?rA3
 case yA3 => intro wS h; obtain ⟨q0, q1, q2, q3⟩ := fSA.out wS h; clear h; go_simp; try rfl
 case qA3 => exact fun _ _ _ h => h
 dsimp only [Act.put]
 try simp only [puts]
 refine wpTx_take (v := ?vA4) rfl (by kernel_rfl) ?qA4 rfl hS0 ?yA4 ?rA4
 case yA4 => intro wS h; obtain ⟨q0, q1, q2, q3⟩ := fSA.out wS h; clear h; go_simp; try rfl
 case qA4 => exact fun _ _ _ h => h
 dsimp only [Act.put]
 try simp only [puts]
 refine wpTx_take (v := ?vA5) rfl (by kernel_rfl) ?qA5 rfl hS0 ?yA5 ?rA5
 case yA5 => intro wS h; obtain ⟨q0, q1, q2, q3⟩ := fSA.out wS h; clear h; go_simp; try rfl
 case qA5 => exact fun _ _ _ h => h
 dsimp only [Act.put]
 try simp only [puts]
 refine wpTx_take (v := ?vA6) rfl (by kernel_rfl) ?qA6 rfl hS0 ?yA6 ?rA6
 case yA6 => intro wS h; obtain ⟨q0, q1, q2, q3⟩ := fSA.out wS h; clear h; go_simp; try rfl
 case qA6 => exact fun _ _ _ h => h
 dsimp only [Act.put]
 try simp only [puts]
 refine wpTx_take (v := ?vA7) rfl (by kernel_rfl) ?qA7 rfl hS0 ?yA7 ?rA7
 case yA7 => intro wS h; obtain ⟨q0, q1, q2, q3⟩ := fSA.out wS h; clear h; go_simp; try rfl
 case qA7 => exact fun _ _ _ h => h
 dsimp only [Act.put]
 try simp only [puts]
 refine wpTx_take (v := ?vA8) rfl (by kernel_rfl) ?qA8 rfl hS0 ?yA8 ?rA8
 case yA8 => intro wS h; obtain ⟨q0, q1, q2, q3⟩ := fSA.out wS h; clear h; go_simp; try rfl
 case qA8 => exact fun _ _ _ h => h
 dsimp only [Act.put]
 try simp only [puts]
 refine wpTx_take (v := ?vA9) rfl (by kernel_rfl) ?qA9 rfl hS0 ?yA9 ?rA9
 case yA9 => intro wS h; obtain ⟨q0, q1, q2, q3⟩ := fSA.out wS h; clear h; go_simp; try rfl
 case qA9 => exact fun _ _ _ h => h
 dsimp only [Act.put]
 try simp only [puts]
 refine wpTx_take (v := ?vA10) rfl (by kernel_rfl) ?qA10 rfl hS0 ?yA10 ?rA10
 case yA10 => intro wS h; obtain ⟨q0, q1, q2, q3⟩ := fSA.out wS h; clear h; go_simp; try rfl
 case qA10 => exact fun _ _ _ h => h
 dsimp only [Act.put]
 try simp only [puts]
 refine wpTx_take (v := ?vA11) rfl (by kernel_rfl) ?qA11 rfl hS0 ?yA11 ?rA11
 case yA11 => intro wS h; obtain ⟨q0, q1, q2, q3⟩ := fSA.out wS h; clear h; go_simp; try rfl
 case qA11 => exact fun _ _ _ h => h
 dsimp only [Act.put]
 try simp only [puts]
 refine wpTx_take (v := ?vA12) rfl (by kernel_rfl) ?qA12 rfl hS0 ?yA12 ?rA12
 case yA12 => intro wS h; obtain ⟨q0, q1, q2, q3⟩ := fSA.out wS h; clear h; go_simp; try rfl
 case qA12 => exact fun _ _ _ h => h
 dsimp only [Act.put]
 try simp only [puts]
 try clear fSA
 clear hwr hwr8
 refine wpTx_step (o := ?oA13) (rest := ?rsA13) ?hoA13 ?hrA13 ?stA13
 case hoA13 => rfl
 case hrA13 => kernel_rfl
 case' stA13 =>
 intro KS hKS
 go_simp
 refine hKS.out _ _ (fun _ => (But.alloc _ _ _).trans (But.drew _ _)) ?_
 clear hKS KS
 have hcv := conv2d (65 + (x.a : Int)) (E.toNat : Int) C E HCX.out rfl
 refine wpTx_step (o := ?oA14) (rest := ?rsA14) ?hoA14 ?hrA14 ?stA14
 case hoA14 => rfl
 case hrA14 => kernel_rfl
 case' stA14 =>
 intro KS hKS
 go_simp
 refine hKS.out _ _ (fun _ => (But.alloc _ _ _).trans (But.drew _ _)) ?_
 clear hKS KS
 refine wpTx_step (o := ?oA15) (rest := ?rsA15) ?hoA15 ?hrA15 ?stA15
 case hoA15 => rfl
 case hrA15 => kernel_rfl
 case' stA15 =>
 intro KS hKS
 go_simp
 refine hKS.out _ _ (fun h => absurd h (by decide)) ?_
 clear hKS KS
 refine wpTx_done rfl (by kernel_rfl) ?_
 go_wp2_with fail
 go_ret
 exact ⟨rfl, hB0.trans ((But.alloc _ _ _).trans (But.drew _ _))⟩
set_option maxHeartbeats 1600000 in
set_option maxRecDepth 100000 in
theorem pops_t (bi : Nat) (im : Img) (bd : Bod) (ak : Option Addr) (n capk : Nat) (x : Ins) (w : World) (hI : ImgAt w bi im) (hW : WfI im) (hbd : WfB im.classes im.sigs bd) (hx : WfX im.classes im.sigs.length bd.locals.length x) (hv : x.op.toNat = 116) :
  Calls Tryz.prog 137 #[.pointer (some ⟨bi, 0, none⟩), .agg #[.int .i64 bd.cls, .int .i64 bd.meth, .string ⟨bd.locals.toArray⟩, .slice ak n capk, .slice none 0 0], .agg #[.int .u8 x.op.toNat, .int .i64 x.a, .int .i64 x.b, .int .i64 x.pos]] w fun en w' => en = .returned (.string ⟨(popsT im.classes im.sigs bd x).toArray⟩) ∧ But (fun _ => False) w w' := by
 have hres : popsT im.classes im.sigs bd x = if bd.cls < 0 then [105] else [retT im.sigs bd.meth.toNat] := by simp [popsT, hv, arith]
 rw [hres]
 clear hres
 have t119 : ((x.op.toNat : Int) == 119) = false := by rw [beq_eq_false_iff_ne]; omega
 have t102 : ((x.op.toNat : Int) == 102) = false := by rw [beq_eq_false_iff_ne]; omega
 have t43 : ((x.op.toNat : Int) == 43) = false := by rw [beq_eq_false_iff_ne]; omega
 have t45 : ((x.op.toNat : Int) == 45) = false := by rw [beq_eq_false_iff_ne]; omega
 have t42 : ((x.op.toNat : Int) == 42) = false := by rw [beq_eq_false_iff_ne]; omega
 have t47 : ((x.op.toNat : Int) == 47) = false := by rw [beq_eq_false_iff_ne]; omega
 have t60 : ((x.op.toNat : Int) == 60) = false := by rw [beq_eq_false_iff_ne]; omega
 have t61 : ((x.op.toNat : Int) == 61) = false := by rw [beq_eq_false_iff_ne]; omega
 have t103 : ((x.op.toNat : Int) == 103) = false := by rw [beq_eq_false_iff_ne]; omega
 have t112 : ((x.op.toNat : Int) == 112) = false := by rw [beq_eq_false_iff_ne]; omega
 have t99 : ((x.op.toNat : Int) == 99) = false := by rw [beq_eq_false_iff_ne]; omega
 have t116 : ((x.op.toNat : Int) == 116) = true := by rw [beq_iff_eq]; omega
 clear hv
 by_cases hcl : bd.cls < 0
 ·rw [if_pos hcl]
  go_enter Tryz.func137, Tryz.ntmps137
  go_wp2_with fail
  go_ret
  exact ⟨rfl, (But.alloc _ _ _).trans (But.alloc _ _ _)⟩
 rw [if_neg hcl]
 have hme : 0 ≤ bd.meth ∧ bd.meth < im.sigs.length := by
  rcases hbd.cls with h | h
  ·omega
  ·exact ⟨h.2.2.1, h.2.2.2⟩
 obtain ⟨mn, hmn⟩ := Int.eq_ofNat_of_zero_le hme.1
 have hml : mn < im.sigs.length := by omega
 rw [show retT im.sigs bd.meth.toNat = retT im.sigs mn from by rw [hmn, Int.toNat_natCast]]
 have HMN : Hid (bd.meth = (mn : Int)) := hmn
 generalize hEe : retT im.sigs mn = E
 have HEE : Hid (retT im.sigs mn = E) := hEe
 clear hEe
 clear hmn hme
 go_enter Tryz.func137, Tryz.ntmps137
 go_wp2_with fail
 have hB0 : But (fun _ => False) w ((w.alloc (.cells #[.int .i64 bd.cls, .int .i64 bd.meth, .string ⟨bd.locals.toArray⟩, .slice ak n capk, .slice none 0 0] 52)).alloc (.cells #[.int .u8 x.op.toNat, .int .i64 x.a, .int .i64 x.b, .int .i64 x.pos] 144)) := (But.alloc _ _ _).trans (But.alloc _ _ _)
 have hgI : ((w.alloc (.cells #[.int .i64 bd.cls, .int .i64 bd.meth, .string ⟨bd.locals.toArray⟩, .slice ak n capk, .slice none 0 0] 52)).alloc (.cells #[.int .u8 x.op.toNat, .int .i64 x.a, .int .i64 x.b, .int .i64 x.pos] 144)).heap[w.heap.size + 1]? = some (.cells #[.int .u8 x.op.toNat, .int .i64 x.a, .int .i64 x.b, .int .i64 x.pos] 144) := heap_alloc_at (by simp) _
 have hgB : ((w.alloc (.cells #[.int .i64 bd.cls, .int .i64 bd.meth, .string ⟨bd.locals.toArray⟩, .slice ak n capk, .slice none 0 0] 52)).alloc (.cells #[.int .u8 x.op.toNat, .int .i64 x.a, .int .i64 x.b, .int .i64 x.pos] 144)).heap[w.heap.size]? = some (.cells #[.int .i64 bd.cls, .int .i64 bd.meth, .string ⟨bd.locals.toArray⟩, .slice ak n capk, .slice none 0 0] 52) := ((But.alloc (fun _ => False) (w.alloc (.cells #[.int .i64 bd.cls, .int .i64 bd.meth, .string ⟨bd.locals.toArray⟩, .slice ak n capk, .slice none 0 0] 52)) _).block w.heap.size (by simp) (fun h => h)).trans (heap_alloc_new w _)
 generalize ((w.alloc (.cells #[.int .i64 bd.cls, .int .i64 bd.meth, .string ⟨bd.locals.toArray⟩, .slice ak n capk, .slice none 0 0] 52)).alloc (.cells #[.int .u8 x.op.toNat, .int .i64 x.a, .int .i64 x.b, .int .i64 x.pos] 144)) = W at *
 have i1 : W.cell? ⟨w.heap.size + 1, 1, none⟩ = some (.int .i64 x.a) := by rw [cell_of_row W _ 1 _ _ (0, 0) hgI]; rfl
 have i2 : W.cell? ⟨w.heap.size + 1, 2, none⟩ = some (.int .i64 x.b) := by rw [cell_of_row W _ 2 _ _ (0, 0) hgI]; rfl
 have b0 : W.cell? ⟨w.heap.size, 0, none⟩ = some (.int .i64 bd.cls) := by rw [cell_of_row W _ 0 _ _ (0, 0) hgB]; rfl
 have b1 : W.cell? ⟨w.heap.size, 1, none⟩ = some (.int .i64 bd.meth) := by rw [cell_of_row W _ 1 _ _ (0, 0) hgB]; rfl
 have lI := lt_of_block hgI
 have lB := lt_of_block hgB
 have hIW := hI.but hB0
 rw [HMN.out] at b1
 obtain ⟨g, m, cap, d1, hm, hc, hc2, lbi, lg⟩ := hIW.sig.at hml
 rw [HEE.out] at hc2
 have hS0 : But (fun _ => False) W W.drew := But.drew _ _
 refine wpTx_begin (But (fun _ => False) W) 11 (by kernel_rfl) ?_
 have fSA := hid (fun wS (h : (But (fun _ => False) W) wS) => (And.intro ((h.cell (p := ⟨w.heap.size, 1, none⟩) lB (fun h => h)).trans b1) (And.intro ((h.cell (p := ⟨bi, 1, none⟩) lbi (fun h => h)).trans d1) ((h.cell (p := ⟨g, mn * 2 + 1, none⟩) lg (fun h => h)).trans hc2))))
 refine wpTx_take (v := ?vA0) rfl (by kernel_rfl) ?qA0 rfl hS0 ?yA0 ?rA0
 case yA0 => intro wS h; obtain ⟨q0, q1, q2⟩ := fSA.out wS h; clear h; go_simp; try rfl
 case qA0 => exact fun _ _ _ h => h
 dsimp only [Act.put]
 try simp only [puts]
 refine wpTx_take (v := ?vA1) rfl (by kernel_rfl) ?qA1 rfl hS0 ?yA1 ?rA1
 case yA1 => intro wS h; obtain ⟨q0, q1, q2⟩ := fSA.out wS h; clear h; go_simp; try rfl
 case qA1 => exact fun _ _ _ h => h
 dsimp only [Act.put]
 try simp only [puts]
 refine wpTx_take (v := ?vA2) rfl (by kernel_rfl) ?qA2 rfl hS0 ?yA2 ?rA2
 case yA2 => intro wS h; obtain ⟨q0, q1, q2⟩ := fSA.out wS h; clear h; go_simp; try rfl
 case qA2 => exact fun _ _ _ h => h
 dsimp only [Act.put]
 try simp only [puts]
 refine wpTx_take (v := ?vA3) rfl (by kernel_rfl) ?qA3 rfl hS0 ?yA3 ?rA3
 case yA3 => intro wS h; obtain ⟨q0, q1, q2⟩ := fSA.out wS h; clear h; go_simp; try rfl
 case qA3 => exact fun _ _ _ h => h
 dsimp only [Act.put]
 try simp only [puts]
 refine wpTx_take (v := ?vA4) rfl (by kernel_rfl) ?qA4 rfl hS0 ?yA4 ?rA4
 case yA4 => intro wS h; obtain ⟨q0, q1, q2⟩ := fSA.out wS h; clear h; go_simp; try rfl
 case qA4 => exact fun _ _ _ h => h
 dsimp only [Act.put]
 try simp only [puts]
 refine wpTx_take (v := ?vA5) rfl (by kernel_rfl) ?qA5 rfl hS0 ?yA5 ?rA5
 case yA5 => intro wS h; obtain ⟨q0, q1, q2⟩ := fSA.out wS h; clear h; go_simp; try rfl
 case qA5 => exact fun _ _ _ h => h
 dsimp only [Act.put]
 try simp only [puts]
 refine wpTx_take (v := ?vA6) rfl (by kernel_rfl) ?qA6 rfl hS0 ?yA6 ?rA6
 case yA6 => intro wS h; obtain ⟨q0, q1, q2⟩ := fSA.out wS h; clear h; go_simp; try rfl
 case qA6 => exact fun _ _ _ h => h
 dsimp only [Act.put]
 try simp only [puts]
 refine wpTx_take (v := ?vA7) rfl (by kernel_rfl) ?qA7 rfl hS0 ?yA7 ?rA7
 case yA7 => intro wS h; obtain ⟨q0, q1, q2⟩ := fSA.out wS h; clear h; go_simp; try rfl
 case qA7 => exact fun _ _ _ h => h
 dsimp only [Act.put]
 try simp only [puts]
 refine wpTx_take (v := ?vA8) rfl (by kernel_rfl) ?qA8 rfl hS0 ?yA8 ?rA8
 case yA8 => intro wS h; obtain ⟨q0, q1, q2⟩ := fSA.out wS h; clear h; go_simp; try rfl
 case qA8 => exact fun _ _ _ h => h
 dsimp only [Act.put]
 try simp only [puts]
 try clear fSA
 refine wpTx_step (o := ?oA9) (rest := ?rsA9) ?hoA9 ?hrA9 ?stA9
 case hoA9 => rfl
 case hrA9 => kernel_rfl
 case' stA9 =>
 intro KS hKS
 go_simp
 refine hKS.out _ _ (fun _ => (But.alloc _ _ _).trans (But.drew _ _)) ?_
 clear hKS KS
 have hcv := conv1d (E.toNat : Int) E rfl
 refine wpTx_step (o := ?oA10) (rest := ?rsA10) ?hoA10 ?hrA10 ?stA10
 case hoA10 => rfl
 case hrA10 => kernel_rfl
 case' stA10 =>
 intro KS hKS
 go_simp
 refine hKS.out _ _ (fun _ => (But.alloc _ _ _).trans (But.drew _ _)) ?_
 clear hKS KS
 refine wpTx_step (o := ?oA11) (rest := ?rsA11) ?hoA11 ?hrA11 ?stA11
 case hoA11 => rfl
 case hrA11 => kernel_rfl
 case' stA11 =>
 intro KS hKS
 go_simp
 refine hKS.out _ _ (fun h => absurd h (by decide)) ?_
 clear hKS KS
 refine wpTx_done rfl (by kernel_rfl) ?_
 go_wp2_with fail
 go_ret
 exact ⟨rfl, hB0.trans ((But.alloc _ _ _).trans (But.drew _ _))⟩
set_option maxHeartbeats 1600000 in
set_option maxRecDepth 100000 in
theorem pops_no (bi : Nat) (im : Img) (bd : Bod) (ak : Option Addr) (n capk : Nat) (x : Ins) (w : World) (hI : ImgAt w bi im) (hW : WfI im) (hbd : WfB im.classes im.sigs bd) (hx : WfX im.classes im.sigs.length bd.locals.length x) (hv : x.op.toNat ≠ 119 ∧ x.op.toNat ≠ 102 ∧ x.op.toNat ≠ 43 ∧ x.op.toNat ≠ 45 ∧ x.op.toNat ≠ 42 ∧ x.op.toNat ≠ 47 ∧ x.op.toNat ≠ 60 ∧ x.op.toNat ≠ 61 ∧ x.op.toNat ≠ 103 ∧ x.op.toNat ≠ 112 ∧ x.op.toNat ≠ 99 ∧ x.op.toNat ≠ 116) :
  Calls Tryz.prog 137 #[.pointer (some ⟨bi, 0, none⟩), .agg #[.int .i64 bd.cls, .int .i64 bd.meth, .string ⟨bd.locals.toArray⟩, .slice ak n capk, .slice none 0 0], .agg #[.int .u8 x.op.toNat, .int .i64 x.a, .int .i64 x.b, .int .i64 x.pos]] w fun en w' => en = .returned (.string ⟨(popsT im.classes im.sigs bd x).toArray⟩) ∧ But (fun _ => False) w w' := by
 have hres : popsT im.classes im.sigs bd x = [] := by simp [popsT, arith, hv.1, hv.2.1, hv.2.2.1, hv.2.2.2.1, hv.2.2.2.2.1, hv.2.2.2.2.2.1, hv.2.2.2.2.2.2.1, hv.2.2.2.2.2.2.2.1, hv.2.2.2.2.2.2.2.2.1, hv.2.2.2.2.2.2.2.2.2.1, hv.2.2.2.2.2.2.2.2.2.2.1, hv.2.2.2.2.2.2.2.2.2.2.2]
 rw [hres]
 clear hres
 have t119 : ((x.op.toNat : Int) == 119) = false := by rw [beq_eq_false_iff_ne]; omega
 have t102 : ((x.op.toNat : Int) == 102) = false := by rw [beq_eq_false_iff_ne]; omega
 have t43 : ((x.op.toNat : Int) == 43) = false := by rw [beq_eq_false_iff_ne]; omega
 have t45 : ((x.op.toNat : Int) == 45) = false := by rw [beq_eq_false_iff_ne]; omega
 have t42 : ((x.op.toNat : Int) == 42) = false := by rw [beq_eq_false_iff_ne]; omega
 have t47 : ((x.op.toNat : Int) == 47) = false := by rw [beq_eq_false_iff_ne]; omega
 have t60 : ((x.op.toNat : Int) == 60) = false := by rw [beq_eq_false_iff_ne]; omega
 have t61 : ((x.op.toNat : Int) == 61) = false := by rw [beq_eq_false_iff_ne]; omega
 have t103 : ((x.op.toNat : Int) == 103) = false := by rw [beq_eq_false_iff_ne]; omega
 have t112 : ((x.op.toNat : Int) == 112) = false := by rw [beq_eq_false_iff_ne]; omega
 have t99 : ((x.op.toNat : Int) == 99) = false := by rw [beq_eq_false_iff_ne]; omega
 have t116 : ((x.op.toNat : Int) == 116) = false := by rw [beq_eq_false_iff_ne]; omega
 clear hv
 go_enter Tryz.func137, Tryz.ntmps137
 go_wp2_with fail
 go_ret
 exact ⟨rfl, (But.alloc _ _ _).trans (But.alloc _ _ _)⟩
set_option maxHeartbeats 1600000 in
set_option maxRecDepth 100000 in
theorem pops_any (bi : Nat) (im : Img) (bd : Bod) (ak : Option Addr) (n capk : Nat) (x : Ins) (w : World) (hI : ImgAt w bi im) (hW : WfI im) (hbd : WfB im.classes im.sigs bd) (hx : WfX im.classes im.sigs.length bd.locals.length x) (hdummy : True) :
  Calls Tryz.prog 137 #[.pointer (some ⟨bi, 0, none⟩), .agg #[.int .i64 bd.cls, .int .i64 bd.meth, .string ⟨bd.locals.toArray⟩, .slice ak n capk, .slice none 0 0], .agg #[.int .u8 x.op.toNat, .int .i64 x.a, .int .i64 x.b, .int .i64 x.pos]] w fun en w' => en = .returned (.string ⟨(popsT im.classes im.sigs bd x).toArray⟩) ∧ But (fun _ => False) w w' := by
 by_cases h1 : x.op.toNat = 119 ∨ x.op.toNat = 102
 ·exact pops_wf bi im bd ak n capk x w hI hW hbd hx h1
 by_cases h2 : x.op.toNat = 43 ∨ x.op.toNat = 45 ∨ x.op.toNat = 42 ∨ x.op.toNat = 47 ∨ x.op.toNat = 60 ∨ x.op.toNat = 61
 ·exact pops_ar bi im bd ak n capk x w hI hW hbd hx h2
 by_cases h3 : x.op.toNat = 103
 ·exact pops_g bi im bd ak n capk x w hI hW hbd hx h3
 by_cases h4 : x.op.toNat = 112
 ·exact pops_p bi im bd ak n capk x w hI hW hbd hx h4
 by_cases h5 : x.op.toNat = 99
 ·exact pops_c bi im bd ak n capk x w hI hW hbd hx h5
 by_cases h6 : x.op.toNat = 116
 ·exact pops_t bi im bd ak n capk x w hI hW hbd hx h6
 exact pops_no bi im bd ak n capk x w hI hW hbd hx (by omega)
end Go.Proofs.YtpfkkmacakjmbaaGreatDoor
