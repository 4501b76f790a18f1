import Derived.Test.YtpfkkmacakjmbaaGreatDoorP27
import Derived.Test.YtpfkkmacakjmbaaGreatDoorP01
import Derived.Deep.Cut
set_option maxRecDepth 100000
set_option maxHeartbeats 6400000
namespace Go.Proofs.YtpfkkmacakjmbaaGreatDoor
open Go Go.RowKit Sp
set_option linter.unusedSimpArgs false
set_option linter.unusedVariables false
attribute [local go_sem ↓] Go.wp_at_zero Go.wp_at_succ
theorem vK_z : ((V.z).K : Int) = 122 := rfl
theorem vN_z : (V.z).N = 0 := rfl
theorem vK_o {k : Nat} : ((V.o k).K : Int) = 111 := rfl
theorem vN_o {k : Nat} : (V.o k).N = (k : Int) := rfl
def TreeAt (w0 : World) (b : Bod) (vt : Value) : Prop := ∃ ak capk, vt = .slice ak b.code.length capk ∧ w0.ownsRow 0 147 5 vt b.code.length (ndCells (endsN 0 b.code))
def bodAgg (b : Bod) (vt : Value) : Value := .agg #[.int .i64 b.cls, .int .i64 b.meth, .string ⟨b.locals.toArray⟩, .slice none 0 0, vt]
def NodeD (im : Img) (inp : ByteArray) (w0 : World) (bw bi f : Nat) : Prop :=
 ∀ (b : Bod) (d i : Nat) (l : List V) (s : Ev) (t : UInt8) (F B : Nat) (P : Nat → Prop) (w : World) (lv hv : Value) (fv : List Value) (vt : Value), b ∈ im.bodies → d ≤ 12 → typN im.classes im.sigs b.locals b.code F i = some t → LT im.classes s.heap b.locals l → StT im B s → s.left ≤ f → StX P w0 w bw bi inp d s lv l hv fv → TreeAt w0 b vt →
  Calls Tryz.prog 74 #[.pointer (some ⟨bw, 0, none⟩), bodAgg b vt, .int .i64 i, lv] w fun en w' => But (FrD P w0) w w' ∧ ResD P w0 bw bi inp d lv (nodV im inp f b d i l s) en w'
theorem ImgS.body {w : World} {bi : Nat} {im : Img} (h : ImgS w bi im) {k : Nat} {b : Bod} (hk : im.bodies[k]? = some b) :
  ∃ (g cap : Nat) (vt : Value), w.cell? ⟨bi, 2, none⟩ = some (.slice (some ⟨g, 0, none⟩) im.bodies.length cap) ∧ k < im.bodies.length ∧ bi < w.heap.size ∧ g < w.heap.size ∧ TreeAt w b vt ∧ w.cell? ⟨g, k * 5, none⟩ = some (.int .i64 b.cls) ∧ w.cell? ⟨g, k * 5 + 1, none⟩ = some (.int .i64 b.meth) ∧ w.cell? ⟨g, k * 5 + 2, none⟩ = some (.string ⟨b.locals.toArray⟩) ∧ w.cell? ⟨g, k * 5 + 3, none⟩ = some (.slice none 0 0) ∧ w.cell? ⟨g, k * 5 + 4, none⟩ = some vt := by
 obtain ⟨v0, v1, v2, l, hIm, hC, hS, hB, hl, hcd⟩ := h
 have hkl := (List.getElem?_eq_some_iff.1 hk).1
 have hll : l.length = im.bodies.length := by rw [← hl]; simp
 obtain ⟨a2, cap2, rfl⟩ := owns_len hB
 obtain ⟨g, rfl, hg1, hg2, hcell⟩ := owns_two hB (by omega)
 have hx := List.getElem?_eq_getElem (show k < l.length by omega)
 have hb : l[k].1 = b := by
  have h1 : (l.map (·.1))[k]? = im.bodies[k]? := by rw [hl]
  rw [List.getElem?_map, hx, hk] at h1
  simpa using h1
 obtain ⟨hok, htr⟩ := hcd _ (List.getElem_mem (show k < l.length by omega))
 obtain ⟨ak, capk, hv⟩ := owns_len hok
 have c2 := hIm.c2
 rw [hll] at c2
 refine ⟨g, cap2, l[k].2.2, c2, hkl, hIm.lt, hg1, ⟨ak, capk, by rw [← hb]; exact hv, by rw [← hb]; exact hok⟩, ?_, ?_, ?_, ?_, hcell _ _ (bodCells_at4 hx)⟩
 ·rw [← hb]; exact hcell _ _ (bodCells_at0 hx)
 ·rw [← hb]; exact hcell _ _ (bodCells_at1 hx)
 ·rw [← hb]; exact hcell _ _ (bodCells_at2 hx)
 ·rw [← htr]; exact hcell _ _ (bodCells_at3 hx)
def callV (im : Img) (inp : ByteArray) (f d : Nat) (x : Ins) (u v : V) (l : List V) (s : Ev) : R := match u with
 | .o k => if 12 ≤ d then .bad 10 s.out else
  match nodV im inp f (calleeV im x k s) (d + 1) 0 (localsV (calleeV im x k s) [u, v]) s with
  | .bad e o => .bad e o
  | .ok r _ s => .ok r l s
 | _ => .bad 6 s.out
theorem call_any {B f : Nat} (P : Nat → Prop) (w0 w : World) (bw bi d : Nat) (inp : ByteArray) (s : Ev) (lv hv : Value) (l : List V) (fv : List Value) (im : Img) (hI : ImgS w0 bi im) (hR : Ready im) (IH : NodeD im inp w0 bw bi f) (hst : StX P w0 w bw bi inp d s lv l hv fv) (hs : StT im B s) (hsf : s.left ≤ f) (hd : d ≤ 12) (x : Ins) (e : Nat) (hxa : x.a < im.classes.length) (hxb : x.b < im.sigs.length) (hlk : 0 ≤ findF im.classes im.bodies x.b 5 x.a) (u v : V) (hu : VT im.classes s.heap (clsT x.a) u) (hv' : VT im.classes s.heap (argT im.sigs x.b) v) :
  Calls Tryz.prog 187 #[.pointer (some ⟨bw, 0, none⟩), .agg #[.int .u8 x.op.toNat, .int .i64 x.a, .int .i64 x.b, .int .i64 x.pos, .int .i64 e], .agg #[.int .u8 u.K, .int .i64 u.N], .agg #[.int .u8 v.K, .int .i64 v.N]] w fun en w' => But (FrD P w0) w w' ∧ ResD P w0 bw bi inp d lv (callV im inp f d x u v l s) en w' := by
 have hbl := hst.blt
 have hW := hR.wf
 have hn4 := hW.nc
 obtain ⟨hC, hC2⟩ := clsT_C (a := x.a) (by omega)
 rcases hu.ref (isR_of_C hC) with rfl | ⟨k, ob, rfl, hk, _, hun⟩
 ·simp only [callV]
  have c7 := hst.wk.c7
  have z7 := hst.wk.fz 7
  have hgA : bw < w.heap.size + 1 := by omega
  have hgB : bw < w.heap.size + 1 + 1 := by omega
  have hgC : bw < w.heap.size + 1 + 1 + 1 := by omega
  simp only [vK_z, vN_z]
  go_enter Tryz.func187, Tryz.ntmps187
  go_wp2_with fail
  exact end_no Tryz.results187 rfl rfl (hst.wk.set7 6) rfl (but_w hst (But.setB _ _ _ _)) ((((But.alloc _ _ _).trans (But.alloc _ _ _)).trans (But.alloc _ _ _)).trans (But.alloc _ _ _)) (heap_alloc_at (by simp [size_setCell]) _)
 ·by_cases hd12 : 12 ≤ d
  ·rw [show callV im inp f d x (.o k) v l s = .bad 10 s.out from by simp [callV, hd12]]
   have c5 := hst.wk.c5
   have c7 := hst.wk.c7
   have z7 := hst.wk.fz 7
   have hgA : bw < w.heap.size + 1 := by omega
   have hgB : bw < w.heap.size + 1 + 1 := by omega
   have hgC : bw < w.heap.size + 1 + 1 + 1 := by omega
   have hdI : (12 : Int) ≤ (d : Int) := by omega
   simp only [vK_o, vN_o]
   go_enter Tryz.func187, Tryz.ntmps187
   go_wp2_with fail
   exact end_no Tryz.results187 rfl rfl (hst.wk.set7 10) rfl (but_w hst (But.setB _ _ _ _)) ((((But.alloc _ _ _).trans (But.alloc _ _ _)).trans (But.alloc _ _ _)).trans (But.alloc _ _ _)) (heap_alloc_at (by simp [size_setCell]) _)
  ·have hdI : ¬ (12 : Int) ≤ (d : Int) := by omega
   have hd1 : d + 1 ≤ 12 := by omega
   have hbr : ¬ w.heap.size + 1 + 1 + 1 = bw := by omega
   rw [hC2] at hun
   obtain ⟨hf0, hbk, hbm, hme, hcl, hl2, hLT⟩ := callee_typed hR hs hk hxa hxb hun hlk hv'
   obtain ⟨cb, hcb⟩ : ∃ cb, calleeV im x k s = cb := ⟨_, rfl⟩
   obtain ⟨RR, hRR⟩ : ∃ RR, callV im inp f d x (.o k) v l s = RR := ⟨_, rfl⟩
   have HR : Hid (RR = match nodV im inp f cb (d + 1) 0 (localsV cb [.o k, v]) s with | .bad e o => .bad e o | .ok r _ s => .ok r l s) := by
    show _ = _
    rw [← hRR, ← hcb]
    simp only [callV, hd12, if_false]
   rw [hRR]
   rw [hcb] at hbk hbm hme hcl hl2 hLT
   clear hRR hcb
   have hfl : (findF im.classes im.bodies x.b 5 (s.cls k)).toNat < im.bodies.length := (List.getElem?_eq_some_iff.1 hbk).1
   obtain ⟨jb, hjb⟩ : ∃ jb : Nat, findF im.classes im.bodies x.b 5 (s.cls k) = jb := ⟨_, (Int.toNat_of_nonneg hf0).symm⟩
   rw [hjb] at hbk hfl
   simp only [Int.toNat_natCast] at hbk hfl
   obtain ⟨gb, capb, vt, b2, hbl2, hbi, hgb, hT, b0, b1, b2', b3, b4⟩ := hI.body hbk
   obtain ⟨gh, cph, af, cf, rfl, hkl, hfk, hgl, o0, o1⟩ := hst.obj hk
   have hcls := hs.ht.cls k ob hk
   have hfd := fun w hI => find_any bi im ob.cls x.b w hI hW.cls hn4 hW.nb (by omega) (by omega)
   rw [(Ev.at hk).1] at hjb
   rw [hjb] at hfd
   have HFD := hid hfd
   clear hfd hjb
   have c0 := hst.wk.c0
   have c1 := hst.wk.c1
   have c5 := hst.wk.c5
   obtain ⟨W, hWW⟩ : ∃ W, (((w.alloc (.cells #[.int .u8 x.op.toNat, .int .i64 x.a, .int .i64 x.b, .int .i64 x.pos, .int .i64 e] 147)).alloc (.cells #[.int .u8 111, .int .i64 k] 135)).alloc (.cells #[.int .u8 v.K, .int .i64 v.N] 135)).alloc (.cells #[.int .u8 0, .int .i64 0] 135) = W := ⟨_, rfl⟩
   have hBW : But (fun _ => False) w W := by rw [← hWW]; exact (((But.alloc _ _ _).trans (But.alloc _ _ _)).trans (But.alloc _ _ _)).trans (But.alloc _ _ _)
   have hgN : W.heap[w.heap.size]? = some (.cells #[.int .u8 x.op.toNat, .int .i64 x.a, .int .i64 x.b, .int .i64 x.pos, .int .i64 e] 147) := by rw [← hWW]; exact ((((But.alloc (fun _ => False) _ _).trans (But.alloc _ _ _)).trans (But.alloc _ _ _)).block _ (by simp) (fun h => h)).trans (heap_alloc_new w _)
   have hgO : W.heap[w.heap.size + 1]? = some (.cells #[.int .u8 111, .int .i64 k] 135) := by rw [← hWW]; exact (((But.alloc (fun _ => False) _ _).trans (But.alloc _ _ _)).block _ (by simp) (fun h => h)).trans (heap_alloc_at (by simp) _)
   have hgV : W.heap[w.heap.size + 1 + 1]? = some (.cells #[.int .u8 v.K, .int .i64 v.N] 135) := by rw [← hWW]; exact ((But.alloc (fun _ => False) _ _).block _ (by simp) (fun h => h)).trans (heap_alloc_at (by simp) _)
   have hgR : W.heap[w.heap.size + 1 + 1 + 1]? = some (.cells #[.int .u8 0, .int .i64 0] 135) := by rw [← hWW]; exact heap_alloc_at (by simp) _
   have hsW := hst.grow hBW
   have hrr : ResB W (w.heap.size + 1 + 1 + 1) := ⟨0, 0, hgR⟩
   have hgW := lt_of_block hgR
   have HWW := hid hWW
   clear hWW
   have hgA : bw < w.heap.size + 1 := by omega
   have hgB : bw < w.heap.size + 1 + 1 := by omega
   have hgC : bw < w.heap.size + 1 + 1 + 1 := by omega
   simp only [vK_o, vN_o]
   go_enter Tryz.func187, Tryz.ntmps187
   go_wp2_with fail
   rw [HWW.out]
   clear HWW
   have hBi : But (fun _ => False) w0 W := hsW.old
   have e0 := (hBi.cell (p := ⟨bi, 2, none⟩) hbi (fun h => h)).trans b2
   have f0 := (hBi.cell (p := ⟨gb, jb * 5, none⟩) hgb (fun h => h)).trans b0
   have f1 := (hBi.cell (p := ⟨gb, jb * 5 + 1, none⟩) hgb (fun h => h)).trans b1
   have f2 := (hBi.cell (p := ⟨gb, jb * 5 + 2, none⟩) hgb (fun h => h)).trans b2'
   have f3 := (hBi.cell (p := ⟨gb, jb * 5 + 3, none⟩) hgb (fun h => h)).trans b3
   have f4 := (hBi.cell (p := ⟨gb, jb * 5 + 4, none⟩) hgb (fun h => h)).trans b4
   obtain ⟨ak, capk, rfl, hTr⟩ := hT
   have c0 := hsW.wk.c0
   have c1 := hsW.wk.c1
   have d2 := (hBW.cell (p := ⟨gh, k * 2, none⟩) hgl (fun h => h)).trans o0
   have n2 : W.cell? ⟨w.heap.size, 2, none⟩ = some (.int .i64 x.b) := by rw [cell_of_row W _ 2 _ _ (0, 0) hgN]; rfl
   have v1 : W.cell? ⟨w.heap.size + 1, 1, none⟩ = some (.int .i64 k) := by rw [cell_of_row W _ 1 _ _ (0, 0) hgO]; rfl
   have hS0 : But (fun _ => False) W W.drew := But.drew _ _
   have hsz := hBW.size
   have hsz0 := hBi.size
   have m1 : w.heap.size < W.heap.size := by omega
   have m2 : w.heap.size + 1 < W.heap.size := by omega
   have m4 : gh < W.heap.size := by omega
   have m5 : bw < W.heap.size := by omega
   have m6 : bi < W.heap.size := by omega
   have m7 : gb < W.heap.size := by omega
   have hkI : (k : Int) < (s.heap.length : Int) := by omega
   have hjI : (jb : Int) < (im.bodies.length : Int) := by omega
   have hIH := (hI.but (hsW.new hS0).old).hds
   have hIH2 := fun o => ((hI.but ((hsW.new hS0).new (But.alloc (fun _ => False) W.drew o)).old)).hds
   have HG := hid (And.intro hgN (And.intro hgO (And.intro hgV hgR)))
   have HF := hid (And.intro f0 (And.intro f1 (And.intro f2 (And.intro f3 f4))))
   have HM := hid (And.intro hme (And.intro hbk (And.intro hk hfk)))
   clear hgN hgO hgV hgR f0 f1 f2 f3 f4 hme hbk hk hfk b0 b1 b2 b2' b3 b4 o0 o1 hC2 hC hun hu hf0 hlk c5
   have HC := hid (And.intro c0 (And.intro c1 (And.intro d2 (And.intro n2 (And.intro v1 e0)))))
   clear c0 c1 d2 n2 v1 e0
   go_cut [9] from 12 (fun s9 wc => s9 = .pointer (some ⟨W.heap.size, 0, none⟩) ∧ But (fun _ => False) W wc ∧ wc.heap[W.heap.size]? = some (.cells #[.int .i64 cb.cls, .int .i64 cb.meth, .string ⟨cb.locals.toArray⟩, .slice none 0 0, .slice ak cb.code.length capk] 52))
   case first =>
    obtain ⟨c0, c1, d2, n2, v1, e0⟩ := HC.out
    refine wpTx_begin (But (fun _ => False) W) 26 (by kernel_rfl) ?_
    have fSA := hid (fun wS (h : (But (fun _ => False) W) wS) => (And.intro ((h.cell (p := ⟨bw, 0, none⟩) m5 (fun h => h)).trans c0) (And.intro ((h.cell (p := ⟨bw, 1, none⟩) m5 (fun h => h)).trans c1) (And.intro ((h.cell (p := ⟨gh, k * 2, none⟩) m4 (fun h => h)).trans d2) (And.intro ((h.cell (p := ⟨w.heap.size, 2, none⟩) m1 (fun h => h)).trans n2) (And.intro ((h.cell (p := ⟨w.heap.size + 1, 1, none⟩) m2 (fun h => h)).trans v1) ((h.cell (p := ⟨bi, 2, none⟩) m6 (fun h => h)).trans e0)))))))
    iterate 22 (refine wpTx_take (v := ?_) rfl (by kernel_rfl) (fun _ _ _ h => h) rfl hS0 ?_ ?_; rotate_left; (focus (intro wS h; obtain ⟨q0, q1, q2, q3, q4, q5⟩ := fSA.out wS h; clear h; go_simp; try rfl)); dsimp only [Act.put]; try simp only [puts])
    try clear fSA
    obtain ⟨f0, f1, f2, f3, f4⟩ := HF.out
    clear c0 c1 d2 n2 v1 e0
    refine wpTx_fork (q := 25) (o := ?oA22) (oq := ?oqA22) (rest := ?rsA22) (restq := ?rqA22) ?hoA22 ?hqA22 ?hrA22 ?stA22 ?sqA22
    case hoA22 => rfl
    case hqA22 => rfl
    case hrA22 => kernel_rfl
    case' stA22 =>
     intro KS hKS
     go_simp
     refine (HFD.out _ hIH).mono ?_
     rintro en wx ⟨rfl, hwx⟩
     rw [hwx]
     clear hwx wx
     refine hKS.out _ _ (fun _ => hS0) ?_
     clear hKS KS
     have fSB := hid (fun wS (h : (But (fun _ => False) W) wS) => (And.intro ((h.cell (p := ⟨gb, jb * 5, none⟩) m7 (fun h => h)).trans f0) (And.intro ((h.cell (p := ⟨gb, jb * 5 + 1, none⟩) m7 (fun h => h)).trans f1) (And.intro ((h.cell (p := ⟨gb, jb * 5 + 2, none⟩) m7 (fun h => h)).trans f2) (And.intro ((h.cell (p := ⟨gb, jb * 5 + 3, none⟩) m7 (fun h => h)).trans f3) ((h.cell (p := ⟨gb, jb * 5 + 4, none⟩) m7 (fun h => h)).trans f4))))))
     iterate 2 (refine wpTx_take (v := ?_) rfl (by kernel_rfl) (fun _ _ _ h => h) rfl hS0 ?_ ?_; rotate_left; (focus (intro wS h; obtain ⟨q0, q1, q2, q3, q4⟩ := fSB.out wS h; clear h; go_simp; try rfl)); dsimp only [Act.put]; try simp only [puts])
     try clear fSB
     clear f0 f1 f2 f3 f4
     refine wpTx_step rfl (by kernel_rfl) ?_
     intro KS hKS
     go_simp
     refine hKS.out _ _ (fun _ => (But.alloc _ _ _).trans (But.drew _ _)) ?_
     clear hKS KS
     refine wpTx_step rfl (by kernel_rfl) ?_
     intro KS hKS
     go_simp
     refine hKS.out _ _ (fun h => absurd h (by decide)) ?_
     clear hKS KS
     refine wpTx_done rfl (by kernel_rfl) ?_
     go_wp2_with fail
     go_meet
     case rel => exact ⟨rfl, (But.alloc _ _ _).trans (But.drew _ _), heap_alloc_new _ _⟩
    case' sqA22 =>
     intro KS hKS
     go_simp
     refine hKS.out _ _ (fun _ => (But.alloc _ _ _).trans (But.drew _ _)) ?_
     clear hKS KS
     refine wpTy_step rfl (by kernel_rfl) (by kernel_rfl) ?_
     intro KS hKS
     go_simp
     have hS2 : But (fun _ => False) W (W.alloc (.cells #[.int .i64 0, .int .i64 0, .string ⟨#[]⟩, .slice none 0 0, .slice none 0 0] 52)).drew := (But.alloc _ _ _).trans (But.drew _ _)
     refine (HFD.out _ (hI.but (hsW.new hS2).old).hds).mono ?_
     rintro en wx ⟨rfl, hwx⟩
     rw [hwx]
     clear hwx wx
     refine hKS.out _ _ (fun _ => hS2) ?_
     clear hKS KS
     have fSC := hid (fun wS (h : (But (fun _ => False) W) wS) => (And.intro ((h.cell (p := ⟨gb, jb * 5, none⟩) m7 (fun h => h)).trans f0) (And.intro ((h.cell (p := ⟨gb, jb * 5 + 1, none⟩) m7 (fun h => h)).trans f1) (And.intro ((h.cell (p := ⟨gb, jb * 5 + 2, none⟩) m7 (fun h => h)).trans f2) (And.intro ((h.cell (p := ⟨gb, jb * 5 + 3, none⟩) m7 (fun h => h)).trans f3) ((h.cell (p := ⟨gb, jb * 5 + 4, none⟩) m7 (fun h => h)).trans f4))))))
     iterate 2 (refine wpTy_take (v := ?_) rfl (by kernel_rfl) (fun _ _ _ h => h) rfl hS2 ?_ ?_; rotate_left; (focus (intro wS h; obtain ⟨q0, q1, q2, q3, q4⟩ := fSC.out wS h; clear h; go_simp; try rfl)); dsimp only [Act.put]; try simp only [puts])
     try clear fSC
     clear f0 f1 f2 f3 f4
     refine wpTy_past ?_
     refine wpTx_step rfl (by kernel_rfl) ?_
     intro KS hKS
     go_simp
     refine hKS.out _ _ (fun h => absurd h (by decide)) ?_
     clear hKS KS
     refine wpTx_done rfl (by kernel_rfl) ?_
     clear hS2
     go_wp2_with fail
     go_meet
     case rel => exact ⟨rfl, (But.alloc _ _ _).trans (But.drew _ _), heap_alloc_new _ _⟩
   case rest =>
    obtain ⟨rfl, hB1, hg1⟩ := hcut
    revert hB1 hg1
    generalize wc = W1
    intro hB1 hg1
    obtain ⟨hgN, hgO, hgV, hgR⟩ := HG.out
    have hW11 := hB1.size
    have hgO1 := (hB1.block _ (lt_of_block hgO) (fun h => h)).trans hgO
    have hgV1 := (hB1.block _ (lt_of_block hgV) (fun h => h)).trans hgV
    have hs1 := hst.grow (hBW.trans hB1)
    have hr1 := hrr.but hB1 (fun h => h)
    have hBw1 := hBW.trans hB1
    clear hgN hgO hgV hgR HG HF HC HFD hsW hrr hB1 hIH hIH2 hS0
    have hl1 := lt_of_block hg1
    have x0 : W1.cell? ⟨w.heap.size + 1, 0, none⟩ = some (.int .u8 111) := by rw [cell_of_row W1 _ 0 _ _ (0, 0) hgO1]; rfl
    have x1 : W1.cell? ⟨w.heap.size + 1, 1, none⟩ = some (.int .i64 k) := by rw [cell_of_row W1 _ 1 _ _ (0, 0) hgO1]; rfl
    have y0 : W1.cell? ⟨w.heap.size + 1 + 1, 0, none⟩ = some (.int .u8 v.K) := by rw [cell_of_row W1 _ 0 _ _ (0, 0) hgV1]; rfl
    have y1 : W1.cell? ⟨w.heap.size + 1 + 1, 1, none⟩ = some (.int .i64 v.N) := by rw [cell_of_row W1 _ 1 _ _ (0, 0) hgV1]; rfl
    have l0 := lt_of_block hgO1
    have l1 := lt_of_block hgV1
    have z0 : W1.cell? ⟨W.heap.size, 0, none⟩ = some (.int .i64 cb.cls) := by rw [cell_of_row W1 _ 0 _ _ (0, 0) hg1]; rfl
    have z1 : W1.cell? ⟨W.heap.size, 1, none⟩ = some (.int .i64 cb.meth) := by rw [cell_of_row W1 _ 1 _ _ (0, 0) hg1]; rfl
    have z2 : W1.cell? ⟨W.heap.size, 2, none⟩ = some (.string ⟨cb.locals.toArray⟩) := by rw [cell_of_row W1 _ 2 _ _ (0, 0) hg1]; rfl
    have z3 : W1.cell? ⟨W.heap.size, 3, none⟩ = some (.slice none 0 0) := by rw [cell_of_row W1 _ 3 _ _ (0, 0) hg1]; rfl
    have z4 : W1.cell? ⟨W.heap.size, 4, none⟩ = some (.slice ak cb.code.length capk) := by rw [cell_of_row W1 _ 4 _ _ (0, 0) hg1]; rfl
    go_wp2_with fail
    have hga := heap_alloc_new W1 (.cells #[.int .u8 111, .int .i64 k, .int .u8 v.K, .int .i64 v.N] 135)
    have hBa : But (fun _ => False) W1 (W1.alloc (.cells #[.int .u8 111, .int .i64 k, .int .u8 v.K, .int .i64 v.N] 135)) := But.alloc _ _ _
    have hOa : (W1.alloc (.cells #[.int .u8 111, .int .i64 k, .int .u8 v.K, .int .i64 v.N] 135)).ownsRow 0 135 2 (.slice (some ⟨W1.heap.size, 0, none⟩) 2 2) 2 (valCells [.o k, v]) :=
     ⟨rfl, Or.inr ⟨_, 2, _, rfl, by omega, hga, by omega, by unfold maxLen; omega, rfl, rfl⟩⟩
    have hlo5 := (hW.bod cb hbm).loc.1
    generalize (W1.alloc (.cells #[.int .u8 111, .int .i64 k, .int .u8 v.K, .int .i64 v.N] 135)) = W2 at *
    refine (locals_any cb (.slice none 0 0) _ ⟨_, _, _, rfl⟩ [.o k, v] _ 2 W2 hlo5 hl2 0 hOa).mono ?_
    rintro en w2 ⟨vl, rfl, hOl, hB2⟩
    have hBa2 := hBa.trans hB2
    have hs2 := hs1.new hBa2
    have hr2 := hr1.but hBa2 (fun h => h)
    have hg2 := (hBa2.block _ hl1 (fun h => h)).trans hg1
    have hBw2 := hBw1.trans hBa2
    have hFN : Hid (∀ g, vl.ownBlock = some g → ¬ (P g ∨ (w.heap.size ≤ g ∧ g < W1.heap.size)) ∧ lv.ownBlock ≠ some g ∧ ∀ v ∈ fv, v.ownBlock ≠ some g) := fun g hg => by
     have h1 := owns_ge hOl g hg
     have h2 := hBa.size
     refine ⟨fun h3 => by have := hs1.pl g h3; omega, fun h3 => by have := owns_lt hs1.lo g h3; omega, fun v hv h3 => ?_⟩
     obtain ⟨k, ob, _, _, ho⟩ := hs1.fo hv
     have := owns_lt ho g h3
     omega
    obtain ⟨al, capl, rfl⟩ := owns_len hOl
    clear x0 x1 y0 y1 z0 z1 z2 z3 z4 hgO1 hgV1 l0 l1 hOa hga hr1 hg1 hl1
    have c5 := hs2.wk.c5
    have z5 := hs2.wk.fz 5
    have m5 := hs2.blt
    have z0 : w2.cell? ⟨W.heap.size, 0, none⟩ = some (.int .i64 cb.cls) := by rw [cell_of_row w2 _ 0 _ _ (0, 0) hg2]; rfl
    have z1 : w2.cell? ⟨W.heap.size, 1, none⟩ = some (.int .i64 cb.meth) := by rw [cell_of_row w2 _ 1 _ _ (0, 0) hg2]; rfl
    have z2 : w2.cell? ⟨W.heap.size, 2, none⟩ = some (.string ⟨cb.locals.toArray⟩) := by rw [cell_of_row w2 _ 2 _ _ (0, 0) hg2]; rfl
    have z3 : w2.cell? ⟨W.heap.size, 3, none⟩ = some (.slice none 0 0) := by rw [cell_of_row w2 _ 3 _ _ (0, 0) hg2]; rfl
    have z4 : w2.cell? ⟨W.heap.size, 4, none⟩ = some (.slice ak cb.code.length capk) := by rw [cell_of_row w2 _ 4 _ _ (0, 0) hg2]; rfl
    have hgl2 := lt_of_block hg2
    have hneb : ¬ bw = W.heap.size := by omega
    have hneb2 : ¬ W.heap.size = bw := by omega
    have hty := hR.ty cb hbm
    obtain ⟨t', htn⟩ : ∃ t', typN im.classes im.sigs cb.locals cb.code cb.code.length 0 = some t' := by
     unfold bodyT at hty
     cases h : typN im.classes im.sigs cb.locals cb.code cb.code.length 0 with
     | none => rw [h] at hty; cases hty
     | some t' => exact ⟨t', rfl⟩
    have hvb : (Value.slice al (localsV cb [.o k, v]).length capl).ownBlock ≠ some bw := owns_offE hOl hs2.wk (by decide)
    have hS3 : But (· = bw) w2 (w2.setCell ⟨bw, 5, none⟩ (.int .i64 ((d : Int) + 1))) := But.setB _ _ _ _
    have hs3 := hs2.work (s' := s) (d' := d + 1) hS3 rfl (by have := hs2.wk.set5 ((d : Int) + 1); simpa using this)
    have hs4 := hs3.enter (l' := localsV cb [.o k, v]) (owns_but hOl hS3 (fun g hg e => hvb (e ▸ hg))) (Nat.le_trans hs1.old.size hBa.size) hFN.out
    have hc := IH cb (d + 1) 0 (localsV cb [.o k, v]) s t' cb.code.length B _ _ _ _ fv (.slice ak cb.code.length capk) hbm hd1 htn hLT hs hsf hs4 ⟨ak, capk, rfl, hTr⟩
    unfold bodAgg at hc
    rw [show ((0 : Nat) : Int) = 0 from rfl] at hc
    have HCL := hid hc
    have hr3 := hr2.but hS3 hbr
    have hlo3 := owns_but hs2.lo hS3 (fun g hg e => hs2.lw (e ▸ hg))
    have hB3 : But (FrD P w0) w (w2.setCell ⟨bw, 5, none⟩ (.int .i64 ((d : Int) + 1))) := (but_n hBw2).next hS3 (fun k hk e => by subst e; exact ⟨hst.ge, hst.pw⟩)
    have hlw := hs2.lw
    have HPO := hid hs2.po
    have hPr : P (w.heap.size + 1 + 1 + 1) ∨ (w.heap.size ≤ w.heap.size + 1 + 1 + 1 ∧ w.heap.size + 1 + 1 + 1 < W1.heap.size) := Or.inr ⟨by omega, by omega⟩
    clear hBa hB2 hBa2 hBw1 hs1 hBi hgA hgB hgC hgW m1 m2 m4 m6 m7 hsz hsz0 hkI hjI hkl hgl hbi hgb hfl hcls hdI hl2 hlo5 hbl2 hd12 hc htn hty hs2 hs4 hs3 hFN hLT hr2 hBw2 hvb hS3 hTr hOl HM
    go_wp2_with fail
    refine HCL.out.mono ?_
    rintro en w4 ⟨hB4, hq⟩
    have hr4 := hr3.but hB4 (fun h => h.2 (Or.inl hPr))
    have hlo4 := owns_but hlo3 hB4 (fun g hg h => h.2 (Or.inr hg))
    have hBw4 : But (FrD P w0) w w4 := hB3.trans (hB4.mono (fun k _ h => ⟨h.1, fun hp => h.2 (Or.inl (Or.inl hp))⟩))
    clear hB4 HCL z0 z1 z2 z3 z4 c5 z5 hr3 hlo3 hB3 m5 hg2 hgl2
    obtain ⟨K9, N9, r0, r1, f0, f1, hrl⟩ := hr4.parts
    have hne3 : ¬ bw = w.heap.size + 1 + 1 + 1 := by omega
    have hRN := HR.out
    cases hn : nodV im inp f cb (d + 1) 0 (localsV cb [.o k, v]) s with
    | bad e' o =>
     rw [hn] at hq hRN
     simp only at hRN
     subst hRN
     obtain ⟨⟨a, b, rfl⟩, hbw4, hv4, r4, l4, hk4⟩ := hq
     clear HR hn
     have c5 := hk4.c5
     have z5 := hk4.fz 5
     have c5' : w4.cell? ⟨bw, 5, none⟩ = some (.int .i64 ((d : Int) + 1)) := by rw [c5]; simp
     clear c5
     have HK := hid hk4
     clear hk4
     go_wp2_with fail
     exact end_badA Tryz.results187 rfl rfl (HK.out.set5 _) rfl (fun h => hbr h.symm) (hr4.but (But.setB _ _ _ _) hbr) (by omega) (hBw4.trans (But.setCell _ (a := ⟨bw, 5, none⟩) ⟨hst.ge, hst.pw⟩ _))
    | ok r4 l2 s2 =>
     rw [hn] at hq hRN
     simp only at hRN
     subst hRN
     obtain ⟨rfl, hv4, fv4, hs5⟩ := hq
     clear HR hn
     simp only [vAgg]
     have c5 := hs5.wk.c5
     have z5 := hs5.wk.fz 5
     have m5 := hs5.blt
     have c5' : w4.cell? ⟨bw, 5, none⟩ = some (.int .i64 ((d : Int) + 1)) := by rw [c5]; simp
     clear c5
     have hS6 : But (· = bw) w4 (w4.setCell ⟨bw, 5, none⟩ (.int .i64 (d : Int))) := But.setB _ _ _ _
     have hs6 := hid ((hs5.work (s' := s2) (d' := d) hS6 rfl (hs5.wk.set5 _)).leave (P := fun k => P k ∨ (w.heap.size ≤ k ∧ k < W1.heap.size)) (lv := lv) (l := l) (fun k hk => hk) (owns_but hlo4 hS6 (fun g hg e => hlw (e ▸ hg))) HPO.out)
     clear hs5
     go_wp2_with fail
     exact end_okA Tryz.results187 rfl rfl hs6.out (hr4.but hS6 hbr) hPr (by omega) hst.old.size (fun k hk => Or.inl hk) (hBw4.trans (But.setCell _ (a := ⟨bw, 5, none⟩) ⟨hst.ge, hst.pw⟩ _)) (v := r4) rfl rfl
theorem two_any {B f : Nat} (P : Nat → Prop) (w0 w : World) (bw bi d : Nat) (inp : ByteArray) (s : Ev) (lv hv : Value) (l : List V) (fv : List Value) (im : Img) (hI : ImgS w0 bi im) (hR : Ready im) (IH : NodeD im inp w0 bw bi f) (hst : StX P w0 w bw bi inp d s lv l hv fv) (hs : StT im B s) (hsf : s.left ≤ f) (hd : d ≤ 12) (x : Ins) (e : Nat) (lo : List UInt8) (hx : WfN im.classes im.sigs.length lo.length x) (hx2 : arity x.op = 2) (hx111 : x.op.toNat ≠ 111) (hlk : x.op.toNat = 99 → 0 ≤ findF im.classes im.bodies x.b 5 x.a) (u v : V) (ta tc tt : UInt8) (hnt : nodeT im.classes im.sigs lo x [ta, tc] = some tt) (hu : VT im.classes s.heap ta u) (hv' : VT im.classes s.heap tc v) :
  Calls Tryz.prog 126 #[.pointer (some ⟨bw, 0, none⟩), .agg #[.int .u8 x.op.toNat, .int .i64 x.a, .int .i64 x.b, .int .i64 x.pos, .int .i64 e], .agg #[.int .u8 u.K, .int .i64 u.N], .agg #[.int .u8 v.K, .int .i64 v.N]] w fun en w' => But (FrD P w0) w w' ∧ ResD P w0 bw bi inp d lv (twoV im (fun b' l' => nodV im inp f b' (d + 1) 0 l' s) d x u v l s) en w' := by
 have hbl := hst.blt
 have hW := hR.wf
 have hn4 := hW.nc
 have hop : arith x.op.toNat = true ∨ x.op.toNat = 101 ∨ x.op.toNat = 112 ∨ x.op.toNat = 99 ∨ x.op.toNat = 44 := by
  unfold arity at hx2
  split at hx2
  ·omega
  ·split at hx2
   ·rename_i h3; simp [arith] at h3 ⊢; omega
   ·split at hx2 <;> omega
 obtain ⟨W, hWW⟩ : ∃ W, (((w.alloc (.cells #[.int .u8 x.op.toNat, .int .i64 x.a, .int .i64 x.b, .int .i64 x.pos, .int .i64 e] 147)).alloc (.cells #[.int .u8 u.K, .int .i64 u.N] 135)).alloc (.cells #[.int .u8 v.K, .int .i64 v.N] 135)).alloc (.cells #[.int .u8 0, .int .i64 0] 135) = W := ⟨_, rfl⟩
 have hBW : But (fun _ => False) w W := by rw [← hWW]; exact (((But.alloc _ _ _).trans (But.alloc _ _ _)).trans (But.alloc _ _ _)).trans (But.alloc _ _ _)
 have hgN : W.heap[w.heap.size]? = some (.cells #[.int .u8 x.op.toNat, .int .i64 x.a, .int .i64 x.b, .int .i64 x.pos, .int .i64 e] 147) := by rw [← hWW]; exact ((((But.alloc (fun _ => False) _ _).trans (But.alloc _ _ _)).trans (But.alloc _ _ _)).block _ (by simp) (fun h => h)).trans (heap_alloc_new w _)
 have hgU : W.heap[w.heap.size + 1]? = some (.cells #[.int .u8 u.K, .int .i64 u.N] 135) := by rw [← hWW]; exact (((But.alloc (fun _ => False) _ _).trans (But.alloc _ _ _)).block _ (by simp) (fun h => h)).trans (heap_alloc_at (by simp) _)
 have hgV : W.heap[w.heap.size + 1 + 1]? = some (.cells #[.int .u8 v.K, .int .i64 v.N] 135) := by rw [← hWW]; exact ((But.alloc (fun _ => False) _ _).block _ (by simp) (fun h => h)).trans (heap_alloc_at (by simp) _)
 have hgR : W.heap[w.heap.size + 1 + 1 + 1]? = some (.cells #[.int .u8 0, .int .i64 0] 135) := by rw [← hWW]; exact heap_alloc_at (by simp) _
 have hsW := hst.grow hBW
 have hrr : ResB W (w.heap.size + 1 + 1 + 1) := ⟨0, 0, hgR⟩
 have hgW := lt_of_block hgR
 have HWW := hid hWW
 clear hWW
 rcases hop with h | h | h | h | h
 ·have hne : x.op.toNat ≠ 44 ∧ x.op.toNat ≠ 101 ∧ x.op.toNat ≠ 99 ∧ x.op.toNat ≠ 112 ∧ x.op.toNat ≠ 120 ∧ x.op.toNat ≠ 105 ∧ (x.op.toNat = 43 ∨ x.op.toNat = 45 ∨ x.op.toNat = 42 ∨ x.op.toNat = 60 ∨ x.op.toNat = 61 ∨ x.op.toNat = 47) := by
   simp [Sp.arith] at h; omega
  obtain ⟨n1, n2, n3, n4, n5, n6, n7⟩ := hne
  have t0 : ((x.op.toNat : Int) == 44) = false := tsf (k := 44) n1
  have t1 : ((x.op.toNat : Int) == 101) = false := tsf (k := 101) n2
  have t2 : ((x.op.toNat : Int) == 99) = false := tsf (k := 99) n3
  have t3 : ((x.op.toNat : Int) == 112) = false := tsf (k := 112) n4
  rw [show twoV im (fun b' l' => nodV im inp f b' (d + 1) 0 l' s) d x u v l s = arithV x.op.toNat u.N v.N l s from by unfold twoV; rw [if_neg n1, if_neg n2, if_neg n3, if_neg n4]]
  have hf : fitsT im.classes [ta, tc] [105, 105] = true := by
   simp [nodeT, askT, h, n2, n5, n1, n6, hx111] at hnt
   simpa using hnt.1
  obtain ⟨q1, q2⟩ := fits2 hf
  obtain ⟨a, rfl, a1, a2⟩ := (hu.sub hW.cls hn4 hs.ht (t' := 105) q1 (by decide)).int (by decide)
  obtain ⟨b, rfl, b1, b2⟩ := (hv'.sub hW.cls hn4 hs.ht (t' := 105) q2 (by decide)).int (by decide)
  have HA := hid (arith_any _ w0 W bw bi d inp s lv hv l fv hsW x.op.toNat n7 a b a1 a2 b1 b2)
  obtain ⟨RR, hRR⟩ : ∃ RR, arithV x.op.toNat (V.i a).N (V.i b).N l s = RR := ⟨_, rfl⟩
  rw [hRR]
  have HR : Hid (arithV x.op.toNat a b l s = RR) := hRR
  clear hx hx2 hx111 hlk h n1 n2 n3 n4 n5 n6 n7 hnt hf q1 q2 hu hv' hRR
  go_enter Tryz.func126, Tryz.ntmps126
  go_wp2_with fail
  rw [HWW.out]
  clear HWW
  refine HA.out.mono ?_
  rintro en w1 ⟨hB1, hq⟩
  rw [HR.out] at hq
  obtain ⟨K, N, rfl⟩ := hq.val
  have hr1 := hrr.but hB1 (fun h => h.2 (Or.inr ⟨by omega, hgW⟩))
  have HQ := hid hq
  clear HA HR hsW hrr hgN hgU hgV hgR hq
  obtain ⟨K9, N9, r0, r1, f0, f1, hrl⟩ := hr1.parts
  go_wp2_with fail
  exact pass_on Tryz.results126 rfl rfl (but_n hBW) hB1 HQ.out hr1 (Or.inr ⟨by omega, hgW⟩) (by omega) hst.old.size (fun k hk => Or.inl hk) (by omega)
 ·have t0 : ((x.op.toNat : Int) == 44) = false := tsf (k := 44) (by omega)
  have t1 : ((x.op.toNat : Int) == 101) = true := tst h
  rw [show twoV im (fun b' l' => nodV im inp f b' (d + 1) 0 l' s) d x u v l s = .ok (if u = v then .i 1 else .i 0) l s from by unfold twoV; rw [if_neg (by omega), if_pos h]]
  clear hx hx2 hx111 hlk h
  by_cases huv : u = v
  ·subst huv
   rw [if_pos rfl]
   go_enter Tryz.func126, Tryz.ntmps126
   go_wp2_with fail
   refine (truth_any true _).mono ?_
   rintro en w1 ⟨rfl, hB1⟩
   have hBc := (((But.alloc (fun _ => False) _ _).trans (But.alloc _ _ _)).trans (But.alloc _ _ _)).trans ((But.alloc _ _ _).trans hB1)
   have hrc : ResB w1 (w.heap.size + 1 + 1 + 1) := ResB.but ⟨0, 0, heap_alloc_at (by simp) _⟩ hB1 (fun h => h)
   clear hB1 HWW hsW hrr hgN hgU hgV hgR hBW
   have hs1 := hst.grow hBc
   obtain ⟨K9, N9, r0, r1, f0, f1, hrl⟩ := hrc.parts
   simp only [vAgg, if_true]
   go_wp2_with fail
   exact end_ok Tryz.results126 rfl rfl hs1 hrc (Or.inr ⟨by omega, hrl⟩) (by omega) hst.old.size (fun k hk => Or.inl hk) (but_n hBc) (v := .i 1) rfl rfl
  ·rw [if_neg huv]
   have hne : ¬ u.K = v.K ∨ (u.K = v.K ∧ ¬ u.N = v.N) := by
    by_cases h1 : u.K = v.K
    ·right
     refine ⟨h1, fun h2 => huv ?_⟩
     cases u <;> cases v <;> simp [V.K, V.N] at h1 h2 ⊢ <;> omega
    ·exact Or.inl h1
   clear huv
   go_enter Tryz.func126, Tryz.ntmps126
   rcases hne with h1 | ⟨h1, h2⟩
   ·go_wp2_with fail
    refine (truth_any false _).mono ?_
    rintro en w1 ⟨rfl, hB1⟩
    have hBc := (((But.alloc (fun _ => False) _ _).trans (But.alloc _ _ _)).trans (But.alloc _ _ _)).trans ((But.alloc _ _ _).trans hB1)
    have hrc : ResB w1 (w.heap.size + 1 + 1 + 1) := ResB.but ⟨0, 0, heap_alloc_at (by simp) _⟩ hB1 (fun h => h)
    clear hB1 HWW hsW hrr hgN hgU hgV hgR hBW
    have hs1 := hst.grow hBc
    obtain ⟨K9, N9, r0, r1, f0, f1, hrl⟩ := hrc.parts
    simp only [vAgg, Bool.false_eq_true, if_false]
    go_wp2_with fail
    exact end_ok Tryz.results126 rfl rfl hs1 hrc (Or.inr ⟨by omega, hrl⟩) (by omega) hst.old.size (fun k hk => Or.inl hk) (but_n hBc) (v := .i 0) rfl rfl
   ·go_wp2_with fail
    refine (truth_any false _).mono ?_
    rintro en w1 ⟨rfl, hB1⟩
    have hBc := (((But.alloc (fun _ => False) _ _).trans (But.alloc _ _ _)).trans (But.alloc _ _ _)).trans ((But.alloc _ _ _).trans hB1)
    have hrc : ResB w1 (w.heap.size + 1 + 1 + 1) := ResB.but ⟨0, 0, heap_alloc_at (by simp) _⟩ hB1 (fun h => h)
    clear hB1 HWW hsW hrr hgN hgU hgV hgR hBW
    have hs1 := hst.grow hBc
    obtain ⟨K9, N9, r0, r1, f0, f1, hrl⟩ := hrc.parts
    simp only [vAgg, Bool.false_eq_true, if_false]
    go_wp2_with fail
    exact end_ok Tryz.results126 rfl rfl hs1 hrc (Or.inr ⟨by omega, hrl⟩) (by omega) hst.old.size (fun k hk => Or.inl hk) (but_n hBc) (v := .i 0) rfl rfl
 ·have t0 : ((x.op.toNat : Int) == 44) = false := tsf (k := 44) (by omega)
  have t1 : ((x.op.toNat : Int) == 101) = false := tsf (k := 101) (by omega)
  have t2 : ((x.op.toNat : Int) == 99) = false := tsf (k := 99) (by omega)
  have t3 : ((x.op.toNat : Int) == 112) = true := tst h
  have hxa := hx.cls (by omega)
  have hxb := hx.fld (by omega)
  simp [nodeT, askT, giveT, Sp.arith, h] at hnt
  obtain ⟨hf, _⟩ := hnt
  obtain ⟨hC, hC2⟩ := clsT_C (a := x.a) (by omega)
  obtain ⟨q1, q2⟩ := fits2 (by simpa using hf)
  have hu2 := hu.sub hW.cls hn4 hs.ht (t' := clsT x.a) q1 (by have := isC_iff.1 hC; omega)
  clear hf q1 q2
  rcases hu2.ref (isR_of_C hC) with rfl | ⟨k, ob, rfl, hk, _, hun⟩
  ·rw [show twoV im (fun b' l' => nodV im inp f b' (d + 1) 0 l' s) d x .z v l s = .bad 6 s.out from by unfold twoV; simp [h]]
   have c7 := hst.wk.c7
   have z7 := hst.wk.fz 7
   have hgA : bw < w.heap.size + 1 := by omega
   have hgB : bw < w.heap.size + 1 + 1 := by omega
   have hgC : bw < w.heap.size + 1 + 1 + 1 := by omega
   clear hx hx2 hx111 hlk h hC2
   simp only [vK_z, vN_z]
   go_enter Tryz.func126, Tryz.ntmps126
   go_wp2_with fail
   exact end_no Tryz.results126 rfl rfl (hst.wk.set7 6) rfl (but_w hst (But.setB _ _ _ _)) ((((But.alloc _ _ _).trans (But.alloc _ _ _)).trans (But.alloc _ _ _)).trans (But.alloc _ _ _)) (heap_alloc_at (by simp [size_setCell]) _)
  ·rw [hC2] at hun
   obtain ⟨g1, g2⟩ := field_at hR hs hxa hxb hk hun
   rw [show twoV im (fun b' l' => nodV im inp f b' (d + 1) 0 l' s) d x (.o k) v l s = .ok (.i 0) l (s.put k x.b v) from by unfold twoV; simp [h]]
   obtain ⟨gh, cph, af, cf, rfl, hkl, hfk, hgl, o0, o1⟩ := hst.obj hk
   have hrow := hst.fl k ob _ hk hfk
   obtain ⟨gf, rfl, hgf, hgf2, hcell⟩ := owns_two hrow (by omega)
   obtain ⟨u', hu'⟩ : ∃ u', ob.fs[x.b]? = some u' := ⟨_, List.getElem?_eq_getElem g1⟩
   have q0 := (hBW.cell (p := ⟨gf, x.b * 2, none⟩) hgf (fun h => h)).trans (hcell _ _ (valCells_at (k := 0) hu' (by omega)))
   have q1 := (hBW.cell (p := ⟨gf, x.b * 2 + 1, none⟩) hgf (fun h => h)).trans (hcell _ _ (valCells_at (k := 1) hu' (by omega)))
   obtain ⟨cur, hcur⟩ := owns_type hrow (g := gf) rfl
   have z0 := (hBW.frozen (p := ⟨gf, x.b * 2, none⟩) hgf (fun h => h)).trans (frozen_of_row w gf (x.b * 2) _ _ hcur)
   have z1 := (hBW.frozen (p := ⟨gf, x.b * 2 + 1, none⟩) hgf (fun h => h)).trans (frozen_of_row w gf (x.b * 2 + 1) _ _ hcur)
   have d2 := (hBW.cell (p := ⟨gh, k * 2 + 1, none⟩) hgl (fun h => h)).trans o1
   have c1 := hsW.wk.c1
   have hfr : FrD P w0 gf := ⟨hgf2, hst.pf _ (List.mem_of_getElem? hfk) gf rfl⟩
   have HSF := hid (fun (X : World) (h : StX (fun k => P k ∨ (w.heap.size ≤ k ∧ k < W.heap.size)) w0 X bw bi inp d s lv l (.slice (some ⟨gh, 0, none⟩) s.heap.length cph) fv) => h.setF hk hfk (g := gf) rfl x.b v)
   clear hcell hcur hx hx2 hx111 hlk h hC2 hun hu2 hu hv' hu' hrow g2 o0 o1 hk hfk hC
   have hxI : (x.b : Int) < (ob.fs.length : Int) := by omega
   have hkI : (k : Int) < (s.heap.length : Int) := by omega
   simp only [vK_o, vN_o] at hgU HWW ⊢
   go_enter Tryz.func126, Tryz.ntmps126
   go_wp2_with fail
   rw [HWW.out]
   clear HWW
   have n2 : W.cell? ⟨w.heap.size, 2, none⟩ = some (.int .i64 x.b) := by rw [cell_of_row W _ 2 _ _ (0, 0) hgN]; rfl
   have v1 : W.cell? ⟨w.heap.size + 1, 1, none⟩ = some (.int .i64 k) := by rw [cell_of_row W _ 1 _ _ (0, 0) hgU]; rfl
   have y0 : W.cell? ⟨w.heap.size + 1 + 1, 0, none⟩ = some (.int .u8 v.K) := by rw [cell_of_row W _ 0 _ _ (0, 0) hgV]; rfl
   have y1 : W.cell? ⟨w.heap.size + 1 + 1, 1, none⟩ = some (.int .i64 v.N) := by rw [cell_of_row W _ 1 _ _ (0, 0) hgV]; rfl
   have hS0 : But (fun _ => False) W W.drew := But.drew _ _
   have hsz := hBW.size
   have m1 : w.heap.size < W.heap.size := by omega
   have m2 : w.heap.size + 1 < W.heap.size := by omega
   have m3 : w.heap.size + 1 + 1 < W.heap.size := by omega
   have m4 : gh < W.heap.size := by omega
   have m5 : bw < W.heap.size := by omega
   refine wpTx_begin (But (fun _ => False) W) 13 (by kernel_rfl) ?_
   have fSD := hid (fun wS (h : (But (fun _ => False) W) wS) => (And.intro ((h.cell (p := ⟨bw, 1, none⟩) m5 (fun h => h)).trans c1) (And.intro ((h.cell (p := ⟨gh, k * 2 + 1, none⟩) m4 (fun h => h)).trans d2) (And.intro ((h.cell (p := ⟨w.heap.size, 2, none⟩) m1 (fun h => h)).trans n2) (And.intro ((h.cell (p := ⟨w.heap.size + 1, 1, none⟩) m2 (fun h => h)).trans v1) (And.intro ((h.cell (p := ⟨w.heap.size + 1 + 1, 0, none⟩) m3 (fun h => h)).trans y0) ((h.cell (p := ⟨w.heap.size + 1 + 1, 1, none⟩) m3 (fun h => h)).trans y1)))))))
   iterate 13 (refine wpTx_take (v := ?_) rfl (by kernel_rfl) (fun _ _ _ h => h) rfl hS0 ?_ ?_; rotate_left; (focus (intro wS h; obtain ⟨q0, q1, q2, q3, q4, q5⟩ := fSD.out wS h; clear h; go_simp; try rfl)); dsimp only [Act.put]; try simp only [puts])
   try clear fSD
   have hs2 := hsW.new hS0
   have hBd := hBW.trans hS0
   have hr2 := hrr.but hS0 (fun h => h)
   have p0 := (hS0.cell (p := ⟨gf, x.b * 2, none⟩) (Nat.lt_of_lt_of_le hgf hBW.size) (fun h => h)).trans q0
   have p1 := (hS0.cell (p := ⟨gf, x.b * 2 + 1, none⟩) (Nat.lt_of_lt_of_le hgf hBW.size) (fun h => h)).trans q1
   have p2 := (hS0.frozen (p := ⟨gf, x.b * 2, none⟩) (Nat.lt_of_lt_of_le hgf hBW.size) (fun h => h)).trans z0
   have p3 := (hS0.frozen (p := ⟨gf, x.b * 2 + 1, none⟩) (Nat.lt_of_lt_of_le hgf hBW.size) (fun h => h)).trans z1
   clear c1 d2 n2 v1 y0 y1 q0 q1 z0 z1 hsW hrr hgN hgU hgV hgR
   generalize W.drew = wd at *
   refine wpTx_step rfl (by kernel_rfl) ?_
   intro KS hKS
   go_simp
   refine hKS.out _ _ (fun h => absurd h (by decide)) ?_
   clear hKS KS
   refine wpTx_done rfl (by kernel_rfl) ?_
   have hs3 := HSF.out wd hs2
   have hr3 := (hr2.but (But.setB wd gf (x.b * 2) (.int .u8 v.K)) (fun e => by have e : w.heap.size + 1 + 1 + 1 = gf := e; omega)).but (But.setB _ gf (x.b * 2 + 1) (.int .i64 v.N)) (fun e => by have e : w.heap.size + 1 + 1 + 1 = gf := e; omega)
   have hB3 : But (FrD P w0) w ((wd.setCell ⟨gf, x.b * 2, none⟩ (.int .u8 v.K)).setCell ⟨gf, x.b * 2 + 1, none⟩ (.int .i64 v.N)) := (but_n hBd).trans ((But.setCell wd (a := ⟨gf, x.b * 2, none⟩) hfr _).trans (But.setCell _ (a := ⟨gf, x.b * 2 + 1, none⟩) hfr _))
   clear p0 p1 p2 p3 hs2 hr2 HSF hBd hS0
   generalize ((wd.setCell ⟨gf, x.b * 2, none⟩ (.int .u8 v.K)).setCell ⟨gf, x.b * 2 + 1, none⟩ (.int .i64 v.N)) = w3 at *
   obtain ⟨K9, N9, r0, r1, f0, f1, hrl⟩ := hr3.parts
   go_wp2_with fail
   exact end_ok Tryz.results126 rfl rfl hs3 hr3 (Or.inr ⟨by omega, hgW⟩) (by omega) hst.old.size (fun k hk => Or.inl hk) hB3 (v := .i 0) rfl rfl
 ·have t0 : ((x.op.toNat : Int) == 44) = false := tsf (k := 44) (by omega)
  have t1 : ((x.op.toNat : Int) == 101) = false := tsf (k := 101) (by omega)
  have t2 : ((x.op.toNat : Int) == 99) = true := tst h
  rw [show twoV im (fun b' l' => nodV im inp f b' (d + 1) 0 l' s) d x u v l s = callV im inp f d x u v l s from by unfold twoV callV; rw [if_neg (by omega), if_neg (by omega), if_pos h]; cases u <;> rfl]
  have hxa := hx.cls (by omega)
  have hxb := hx.sig h
  simp [nodeT, askT, giveT, Sp.arith, h] at hnt
  obtain ⟨hf, _⟩ := hnt
  obtain ⟨hC, hC2⟩ := clsT_C (a := x.a) (by omega)
  obtain ⟨q1, q2⟩ := fits2 (by simpa using hf)
  have hu2 := hu.sub hW.cls hn4 hs.ht (t' := clsT x.a) q1 (by have := isC_iff.1 hC; omega)
  have hv2 := hv'.sub hW.cls hn4 hs.ht (t' := argT im.sigs x.b) q2 (isTy_45 (arg_ty hR hxb).1)
  have HA := hid (call_any _ w0 W bw bi d inp s lv hv l fv im hI hR IH hsW hs hsf hd x e hxa hxb (hlk h) u v hu2 hv2)
  clear hx hx2 hx111 hlk h hC2 hC hf q1 q2 hu2 hv2 hu hv'
  obtain ⟨RR, hRR⟩ : ∃ RR, callV im inp f d x u v l s = RR := ⟨_, rfl⟩
  rw [hRR] at HA ⊢
  clear hRR
  go_enter Tryz.func126, Tryz.ntmps126
  go_wp2_with fail
  rw [HWW.out]
  clear HWW
  refine HA.out.mono ?_
  rintro en w1 ⟨hB1, hq⟩
  obtain ⟨K, N, rfl⟩ := hq.val
  have hr1 := hrr.but hB1 (fun h => h.2 (Or.inr ⟨by omega, hgW⟩))
  have HQ := hid hq
  clear HA hsW hrr hgN hgU hgV hgR hq
  obtain ⟨K9, N9, r0, r1, f0, f1, hrl⟩ := hr1.parts
  go_wp2_with fail
  exact pass_on Tryz.results126 rfl rfl (but_n hBW) hB1 HQ.out hr1 (Or.inr ⟨by omega, hgW⟩) (by omega) hst.old.size (fun k hk => Or.inl hk) (by omega)
 ·have t0 : ((x.op.toNat : Int) == 44) = true := tst h
  rw [show twoV im (fun b' l' => nodV im inp f b' (d + 1) 0 l' s) d x u v l s = .ok v l s from by unfold twoV; rw [if_pos h]]
  go_enter Tryz.func126, Tryz.ntmps126
  go_wp2_with fail
  exact end_same Tryz.results126 rfl rfl hst ((((But.alloc _ _ _).trans (But.alloc _ _ _)).trans (But.alloc _ _ _)).trans (But.alloc _ _ _)) (heap_alloc_at (by simp) _) (v := v) rfl rfl
end Go.Proofs.YtpfkkmacakjmbaaGreatDoor
