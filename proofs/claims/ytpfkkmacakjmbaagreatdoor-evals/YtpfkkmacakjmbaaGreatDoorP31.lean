import Derived.Test.YtpfkkmacakjmbaaGreatDoorP30
set_option maxRecDepth 100000
set_option maxHeartbeats 6400000
namespace Go.Proofs.YtpfkkmacakjmbaaGreatDoor
open Go Go.RowKit Sp
set_option linter.unusedSimpArgs false
set_option linter.unusedVariables false
attribute [local go_sem ↓] Go.wp_at_zero Go.wp_at_succ
theorem objInfo : (Tryz.prog.info? 265).map (fun i => (i.zero, i.size, i.bytes)) = some (some (.agg #[.int .i64 0, .slice none 0 0]), 2, 32) := by kernel_rfl
theorem tst {x k : Nat} (h : x = k) : ((x : Int) == (k : Int)) = true := by rw [beq_iff_eq]; omega
theorem tsf {x k : Nat} (h : x ≠ k) : ((x : Int) == (k : Int)) = false := by rw [beq_eq_false_iff_ne]; omega
theorem leaf_any {B : Nat} (P : Nat → Prop) (w0 w : World) (bw bi d : Nat) (inp : ByteArray) (s : Ev) (lv hv : Value) (l : List V) (fv : List Value) (im : Img) (hI : ImgS w0 bi im) (hW : WfIS im) (hst : StX P w0 w bw bi inp d s lv l hv fv) (hs : StT im B s) (x : Ins) (e nl : Nat) (hx : WfN im.classes im.sigs.length nl x) (hll : l.length = nl) (hx0 : arity x.op = 0) :
  Calls Tryz.prog 123 #[.pointer (some ⟨bw, 0, none⟩), .agg #[.int .u8 x.op.toNat, .int .i64 x.a, .int .i64 x.b, .int .i64 x.pos, .int .i64 e], lv] w fun en w' => But (FrD P w0) w w' ∧ ResD P w0 bw bi inp d lv (leafV im inp x l s) en w' := by
 have hbl := hst.blt
 have hop : x.op.toNat = 114 ∨ x.op.toNat = 122 ∨ x.op.toNat = 108 ∨ x.op.toNat = 110 ∨ (x.op.toNat ≠ 114 ∧ x.op.toNat ≠ 122 ∧ x.op.toNat ≠ 108 ∧ x.op.toNat ≠ 110) := by omega
 have hcap := hs.cap
 have hrd := hs.rd
 obtain ⟨W, hWW⟩ : ∃ W, (w.alloc (.cells #[.int .u8 x.op.toNat, .int .i64 x.a, .int .i64 x.b, .int .i64 x.pos, .int .i64 e] 147)).alloc (.cells #[.int .u8 0, .int .i64 0] 135) = W := ⟨_, rfl⟩
 have hBW : But (fun _ => False) w W := by rw [← hWW]; exact (But.alloc _ _ _).trans (But.alloc _ _ _)
 have hgN : W.heap[w.heap.size]? = some (.cells #[.int .u8 x.op.toNat, .int .i64 x.a, .int .i64 x.b, .int .i64 x.pos, .int .i64 e] 147) := by rw [← hWW]; exact ((But.alloc (fun _ => False) _ _).block _ (by simp) (fun h => h)).trans (heap_alloc_new w _)
 have hgR : W.heap[w.heap.size + 1]? = some (.cells #[.int .u8 0, .int .i64 0] 135) := by rw [← hWW]; exact heap_alloc_at (by simp) _
 have hsW := hst.grow hBW
 have hrr : ResB W (w.heap.size + 1) := ⟨0, 0, hgR⟩
 have hgW := lt_of_block hgR
 have HWW := hid hWW
 clear hWW
 rcases hop with h | h | h | h | h
 ·have t1 : ((x.op.toNat : Int) == 114) = true := tst h
  rw [show leafV im inp x l s = .ok (.i (nextV inp s.read)) l { s with read := s.read + 1 } from by unfold leafV; rw [if_pos h]]
  clear hx hx0 h
  go_enter Tryz.func123, Tryz.ntmps123
  go_wp2_with fail
  rw [HWW.out]
  clear HWW
  have c2 := hsW.wk.c2
  have c3 := hsW.wk.c3
  have fz := hsW.wk.fz 3
  have hbW := hsW.blt
  refine wpTx_begin (But (fun _ => False) W) 9 (by kernel_rfl) ?_
  have hS0 : But (fun _ => False) W W.drew := But.drew _ _
  have fSA := hid (fun wS (h : (But (fun _ => False) W) wS) => (And.intro ((h.cell (p := ⟨bw, 2, none⟩) hbW (fun h => h)).trans c2) ((h.cell (p := ⟨bw, 3, none⟩) hbW (fun h => h)).trans c3)))
  iterate 8 (refine wpTx_take (v := ?_) rfl (by kernel_rfl) (fun _ _ _ h => h) rfl hS0 ?_ ?_; rotate_left; (focus (intro wS h; obtain ⟨q0, q1⟩ := fSA.out wS h; clear h; go_simp; try rfl)); dsimp only [Act.put]; try simp only [puts])
  try clear fSA
  refine wpTx_step rfl (by kernel_rfl) ?_
  intro KS hKS
  go_simp
  refine (nextIn_any inp s.read (by omega) _).mono ?_
  rintro en wx ⟨rfl, hwx⟩
  rw [hwx]
  clear hwx wx
  refine hKS.out _ _ (fun _ => hS0) ?_
  clear hKS KS
  refine wpTx_step rfl (by kernel_rfl) ?_
  intro KS hKS
  go_simp
  refine hKS.out _ _ (fun h => absurd h (by decide)) ?_
  clear hKS KS
  refine wpTx_done rfl (by kernel_rfl) ?_
  have hs2 := hsW.new hS0
  have hBd := hBW.trans hS0
  have hr2 := hrr.but hS0 (fun h => h)
  clear hS0 hBW c2 c3 fz hbW hgR hgN hrr
  generalize hPP : (fun k => P k ∨ (w.heap.size ≤ k ∧ k < W.heap.size)) = P1 at *
  have HPP := hid hPP
  clear hPP hsW
  generalize W.drew = wd at *
  have c3 := hs2.wk.c3
  have fz := hs2.wk.fz 3
  have hbW := hs2.blt
  obtain ⟨K9, N9, r0, r1, f0, f1, hrl⟩ := hr2.parts
  have hrw := wrapI ((s.read : Int) + 1) (by omega) (by omega)
  rw [IntWalk.i64_left] at hrw
  have hne : bw ≠ w.heap.size + 1 := by omega
  go_wp2_with fail
  have hs3 := hs2.work (s' := { s with read := s.read + 1 }) (d' := d) (But.setB wd bw 3 (.int .i64 ((s.read : Int) + 1))) rfl (by have := hs2.wk.set3 ((s.read : Int) + 1); simpa using this)
  have hB3 : But (FrD P w0) w (wd.setCell ⟨bw, 3, none⟩ (.int .i64 ((s.read : Int) + 1))) := (but_n hBd).next (But.setB _ _ _ _) (fun k hk e => by subst e; exact ⟨hst.ge, hst.pw⟩)
  exact end_ok Tryz.results123 rfl rfl hs3 (hr2.but (But.setB _ _ _ _) (fun e => hne e.symm)) (by rw [← HPP.out]; exact Or.inr ⟨by omega, by omega⟩) (by omega) hst.old.size (fun k hk => by rw [← HPP.out]; exact Or.inl hk) hB3 (v := .i (nextV inp s.read)) rfl rfl
 ·have t0 : ((x.op.toNat : Int) == 114) = false := tsf (k := 114) (by omega)
  have t1 : ((x.op.toNat : Int) == 122) = true := tst h
  rw [show leafV im inp x l s = .ok .z l s from by unfold leafV; rw [if_neg (by omega), if_pos h]]
  clear hx hx0 h
  go_enter Tryz.func123, Tryz.ntmps123
  go_wp2_with fail
  exact end_same Tryz.results123 rfl rfl hst ((But.alloc _ _ _).trans (But.alloc _ _ _)) (heap_alloc_at (by simp) _) (v := .z) rfl rfl
 ·have t0 : ((x.op.toNat : Int) == 114) = false := tsf (k := 114) (by omega)
  have t1 : ((x.op.toNat : Int) == 122) = false := tsf (k := 122) (by omega)
  have t2 : ((x.op.toNat : Int) == 108) = true := tst h
  rw [show leafV im inp x l s = .ok (l.getD x.b .z) l s from by unfold leafV; rw [if_neg (by omega), if_neg (by omega), if_pos h]]
  have hxb : x.b < l.length := by rw [hll]; exact hx.loc (Or.inl h)
  clear hx hx0 h
  obtain ⟨u, hu⟩ : ∃ u, l[x.b]? = some u := ⟨_, List.getElem?_eq_getElem hxb⟩
  rw [show l.getD x.b .z = u from by rw [List.getD_eq_getElem?_getD, hu]; rfl]
  obtain ⟨al, capl, rfl⟩ := owns_len hst.lo
  obtain ⟨g, rfl, hg1, hg2, hcell⟩ := owns_two hst.lo (by omega)
  have q0 : w.cell? ⟨g, x.b * 2, none⟩ = some (.int .u8 u.K) := hcell _ _ (valCells_at (k := 0) hu (by omega))
  have q1 : w.cell? ⟨g, x.b * 2 + 1, none⟩ = some (.int .i64 u.N) := hcell _ _ (valCells_at (k := 1) hu (by omega))
  clear hcell hu
  have hxI : (x.b : Int) < (l.length : Int) := by omega
  generalize l.length = nn at *
  go_enter Tryz.func123, Tryz.ntmps123
  go_wp2_with fail
  exact end_same Tryz.results123 rfl rfl hst ((But.alloc _ _ _).trans (But.alloc _ _ _)) (heap_alloc_at (by simp) _) (v := u) rfl rfl
 ·have t0 : ((x.op.toNat : Int) == 114) = false := tsf (k := 114) (by omega)
  have t1 : ((x.op.toNat : Int) == 122) = false := tsf (k := 122) (by omega)
  have t2 : ((x.op.toNat : Int) == 108) = false := tsf (k := 108) (by omega)
  have t3 : ((x.op.toNat : Int) == 110) = true := tst h
  rw [show leafV im inp x l s = .ok (.o s.heap.length) l { s with heap := s.heap ++ [⟨x.a, freshV im.classes x.a⟩] } from by unfold leafV; simp [h]]
  have hxa : x.a < im.classes.length := hx.cls (Or.inl h)
  have hf8 : nFields im.classes x.a ≤ 100 := by
   have := hW.cls x.a _ (List.getElem?_eq_getElem hxa)
   have := hW.nc
   simp [nFields, hxa]
   omega
  clear hx hx0 h
  go_enter Tryz.func123, Tryz.ntmps123
  go_wp2_with fail
  rw [HWW.out]
  clear HWW
  have c0 := hsW.wk.c0
  have n1 : W.cell? ⟨w.heap.size, 1, none⟩ = some (.int .i64 x.a) := by rw [cell_of_row W _ 1 _ _ (0, 0) hgN]; rfl
  have hbW := hsW.blt
  have hnW := lt_of_block hgN
  refine wpTx_begin (But (fun _ => False) W) 7 (by kernel_rfl) ?_
  have hS0 : But (fun _ => False) W W.drew := But.drew _ _
  have fSB := hid (fun wS (h : (But (fun _ => False) W) wS) => (And.intro ((h.cell (p := ⟨bw, 0, none⟩) hbW (fun h => h)).trans c0) ((h.cell (p := ⟨w.heap.size, 1, none⟩) hnW (fun h => h)).trans n1)))
  iterate 6 (refine wpTx_take (v := ?_) rfl (by kernel_rfl) (fun _ _ _ h => h) rfl hS0 ?_ ?_; rotate_left; (focus (intro wS h; obtain ⟨q0, q1⟩ := fSB.out wS h; clear h; go_simp; try rfl)); dsimp only [Act.put]; try simp only [puts])
  try clear fSB
  refine wpTx_step rfl (by kernel_rfl) ?_
  intro KS hKS
  go_simp
  refine (fresh_any bi im x.a _ (hI.but (hsW.new hS0).old).cls hxa hf8).mono ?_
  rintro en wf ⟨vf, rfl, hOf, hBf⟩
  refine hKS.out _ _ (fun _ => hS0.trans hBf) ?_
  clear hKS KS
  refine wpTx_step rfl (by kernel_rfl) ?_
  intro KS hKS
  go_simp
  refine hKS.out _ _ (fun h => absurd h (by decide)) ?_
  clear hKS KS
  refine wpTx_done rfl (by kernel_rfl) ?_
  have hBWf := hS0.trans hBf
  have hs2 := hsW.new hBWf
  have hBd := hBW.trans hBWf
  have hr2 := hrr.but hBWf (fun h => h)
  have hgN2 := (hBWf.block _ hnW (fun h => h)).trans hgN
  clear c0 n1 hbW hnW hBf
  obtain ⟨af, capf, rfl⟩ := owns_len hOf
  obtain ⟨ah, caph, rfl⟩ := owns_len hs2.hp
  have HFN : Hid (∀ g, (Value.slice af (freshV im.classes x.a).length capf).ownBlock = some g → ¬ (P g ∨ (w.heap.size ≤ g ∧ g < W.heap.size)) ∧ lv.ownBlock ≠ some g ∧ ∀ v ∈ fv, v.ownBlock ≠ some g) := fun g hg => by
   have h1 := owns_ge hOf g hg
   have h2 : W.heap.size ≤ g := h1
   refine ⟨fun h3 => by have := hsW.pl g h3; omega, fun h3 => by have := owns_lt hsW.lo g h3; omega, fun v hv h3 => ?_⟩
   obtain ⟨k, ob, _, _, ho⟩ := hsW.fo hv
   have := owns_lt ho g h3
   omega
  have hWf := hBWf.size
  have hW1 := hBW.size
  generalize hNF : (freshV im.classes x.a).length = nf at *
  have HNF := hid hNF
  clear hNF
  have c1 := hs2.wk.c1
  have z1 := hs2.wk.fz 1
  have n1 : wf.cell? ⟨w.heap.size, 1, none⟩ = some (.int .i64 x.a) := by rw [cell_of_row wf _ 1 _ _ (0, 0) hgN2]; rfl
  have hbf := hs2.blt
  have hnf := lt_of_block hgN2
  have ab := hs2.hw
  have an : (Value.slice ah s.heap.length caph).ownBlock ≠ some w.heap.size := fun h => by have := owns_lt hst.hp _ h; omega
  obtain ⟨i0, hi0, hz0, hz1, hz2⟩ := info_parts objInfo
  have hn4 : s.heap.length ≤ 4000 := by omega
  have hw04 : w0.heap.size ≤ wf.heap.size := hs2.old.size
  go_wp2_with fail
  refine wpTx_begin (But (fun k => (Value.slice ah s.heap.length caph).ownBlock = some k) wf) 11 (by kernel_rfl) ?_
  have hS1 : But (fun k => (Value.slice ah s.heap.length caph).ownBlock = some k) wf wf.drew := But.drew _ _
  have fSC := hid (fun wS (h : (But (fun k => (Value.slice ah s.heap.length caph).ownBlock = some k) wf) wS) => (And.intro ((h.cell (p := ⟨bw, 1, none⟩) hbf ab).trans c1) ((h.cell (p := ⟨w.heap.size, 1, none⟩) hnf an).trans n1)))
  iterate 9 (refine wpTx_take (v := ?_) rfl (by kernel_rfl) (fun _ _ _ h => h) rfl hS1 ?_ ?_; rotate_left; (focus (intro wS h; obtain ⟨q0, q1⟩ := fSC.out wS h; clear h; go_simp; try rfl)); dsimp only [Act.put]; try simp only [puts])
  try clear fSC
  refine wpTx_step rfl (by kernel_rfl) ?_
  intro KS hKS
  go_simp
  refine hKS.out _ _ (fun _ => (But.alloc _ _ _).trans (But.drew _ _)) ?_
  clear hKS KS
  refine wpTx_step rfl (by kernel_rfl) ?_
  intro KS hKS
  refine step_append_lies _ (by rfl) _ _ _ (by rfl) w0.heap.size 265 i0 _ 2 32 (by kernel_rfl) hi0 hz0 hz1 hz2 rfl (by omega) _ s.heap.length (obCells s.heap fv) (by rfl) ((hs2.hp.alloc _).drew)
         ⟨wf.heap.size, 0, none⟩ 1 1 [.int .i64 x.a, .slice af nf capf] (by rfl) (by rfl) (World.news_of_block (cs := #[.int .i64 x.a, .slice af nf capf]) (t := 265) (fr := (0, 0)) (heap_alloc_new wf _)) (by simp [Value.oneCell'])
         (by omega) (by unfold maxLen; omega) (by omega) (by simp; omega) (wf.heap.size + 1) (by simp) ?_
  intro gg cap2 w2 hown2 hgrow hat hlt2
  have hSW : But (fun k => (Value.slice ah s.heap.length caph).ownBlock = some k) wf w2 := ((But.alloc _ _ _).trans (But.drew _ _)).trans (but_grown hgrow)
  refine hKS.out _ _ (fun _ => hSW) ?_
  clear hKS KS
  have y0 := (hSW.cell (p := ⟨bw, 1, none⟩) hbf ab).trans c1
  have y1 := (hSW.frozen (p := ⟨bw, 1, none⟩) hbf ab).trans z1
  refine wpTx_step rfl (by kernel_rfl) ?_
  intro KS hKS
  go_simp
  refine hKS.out _ _ (fun h => absurd h (by decide)) ?_
  clear hKS KS
  refine wpTx_step rfl (by kernel_rfl) ?_
  intro KS hKS
  go_simp
  refine hKS.out _ _ (fun h => absurd h (by decide)) ?_
  clear hKS KS
  refine wpTx_step rfl (by kernel_rfl) ?_
  intro KS hKS
  go_simp
  refine hKS.out _ _ (fun h => absurd h (by decide)) ?_
  clear hKS KS
  refine wpTx_done rfl (by kernel_rfl) ?_
  have hs3 := hs2.newOb (ob := ⟨x.a, freshV im.classes x.a⟩) (vf := .slice af nf capf) (hv' := .slice (some ⟨gg, 0, none⟩) (s.heap.length + 1) cap2) (by rw [HNF.out]; exact hOf) (Nat.le_trans hsW.old.size (Nat.le_refl _)) HFN.out hSW hown2 (fun g hg h => by
   simp only [Value.ownBlock, Option.some.injEq] at hg
   subst hg
   rcases hat with hat | hat
   ·exact hs2.ph gg hat h
   ·have := hs2.pl gg h; omega)
  have hB3 : But (FrD P w0) w (w2.setCell ⟨bw, 1, none⟩ (.slice (some ⟨gg, 0, none⟩) (s.heap.length + 1) cap2)) :=
   ((but_n hBd).next hSW (fun k hk h => ⟨owns_ge hst.hp k h, hst.ph k h⟩)).next (But.setB _ _ _ _) (fun k hk e => by subst e; exact ⟨hst.ge, hst.pw⟩)
  have hr3 := (hr2.but hSW (fun h => by have := owns_lt hst.hp _ h; omega)).but (But.setB w2 bw 1 (.slice (some ⟨gg, 0, none⟩) (s.heap.length + 1) cap2)) (fun e => by omega)
  clear y0 y1 c1 z1 n1 hSW hown2 hgrow hat HFN hs2 hOf hS1 hr2 hgN2 HNF
  generalize hPP : (fun k => P k ∨ (w.heap.size ≤ k ∧ k < W.heap.size)) = P1 at *
  have HPP := hid hPP
  clear hPP hsW
  generalize (w2.setCell ⟨bw, 1, none⟩ (.slice (some ⟨gg, 0, none⟩) (s.heap.length + 1) cap2)) = w3 at *
  have c1 := hs3.wk.c1
  have hb3 := hs3.blt
  obtain ⟨K9, N9, r0, r1, f0, f1, hrl⟩ := hr3.parts
  have hrw := wrapI ((s.heap.length : Int) + 1 - 1) (by omega) (by omega)
  rw [IntWalk.i64_left] at hrw
  go_wp2_with fail
  exact end_ok Tryz.results123 rfl rfl hs3 hr3 (by rw [← HPP.out]; exact Or.inr ⟨by omega, by omega⟩) (by omega) hst.old.size (fun k hk => by rw [← HPP.out]; exact Or.inl hk) hB3 (v := .o s.heap.length) rfl (by simp [V.N])
 ·have t0 : ((x.op.toNat : Int) == 114) = false := tsf (k := 114) (by omega)
  have t1 : ((x.op.toNat : Int) == 122) = false := tsf (k := 122) (by omega)
  have t2 : ((x.op.toNat : Int) == 108) = false := tsf (k := 108) (by omega)
  have t3 : ((x.op.toNat : Int) == 110) = false := tsf (k := 110) (by omega)
  rw [show leafV im inp x l s = .ok (.i x.b) l s from by unfold leafV; simp [h]]
  clear hx hx0 h
  go_enter Tryz.func123, Tryz.ntmps123
  go_wp2_with fail
  exact end_same Tryz.results123 rfl rfl hst ((But.alloc _ _ _).trans (But.alloc _ _ _)) (heap_alloc_at (by simp) _) (v := .i x.b) rfl rfl
structure FrS (P : Nat → Prop) (w0 w : World) (im : Img) (b : Bod) (bf d : Nat) (X : XBod) (vl vi : Value) (bl : Nat) : Prop where
 fr : FrB w bf d X vl vi bl
 pf : P bf
 bd : BodF w0 im.sigs b X vl vi
theorem NB.drew {w X : World} (h : NB w X) : NB w X.drew := ⟨h.but.trans (But.drew _ _), fun k a b => h.nb k a b⟩
section
variable {P : Nat → Prop} {w0 w w1 X : World} {be bw tx bl : Nat} {inp : ByteArray} {s : Ev} {lv vo vb : Value} {l : List V} {gs : List Nat} {fv : List Value} {im : Img} {b : Bod} {bf d : Nat} {Xb : XBod} {vl vi : Value}
theorem FrS.but (h : FrS P w0 w im b bf d Xb vl vi bl) (hB : But (FrQ P w0) w w1) : FrS P w0 w1 im b bf d Xb vl vi bl := ⟨h.fr.but hB (fun hf => hf.2 h.pf), h.pf, h.bd⟩
theorem FrS.grown (h : FrS P w0 w im b bf d Xb vl vi bl) (hN : NB w X) : FrS (PQ P w X) w0 X im b bf d Xb vl vi bl := ⟨h.fr.but hN.but (fun h => h), Or.inl h.pf, h.bd⟩
theorem FrS.cells (h : FrS P w0 w im b bf d Xb vl vi bl) : w.cell? ⟨bf, 0, none⟩ = some (.int .i64 d) ∧ w.cell? ⟨bf, 1, none⟩ = some (.int .u8 Xb.cls.toNat) ∧ w.cell? ⟨bf, 2, none⟩ = some (.int .i64 Xb.meth) ∧ w.cell? ⟨bf, 3, none⟩ = some (.int .u8 Xb.ans.toNat) ∧ w.cell? ⟨bf, 4, none⟩ = some vl ∧ w.cell? ⟨bf, 5, none⟩ = some vi ∧ w.cell? ⟨bf, 6, none⟩ = some (.pointer (some ⟨bl, 0, none⟩)) ∧ bf < w.heap.size := by
 have hf := h.fr
 unfold FrB at hf
 exact ⟨by rw [cell_of_row w bf 0 _ _ (0, 0) hf]; rfl, by rw [cell_of_row w bf 1 _ _ (0, 0) hf]; rfl, by rw [cell_of_row w bf 2 _ _ (0, 0) hf]; rfl, by rw [cell_of_row w bf 3 _ _ (0, 0) hf]; rfl, by rw [cell_of_row w bf 4 _ _ (0, 0) hf]; rfl, by rw [cell_of_row w bf 5 _ _ (0, 0) hf]; rfl, by rw [cell_of_row w bf 6 _ _ (0, 0) hf]; rfl, lt_of_block hf⟩
theorem ReV.pass {r : R} {en : Ending} (hN : NB w X) (h0 : w0.heap.size ≤ w.heap.size) (h : ReV (PQ P w X) w0 X be bw tx inp bl lv r en w1) :
  ∃ K N e : Int, en = .returned (.tuple #[.agg #[.int .i32 K, .int .i64 N], .int .i64 e]) ∧ ∀ r0, w.heap.size ≤ r0 → ResX X r0 → ResX w1 r0 ∧ ReV P w0 w be bw tx inp bl lv r (.returned (.tuple #[.agg #[.int .i32 K, .int .i64 N], .int .i64 e])) ((w1.setCell ⟨r0, 0, none⟩ (.int .i32 K)).setCell ⟨r0, 1, none⟩ (.int .i64 N)) := by
 obtain ⟨hB, vo, vb, gs, fv, h⟩ := h
 cases r with
 | ok u l s =>
  obtain ⟨rfl, hs⟩ := h
  refine ⟨xN u, xO u, 0, rfl, fun r0 hr hx => ?_⟩
  obtain ⟨a, b, c⟩ := StQ.fin hN h0 hs hB hr hx (xN u) (xO u)
  exact ⟨a, b, vo, vb, gs, fv, rfl, c⟩
 | bad e o =>
  obtain ⟨rfl, s, l, ho, hs⟩ := h
  refine ⟨0, 0, faultN e, rfl, fun r0 hr hx => ?_⟩
  obtain ⟨a, b, c⟩ := StQ.fin hN h0 hs hB hr hx 0 0
  exact ⟨a, b, vo, vb, gs, fv, rfl, s, l, ho, c⟩
structure DoW (w W : World) (pl op n pn pc : Nat) (c : UInt8) (pa : Option Addr) (u v : V) : Prop where
 nb : NB w W
 b0 : W.heap[w.heap.size]? = some (.cells #[.int .i64 pl, .int .u8 op, .int .u8 c.toNat, .int .i64 n, .slice pa pn pc] 219)
 b1 : W.heap[w.heap.size + 1]? = some (.cells #[.int .i32 (xN u), .int .i64 (xO u)] 168)
 b2 : W.heap[w.heap.size + 1 + 1]? = some (.cells #[.int .i32 (xN v), .int .i64 (xO v)] 168)
 b3 : W.heap[w.heap.size + 1 + 1 + 1]? = some (.cells #[.int .i32 0, .int .i64 0] 168)
 sz : W.heap.size = w.heap.size + 1 + 1 + 1 + 1
theorem doW {pl op n pn pc : Nat} {c : UInt8} {pa : Option Addr} {u v : V} : DoW w ((((w.alloc (.cells #[.int .i64 pl, .int .u8 op, .int .u8 c.toNat, .int .i64 n, .slice pa pn pc] 219)).alloc (.cells #[.int .i32 (xN u), .int .i64 (xO u)] 168)).alloc (.cells #[.int .i32 (xN v), .int .i64 (xO v)] 168)).alloc (.cells #[.int .i32 0, .int .i64 0] 168)) pl op n pn pc c pa u v := by
 refine ⟨nbDo, ?_, ?_, ?_, heap_alloc_at (by simp) _, by simp⟩
 ·exact ((((But.alloc (fun _ => False) _ _).trans (But.alloc _ _ _)).trans (But.alloc _ _ _)).block _ (by simp) (fun h => h)).trans (heap_alloc_new w _)
 ·exact (((But.alloc (fun _ => False) _ _).trans (But.alloc _ _ _)).block _ (by simp) (fun h => h)).trans (heap_alloc_at (by simp) _)
 ·exact ((But.alloc (fun _ => False) _ _).block _ (by simp) (fun h => h)).trans (heap_alloc_at (by simp) _)
section
variable {W : World} {pl op n pn pc : Nat} {c : UInt8} {pa : Option Addr} {u v : V}
theorem DoW.item (h : DoW w W pl op n pn pc c pa u v) : W.cell? ⟨w.heap.size, 0, none⟩ = some (.int .i64 pl) ∧ W.cell? ⟨w.heap.size, 1, none⟩ = some (.int .u8 op) ∧ W.cell? ⟨w.heap.size, 2, none⟩ = some (.int .u8 c.toNat) ∧ W.cell? ⟨w.heap.size, 3, none⟩ = some (.int .i64 n) ∧ W.cell? ⟨w.heap.size, 4, none⟩ = some (.slice pa pn pc) :=
 ⟨by rw [cell_of_row W _ 0 _ _ (0, 0) h.b0]; rfl, by rw [cell_of_row W _ 1 _ _ (0, 0) h.b0]; rfl, by rw [cell_of_row W _ 2 _ _ (0, 0) h.b0]; rfl, by rw [cell_of_row W _ 3 _ _ (0, 0) h.b0]; rfl, by rw [cell_of_row W _ 4 _ _ (0, 0) h.b0]; rfl⟩
theorem DoW.vals (h : DoW w W pl op n pn pc c pa u v) : W.cell? ⟨w.heap.size + 1, 0, none⟩ = some (.int .i32 (xN u)) ∧ W.cell? ⟨w.heap.size + 1, 1, none⟩ = some (.int .i64 (xO u)) ∧ W.cell? ⟨w.heap.size + 1 + 1, 0, none⟩ = some (.int .i32 (xN v)) ∧ W.cell? ⟨w.heap.size + 1 + 1, 1, none⟩ = some (.int .i64 (xO v)) :=
 ⟨by rw [cell_of_row W _ 0 _ _ (0, 0) h.b1]; rfl, by rw [cell_of_row W _ 1 _ _ (0, 0) h.b1]; rfl, by rw [cell_of_row W _ 0 _ _ (0, 0) h.b2]; rfl, by rw [cell_of_row W _ 1 _ _ (0, 0) h.b2]; rfl⟩
end
theorem edo_rest (h : StQ P w0 w be bw tx inp s bl lv l vo vb gs fv) (u v : V) (pl op n pn pc : Nat) (c : UInt8) (pa : Option Addr) (r : R) (n1 : op ≠ 44) (n2 : op ≠ 108) (n3 : op ≠ 115) (n4 : op ≠ 99)
  (HD : ∀ X, NB w X → Calls Tryz.prog 197 #[.pointer (some ⟨bw, 0, none⟩), .agg #[.int .i64 pl, .int .u8 op, .int .u8 c.toNat, .int .i64 n, .slice pa pn pc], xAgg u, xAgg v] X (ReV (PQ P w X) w0 X be bw tx inp bl lv r)) :
  Calls Tryz.prog 156 #[.pointer (some ⟨be, 0, none⟩), .pointer (some ⟨bf, 0, none⟩), .agg #[.int .i64 pl, .int .u8 op, .int .u8 c.toNat, .int .i64 n, .slice pa pn pc], xAgg u, xAgg v] w (ReV P w0 w be bw tx inp bl lv r) := by
 have HC := hid HD
 have h0 := h.old.size
 have e1 := h.ev.c1
 have hel := h.ev.lt
 have t1 : ((op : Int) == 44) = false := tsf (k := 44) n1
 have t2 : ((op : Int) == 108) = false := tsf (k := 108) n2
 have t3 : ((op : Int) == 115) = false := tsf (k := 115) n3
 have t4 : ((op : Int) == 99) = false := tsf (k := 99) n4
 have HDW := hid (doW (w := w) (pl := pl) (op := op) (n := n) (pn := pn) (pc := pc) (c := c) (pa := pa) (u := u) (v := v))
 clear HD n1 n2 n3 n4
 unfold xAgg at *
 go_enter Tryz.func156, Tryz.ntmps156
 go_wp2_with fail
 revert HDW
 generalize ((((w.alloc (.cells #[.int .i64 pl, .int .u8 op, .int .u8 c.toNat, .int .i64 n, .slice pa pn pc] 219)).alloc (.cells #[.int .i32 (xN u), .int .i64 (xO u)] 168)).alloc (.cells #[.int .i32 (xN v), .int .i64 (xO v)] 168)).alloc (.cells #[.int .i32 0, .int .i64 0] 168)) = W
 intro HDW
 have hD := HDW.out
 obtain ⟨i0, i1, i2, i3, i4⟩ := hD.item
 obtain ⟨v0, v1, v2, v3⟩ := hD.vals
 have hsz := hD.sz
 have hN := hD.nb
 have e1W := (hN.but.cell (p := ⟨be, 1, none⟩) hel (fun h => h)).trans e1
 have hrX : ResX W (w.heap.size + 1 + 1 + 1) := ⟨0, 0, hD.b3⟩
 have hbeP := h.k1
 clear HDW hD h e1
 have hS0 : But (fun _ => False) W W.drew := But.drew _ _
 have m0 : w.heap.size < W.heap.size := by omega
 have m1 : w.heap.size + 1 < W.heap.size := by omega
 have m2 : w.heap.size + 1 + 1 < W.heap.size := by omega
 have m3 : be < W.heap.size := by omega
 refine wpTx_begin (But (fun _ => False) W) 7 (by kernel_rfl) ?_
 have fSA := hid (fun wS (h : (But (fun _ => False) W) wS) => (And.intro ((h.cell (p := ⟨be, 1, none⟩) m3 (fun h => h)).trans e1W) (And.intro ((h.cell (p := ⟨w.heap.size, 0, none⟩) m0 (fun h => h)).trans i0) (And.intro ((h.cell (p := ⟨w.heap.size, 1, none⟩) m0 (fun h => h)).trans i1) (And.intro ((h.cell (p := ⟨w.heap.size, 2, none⟩) m0 (fun h => h)).trans i2) (And.intro ((h.cell (p := ⟨w.heap.size, 3, none⟩) m0 (fun h => h)).trans i3) (And.intro ((h.cell (p := ⟨w.heap.size, 4, none⟩) m0 (fun h => h)).trans i4) (And.intro ((h.cell (p := ⟨w.heap.size + 1, 0, none⟩) m1 (fun h => h)).trans v0) (And.intro ((h.cell (p := ⟨w.heap.size + 1, 1, none⟩) m1 (fun h => h)).trans v1) (And.intro ((h.cell (p := ⟨w.heap.size + 1 + 1, 0, none⟩) m2 (fun h => h)).trans v2) ((h.cell (p := ⟨w.heap.size + 1 + 1, 1, none⟩) m2 (fun h => h)).trans v3)))))))))))
 iterate 7 (refine wpTx_takeT (v := ?_) rfl (by kernel_rfl) (fun _ _ _ h => h) rfl hS0 ?_ ?_; rotate_left; (focus (intro wS h; obtain ⟨q0, q1, q2, q3, q4, q5, q6, q7, q8, q9⟩ := fSA.out wS h; clear h; go_simp; try rfl)); dsimp only [Act.put]; try simp only [puts])
 clear fSA
 refine wpTx_step rfl (by kernel_rfl) ?_
 intro KS hKS
 go_simp
 refine (HC.out _ (hN.drew)).mono ?_
 intro en w1 hre
 obtain ⟨K, N, e, rfl, hfin⟩ := ReV.pass hN.drew h0 hre
 refine hKS.out _ _ (fun h => absurd h (by decide)) ?_
 clear hKS KS
 iterate 2 (refine wpTx_takeW (v := ?_) rfl (by kernel_rfl) (fun _ _ _ h => h) rfl ?_ ?_; rotate_left; (focus (intro wS; go_simp; try rfl)); dsimp only [Act.put]; try simp only [puts])
 obtain ⟨hr1, hfi⟩ := hfin (w.heap.size + 1 + 1 + 1) (by omega) (hrX.but hS0 (fun h => h))
 obtain ⟨K9, N9, r0, r1, z0, z1, hrl⟩ := hr1.parts
 have HF := hid hfi
 clear hfi hfin hre HC i0 i1 i2 i3 i4 v0 v1 v2 v3 e1W hS0
 refine wpTx_step rfl (by kernel_rfl) ?_
 intro KS hKS
 go_simp
 refine hKS.out _ _ (fun h => absurd h (by decide)) ?_
 clear hKS KS
 refine wpTx_step rfl (by kernel_rfl) ?_
 intro KS hKS
 go_simp
 refine hKS.out _ _ (fun h => absurd h (by decide)) ?_
 clear hKS KS
 refine wpTx_done rfl (by kernel_rfl) ?_
 go_wp2_with fail
 exact retX Tryz.results156 rfl rfl rfl (hr1.put _ _) HF.out
theorem edo_comma (h : StQ P w0 w be bw tx inp s bl lv l vo vb gs fv) (hF : FrS P w0 w im b bf d Xb vl vi bl) (u v : V) (pl n pn pc : Nat) (c : UInt8) (pa : Option Addr) :
  Calls Tryz.prog 156 #[.pointer (some ⟨be, 0, none⟩), .pointer (some ⟨bf, 0, none⟩), .agg #[.int .i64 pl, .int .u8 44, .int .u8 c.toNat, .int .i64 n, .slice pa pn pc], xAgg u, xAgg v] w (ReV P w0 w be bw tx inp bl lv (.ok v l s)) := by
 have HH := hid h
 clear h hF
 unfold xAgg at *
 go_enter Tryz.func156, Tryz.ntmps156
 go_wp2_with fail
 exact retX Tryz.results156 rfl rfl rfl (heap_alloc_at (by simp) _) ⟨nbDo.but.mono (fun _ _ h => h.elim), vo, vb, gs, fv, rfl, HH.out.new nbDo.but⟩
theorem edo_l (h : StQ P w0 w be bw tx inp s bl lv l vo vb gs fv) (hF : FrS P w0 w im b bf d Xb vl vi bl) (u v : V) (pl n pn pc : Nat) (c : UInt8) (pa : Option Addr) (q : V) (hq : l[n]? = some q) :
  Calls Tryz.prog 156 #[.pointer (some ⟨be, 0, none⟩), .pointer (some ⟨bf, 0, none⟩), .agg #[.int .i64 pl, .int .u8 108, .int .u8 c.toNat, .int .i64 n, .slice pa pn pc], xAgg u, xAgg v] w (ReV P w0 w be bw tx inp bl lv (.ok q l s)) := by
 have HDW := hid (doW (w := w) (pl := pl) (op := 108) (n := n) (pn := pn) (pc := pc) (c := c) (pa := pa) (u := u) (v := v))
 rw [show ((108 : Nat) : Int) = 108 from rfl] at HDW
 obtain ⟨_, _, _, _, _, _, c6, hbf⟩ := hF.cells
 have HC := hid (fun X (hX : But (fun _ => False) w X) => get_any (h.new hX) n q hq)
 have HH := hid h
 clear h hF hq
 unfold xAgg at *
 go_enter Tryz.func156, Tryz.ntmps156
 go_wp2_with fail
 revert HDW
 generalize ((((w.alloc (.cells #[.int .i64 pl, .int .u8 108, .int .u8 c.toNat, .int .i64 n, .slice pa pn pc] 219)).alloc (.cells #[.int .i32 (xN u), .int .i64 (xO u)] 168)).alloc (.cells #[.int .i32 (xN v), .int .i64 (xO v)] 168)).alloc (.cells #[.int .i32 0, .int .i64 0] 168)) = W
 intro HDW
 have hD := HDW.out
 obtain ⟨i0, i1, i2, i3, i4⟩ := hD.item
 have hsz := hD.sz
 have hN := hD.nb
 have c6W := (hN.but.cell (p := ⟨bf, 6, none⟩) hbf (fun h => h)).trans c6
 have hrX : ResX W (w.heap.size + 1 + 1 + 1) := ⟨0, 0, hD.b3⟩
 clear HDW hD c6 i0 i1 i2 i4
 have hS0 : But (fun _ => False) W W.drew := But.drew _ _
 have m0 : w.heap.size < W.heap.size := by omega
 have m3 : bf < W.heap.size := by omega
 refine wpTx_begin (But (fun _ => False) W) 6 (by kernel_rfl) ?_
 have fSA := hid (fun wS (h : (But (fun _ => False) W) wS) => (And.intro ((h.cell (p := ⟨bf, 6, none⟩) m3 (fun h => h)).trans c6W) ((h.cell (p := ⟨w.heap.size, 3, none⟩) m0 (fun h => h)).trans i3)))
 iterate 6 (refine wpTx_takeT (v := ?_) rfl (by kernel_rfl) (fun _ _ _ h => h) rfl hS0 ?_ ?_; rotate_left; (focus (intro wS h; obtain ⟨q0, q1⟩ := fSA.out wS h; clear h; go_simp; try rfl)); dsimp only [Act.put]; try simp only [puts])
 clear fSA
 refine wpTx_step rfl (by kernel_rfl) ?_
 intro KS hKS
 go_simp
 refine (HC.out _ (hN.but.trans hS0)).mono ?_
 rintro en w1 ⟨rfl, hB1⟩
 refine hKS.out _ _ (fun h => absurd h (by decide)) ?_
 clear hKS KS HC
 have HF := hid (fun a b => HH.out.fin0 hN (hS0.trans hB1) (r := w.heap.size + 1 + 1 + 1) (by omega) hrX a b)
 obtain ⟨K9, N9, r0, r1, z0, z1, hrl⟩ := (HF.out 0 0).1.parts
 have hr1 := (HF.out 0 0).1
 clear HH i3 c6W hS0
 refine wpTx_step rfl (by kernel_rfl) ?_
 intro KS hKS
 go_simp
 refine hKS.out _ _ (fun h => absurd h (by decide)) ?_
 clear hKS KS
 refine wpTx_step rfl (by kernel_rfl) ?_
 intro KS hKS
 go_simp
 refine hKS.out _ _ (fun h => absurd h (by decide)) ?_
 clear hKS KS
 refine wpTx_done rfl (by kernel_rfl) ?_
 go_wp2_with fail
 exact retX Tryz.results156 rfl rfl rfl (hr1.put _ _) ⟨(HF.out _ _).2.1, _, _, _, _, rfl, (HF.out _ _).2.2⟩
theorem edo_s (h : StQ P w0 w be bw tx inp s bl lv l vo vb gs fv) (hF : FrS P w0 w im b bf d Xb vl vi bl) (u v : V) (pl n pn pc : Nat) (c : UInt8) (pa : Option Addr) (hn : n < l.length) :
  Calls Tryz.prog 156 #[.pointer (some ⟨be, 0, none⟩), .pointer (some ⟨bf, 0, none⟩), .agg #[.int .i64 pl, .int .u8 115, .int .u8 c.toNat, .int .i64 n, .slice pa pn pc], xAgg u, xAgg v] w (ReV P w0 w be bw tx inp bl lv (.ok (.i 0) (l.set n u) s)) := by
 have HDW := hid (doW (w := w) (pl := pl) (op := 115) (n := n) (pn := pn) (pc := pc) (c := c) (pa := pa) (u := u) (v := v))
 rw [show ((115 : Nat) : Int) = 115 from rfl] at HDW
 obtain ⟨_, _, _, _, _, _, c6, hbf⟩ := hF.cells
 have HC := hid (fun X (hX : NB w X) => set_any (h.grown hX) n u hn)
 have h0 := h.old.size
 clear h hF hn
 unfold xAgg at *
 go_enter Tryz.func156, Tryz.ntmps156
 go_wp2_with fail
 revert HDW
 generalize ((((w.alloc (.cells #[.int .i64 pl, .int .u8 115, .int .u8 c.toNat, .int .i64 n, .slice pa pn pc] 219)).alloc (.cells #[.int .i32 (xN u), .int .i64 (xO u)] 168)).alloc (.cells #[.int .i32 (xN v), .int .i64 (xO v)] 168)).alloc (.cells #[.int .i32 0, .int .i64 0] 168)) = W
 intro HDW
 have hD := HDW.out
 obtain ⟨i0, i1, i2, i3, i4⟩ := hD.item
 obtain ⟨v0, v1, v2, v3⟩ := hD.vals
 have hsz := hD.sz
 have hN := hD.nb
 have c6W := (hN.but.cell (p := ⟨bf, 6, none⟩) hbf (fun h => h)).trans c6
 have hrX : ResX W (w.heap.size + 1 + 1 + 1) := ⟨0, 0, hD.b3⟩
 clear HDW hD c6 i0 i1 i2 i4 v2 v3
 have hS0 : But (fun _ => False) W W.drew := But.drew _ _
 have m0 : w.heap.size < W.heap.size := by omega
 have m1 : w.heap.size + 1 < W.heap.size := by omega
 have m3 : bf < W.heap.size := by omega
 refine wpTx_begin (But (fun _ => False) W) 7 (by kernel_rfl) ?_
 have fSA := hid (fun wS (h : (But (fun _ => False) W) wS) => (And.intro ((h.cell (p := ⟨bf, 6, none⟩) m3 (fun h => h)).trans c6W) (And.intro ((h.cell (p := ⟨w.heap.size, 3, none⟩) m0 (fun h => h)).trans i3) (And.intro ((h.cell (p := ⟨w.heap.size + 1, 0, none⟩) m1 (fun h => h)).trans v0) ((h.cell (p := ⟨w.heap.size + 1, 1, none⟩) m1 (fun h => h)).trans v1)))))
 iterate 7 (refine wpTx_takeT (v := ?_) rfl (by kernel_rfl) (fun _ _ _ h => h) rfl hS0 ?_ ?_; rotate_left; (focus (intro wS h; obtain ⟨q0, q1, q2, q3⟩ := fSA.out wS h; clear h; go_simp; try rfl)); dsimp only [Act.put]; try simp only [puts])
 clear fSA
 refine wpTx_step rfl (by kernel_rfl) ?_
 intro KS hKS
 go_simp
 refine (HC.out _ hN.drew).mono ?_
 rintro en w1 ⟨rfl, hB1, hs1⟩
 refine hKS.out _ _ (fun h => absurd h (by decide)) ?_
 clear hKS KS HC
 refine wpTx_done rfl (by kernel_rfl) ?_
 have HF := hid (fun a b => StQ.fin hN.drew h0 hs1 hB1 (r := w.heap.size + 1 + 1 + 1) (by omega) (hrX.but hS0 (fun h => h)) a b)
 obtain ⟨K9, N9, r0, r1, z0, z1, hrl⟩ := (HF.out 0 0).1.parts
 have hr1 := (HF.out 0 0).1
 clear i3 c6W hS0 v0 v1 hs1 hB1
 go_wp2_with fail
 exact retX Tryz.results156 rfl rfl rfl (hr1.put _ _) ⟨(HF.out _ _).2.1, _, _, _, _, rfl, (HF.out _ _).2.2⟩
theorem edo_c (h : StQ P w0 w be bw tx inp s bl lv l vo vb gs fv) (u v : V) (pl n pn pc : Nat) (c : UInt8) (pa : Option Addr) (r : R)
  (HD : ∀ X, NB w X → Calls Tryz.prog 208 #[.pointer (some ⟨be, 0, none⟩), .pointer (some ⟨bf, 0, none⟩), .agg #[.int .i64 pl, .int .u8 99, .int .u8 c.toNat, .int .i64 n, .slice pa pn pc], xAgg u, xAgg v] X (ReV (PQ P w X) w0 X be bw tx inp bl lv r)) :
  Calls Tryz.prog 156 #[.pointer (some ⟨be, 0, none⟩), .pointer (some ⟨bf, 0, none⟩), .agg #[.int .i64 pl, .int .u8 99, .int .u8 c.toNat, .int .i64 n, .slice pa pn pc], xAgg u, xAgg v] w (ReV P w0 w be bw tx inp bl lv r) := by
 have HDW := hid (doW (w := w) (pl := pl) (op := 99) (n := n) (pn := pn) (pc := pc) (c := c) (pa := pa) (u := u) (v := v))
 rw [show ((99 : Nat) : Int) = 99 from rfl] at HDW
 have HC := hid HD
 have h0 := h.old.size
 clear h HD
 unfold xAgg at *
 go_enter Tryz.func156, Tryz.ntmps156
 go_wp2_with fail
 revert HDW
 generalize ((((w.alloc (.cells #[.int .i64 pl, .int .u8 99, .int .u8 c.toNat, .int .i64 n, .slice pa pn pc] 219)).alloc (.cells #[.int .i32 (xN u), .int .i64 (xO u)] 168)).alloc (.cells #[.int .i32 (xN v), .int .i64 (xO v)] 168)).alloc (.cells #[.int .i32 0, .int .i64 0] 168)) = W
 intro HDW
 have hD := HDW.out
 have hsz := hD.sz
 have hN := hD.nb
 have hrX : ResX W (w.heap.size + 1 + 1 + 1) := ⟨0, 0, hD.b3⟩
 refine (HC.out _ hN).mono ?_
 intro en w1 hre
 obtain ⟨K, N, e, rfl, hfin⟩ := ReV.pass hN h0 hre
 obtain ⟨hr1, hfi⟩ := hfin (w.heap.size + 1 + 1 + 1) (by omega) hrX
 obtain ⟨K9, N9, r0, r1, z0, z1, hrl⟩ := hr1.parts
 have HF := hid hfi
 clear hfi hfin hre HC HDW hD
 go_wp2_with fail
 exact retX Tryz.results156 rfl rfl rfl (hr1.put _ _) HF.out
end
end Go.Proofs.YtpfkkmacakjmbaaGreatDoor
