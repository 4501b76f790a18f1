import Derived.Test.YtpfkkmacakjmbaaGreatDoorP25
import Derived.Test.YtpfkkmacakjmbaaGreatDoorP26
set_option maxRecDepth 100000
set_option maxHeartbeats 6400000
namespace Go.Proofs.YtpfkkmacakjmbaaGreatDoor
open Go Go.RowKit Sp
set_option linter.unusedSimpArgs false
set_option linter.unusedVariables false
attribute [local go_sem ↓] Go.wp_at_zero Go.wp_at_succ
def ResD (P : Nat → Prop) (w0 : World) (bw bi : Nat) (inp : ByteArray) (d : Nat) (lv : Value) (r : R) (en : Ending) (w' : World) : Prop := match r with
 | .bad e o => (∃ a b : Int, en = .returned (.agg #[.int .u8 a, .int .i64 b])) ∧ bw < w'.heap.size ∧ ∃ (hv : Value) (r l : Int), WkB w' bw bi hv inp r l d o e
 | .ok v l s => en = .returned (vAgg v) ∧ ∃ hv fv, StX P w0 w' bw bi inp d s lv l hv fv
abbrev FrD (P : Nat → Prop) (w0 : World) (k : Nat) : Prop := w0.heap.size ≤ k ∧ ¬ P k
theorem but_w {P : Nat → Prop} {w0 w w' : World} {bw bi d : Nat} {inp : ByteArray} {s : Ev} {lv hv : Value} {l : List V} {fv : List Value} (hst : StX P w0 w bw bi inp d s lv l hv fv) (h : But (· = bw) w w') : But (FrD P w0) w w' := h.mono (fun k _ e => by subst e; exact ⟨hst.ge, hst.pw⟩)
theorem but_n {F : Nat → Prop} {w w' : World} (h : But (fun _ => False) w w') : But F w w' := h.mono (fun _ _ h => h.elim)
theorem arith_any (P : Nat → Prop) (w0 w : World) (bw bi d : Nat) (inp : ByteArray) (s : Ev) (lv hv : Value) (l : List V) (fv : List Value) (hst : StX P w0 w bw bi inp d s lv l hv fv) (op : Nat) (hop : op = 43 ∨ op = 45 ∨ op = 42 ∨ op = 60 ∨ op = 61 ∨ op = 47) (a b : Int) (a1 : -2147483648 ≤ a) (a2 : a < 2147483648) (b1 : -2147483648 ≤ b) (b2 : b < 2147483648) :
  Calls Tryz.prog 188 #[.pointer (some ⟨bw, 0, none⟩), .int .u8 op, .int .i64 a, .int .i64 b] w fun en w' => But (FrD P w0) w w' ∧ ResD P w0 bw bi inp d lv (arithV op a b l s) en w' := by
 have hbl := hst.blt
 have hfr : FrD P w0 bw := ⟨hst.ge, hst.pw⟩
 by_cases h47 : op = 47
 ·subst h47
  by_cases h0 : b = 0
  ·subst h0
   rw [show arithV 47 a 0 l s = .bad 7 s.out from by simp [arithV]]
   have fz := hst.wk.fz 7
   have c7 := hst.wk.c7
   have HK := hid hst.wk
   go_enter Tryz.func188, Tryz.ntmps188
   go_wp2_with fail
   exact bodyPost_ret (v := .agg #[.int .u8 0, .int .i64 0]) (by simp [results, Tryz.results188, go_sem]) rfl ⟨but_w hst ((But.setB _ _ _ _).trans (But.alloc _ _ _)), ⟨⟨0, 0, rfl⟩, by simp [World.setCell]; omega, hv, _, _, (HK.out.set7 7).but (But.alloc (fun _ => False) _ _) (fun h => h)⟩⟩
  ·rw [show arithV 47 a b l s = .ok (.i (w32 (Int.tdiv a b))) l s from by simp [arithV, h0]]
   have h0' : (b == 0) = false := by simpa using h0
   obtain ⟨q, hq⟩ : ∃ q, Int.tdiv a b = q := ⟨_, rfl⟩
   have hqa : q.natAbs ≤ a.natAbs := by rw [← hq, Int.natAbs_tdiv]; exact Nat.div_le_self _ _
   rw [hq]
   have hwq : wrap64 q = q := IntWalk.wrap64_in q ⟨by omega, by omega⟩
   go_enter Tryz.func188, Tryz.ntmps188
   go_wp2_with fail
   refine (wrap_any _ (by omega) (by omega) _).mono ?_
   rintro en wx ⟨rfl, hwx⟩
   rw [hwx]
   clear hwx wx
   go_wp2_with fail
   exact bodyPost_ret (v := vAgg (.i (w32 q))) (by simp [results, Tryz.results188, go_sem, vAgg, V.K, V.N]) rfl ⟨but_n (But.alloc _ _ _), rfl, hv, fv, hst.new (But.alloc _ _ _)⟩
 ·rw [show arithV op a b l s = .ok (.i (aluV op a b)) l s from by simp [arithV, h47]]
  have hop' : op = 43 ∨ op = 45 ∨ op = 42 ∨ op = 60 ∨ op = 61 := by omega
  have ht : ((op : Int) == 47) = false := by rw [beq_eq_false_iff_ne]; omega
  have HA := hid (fun w => alu_any op hop' a b a1 a2 b1 b2 w)
  clear hop hop' h47
  go_enter Tryz.func188, Tryz.ntmps188
  go_wp2_with fail
  refine (HA.out _).mono ?_
  rintro en wx ⟨rfl, hwx⟩
  rw [hwx]
  clear hwx wx
  go_wp2_with fail
  exact bodyPost_ret (v := vAgg (.i (aluV op a b))) (by simp [results, Tryz.results188, go_sem, vAgg, V.K, V.N]) rfl ⟨but_n (But.alloc _ _ _), rfl, hv, fv, hst.new (But.alloc _ _ _)⟩
section
variable {fn : Func} {a : Act} {w0 w X : World} {c r bw bi d : Nat} {P P1 : Nat → Prop} {inp : ByteArray} {s : Ev} {lv hv : Value} {l : List V} {fv : List Value}
theorem end_ok (hf : fn.results = #[.cell c 135]) (hd : a.defers = []) (hc : a.tmps.getD c undef = .pointer (some ⟨r, 0, none⟩)) (hs : StX P1 w0 X bw bi inp d s lv l hv fv) (hr : ResB X r) (hr1 : P1 r) (hr2 : w.heap.size ≤ r) (h0 : w0.heap.size ≤ w.heap.size) (hPP : ∀ k, P k → P1 k) (hB : But (FrD P w0) w X) {v : V} {K N : Int} (hK : K = v.K) (hN : N = v.N) :
  bodyPost Tryz.prog fn (fun en w' => But (FrD P w0) w w' ∧ ResD P w0 bw bi inp d lv (.ok v l s) en w') .ret a ((X.setCell ⟨r, 0, none⟩ (.int .u8 K)).setCell ⟨r, 1, none⟩ (.int .i64 N)) := by
 subst hK hN
 refine ret_val hf hd hc (hr.put _ _) ⟨hB.next (but_put _ _ _ _) (fun k hk e => by omega), rfl, hv, fv, (hs.tmp (but_put _ _ _ _) (fun k e => ?_)).less hPP⟩
 subst e
 exact ⟨hr1, by omega⟩
theorem end_same (hf : fn.results = #[.cell c 135]) (hd : a.defers = []) (hc : a.tmps.getD c undef = .pointer (some ⟨r, 0, none⟩)) (hs : StX P w0 w bw bi inp d s lv l hv fv) (hB : But (fun _ => False) w X) {v : V} {K N : Int} (hr : X.heap[r]? = some (.cells #[.int .u8 K, .int .i64 N] 135)) (hK : K = v.K) (hN : N = v.N) :
  bodyPost Tryz.prog fn (fun en w' => But (FrD P w0) w w' ∧ ResD P w0 bw bi inp d lv (.ok v l s) en w') .ret a X := by
 subst hK hN
 exact ret_val hf hd hc hr ⟨but_n hB, rfl, hv, fv, hs.new hB⟩
theorem end_to {X0 : World} (hf : fn.results = #[.cell c 135]) (hd : a.defers = []) (hc : a.tmps.getD c undef = .pointer (some ⟨r, 0, none⟩)) (hs : StX P w0 X0 bw bi inp d s lv l hv fv) (hB0 : But (FrD P w0) w X0) (hB : But (fun _ => False) X0 X) {v : V} {K N : Int} (hr : X.heap[r]? = some (.cells #[.int .u8 K, .int .i64 N] 135)) (hK : K = v.K) (hN : N = v.N) :
  bodyPost Tryz.prog fn (fun en w' => But (FrD P w0) w w' ∧ ResD P w0 bw bi inp d lv (.ok v l s) en w') .ret a X := by
 subst hK hN
 exact ret_val hf hd hc hr ⟨hB0.trans (but_n hB), rfl, hv, fv, hs.new hB⟩
theorem end_no {X0 : World} (hf : fn.results = #[.cell c 135]) (hd : a.defers = []) (hc : a.tmps.getD c undef = .pointer (some ⟨r, 0, none⟩)) {rd lf e : Int} {E : Nat} {o : List UInt8} (hs : WkB X0 bw bi hv inp rd lf d o e) (he : e = E) (hB0 : But (FrD P w0) w X0) (hB : But (fun _ => False) X0 X) {K N : Int} (hr : X.heap[r]? = some (.cells #[.int .u8 K, .int .i64 N] 135)) :
  bodyPost Tryz.prog fn (fun en w' => But (FrD P w0) w w' ∧ ResD P w0 bw bi inp d lv (.bad E o) en w') .ret a X := by
 subst he
 have hk := hs.but hB (fun h => h)
 exact ret_val hf hd hc hr ⟨hB0.trans (but_n hB), ⟨_, _, rfl⟩, hk.lt, hv, _, _, hk⟩
theorem end_bad (hf : fn.results = #[.cell c 135]) (hd : a.defers = []) (hc : a.tmps.getD c undef = .pointer (some ⟨r, 0, none⟩)) {rd lf e : Int} {E : Nat} {o : List UInt8} (hs : WkB X bw bi hv inp rd lf d o e) (he : e = E) (hne : bw ≠ r) (hr : ResB X r) (hr2 : w.heap.size ≤ r) (hB : But (FrD P w0) w X) {K N : Int} :
  bodyPost Tryz.prog fn (fun en w' => But (FrD P w0) w w' ∧ ResD P w0 bw bi inp d lv (.bad E o) en w') .ret a ((X.setCell ⟨r, 0, none⟩ (.int .u8 K)).setCell ⟨r, 1, none⟩ (.int .i64 N)) := by
 subst he
 have hk := hs.but (but_put X r (.int .u8 K) (.int .i64 N)) (fun h => hne h)
 exact ret_val hf hd hc (hr.put _ _) ⟨hB.next (but_put _ _ _ _) (fun k hk e => by omega), ⟨_, _, rfl⟩, hk.lt, hv, _, _, hk⟩
theorem end_okA (hf : fn.results = #[.cell c 135]) (hd : a.defers = []) (hc : a.tmps.getD c undef = .pointer (some ⟨r, 0, none⟩)) (hs : StX P1 w0 X bw bi inp d s lv l hv fv) (hr : ResB X r) (hr1 : P1 r) (hr2 : w.heap.size ≤ r) (h0 : w0.heap.size ≤ w.heap.size) (hPP : ∀ k, P k → P1 k) (hB : But (FrD P w0) w X) {v : V} {K N : Int} {o : Obj} (hK : K = v.K) (hN : N = v.N) :
  bodyPost Tryz.prog fn (fun en w' => But (FrD P w0) w w' ∧ ResD P w0 bw bi inp d lv (.ok v l s) en w') .ret a (((X.setCell ⟨r, 0, none⟩ (.int .u8 K)).setCell ⟨r, 1, none⟩ (.int .i64 N)).alloc o) := by
 subst hK hN
 have hp := hr.put v.K v.N
 refine ret_val hf hd hc (((But.alloc (fun _ => False) _ o).block r (lt_of_block hp) (fun h => h)).trans hp) ⟨(hB.next (but_put _ _ _ _) (fun k hk e => by omega)).trans (But.alloc _ _ _), rfl, hv, fv, ((hs.tmp (but_put _ _ _ _) (fun k e => ?_)).less hPP).new (But.alloc _ _ _)⟩
 subst e
 exact ⟨hr1, by omega⟩
theorem end_badA (hf : fn.results = #[.cell c 135]) (hd : a.defers = []) (hc : a.tmps.getD c undef = .pointer (some ⟨r, 0, none⟩)) {rd lf e : Int} {E : Nat} {o : List UInt8} (hs : WkB X bw bi hv inp rd lf d o e) (he : e = E) (hne : bw ≠ r) (hr : ResB X r) (hr2 : w.heap.size ≤ r) (hB : But (FrD P w0) w X) {K N : Int} {ob : Obj} :
  bodyPost Tryz.prog fn (fun en w' => But (FrD P w0) w w' ∧ ResD P w0 bw bi inp d lv (.bad E o) en w') .ret a (((X.setCell ⟨r, 0, none⟩ (.int .u8 K)).setCell ⟨r, 1, none⟩ (.int .i64 N)).alloc ob) := by
 subst he
 have hk := (hs.but (but_put X r (.int .u8 K) (.int .i64 N)) (fun h => hne h)).but (But.alloc (fun _ => False) _ ob) (fun h => h)
 have hp := hr.put K N
 exact ret_val hf hd hc (((But.alloc (fun _ => False) _ ob).block r (lt_of_block hp) (fun h => h)).trans hp) ⟨(hB.next (but_put _ _ _ _) (fun k hk e => by omega)).trans (But.alloc _ _ _), ⟨_, _, rfl⟩, hk.lt, hv, _, _, hk⟩
theorem ResD.val {rr : R} {en : Ending} (h : ResD P w0 bw bi inp d lv rr en X) : ∃ K N : Int, en = .returned (.agg #[.int .u8 K, .int .i64 N]) := by
 cases rr with
 | bad e o => exact h.1
 | ok v l s => exact ⟨_, _, h.1⟩
theorem pass_on {W w1 : World} {rr : R} {K N : Int} (hf : fn.results = #[.cell c 135]) (hd : a.defers = []) (hc : a.tmps.getD c undef = .pointer (some ⟨r, 0, none⟩)) (hB0 : But (FrD P w0) w W) (hB : But (FrD P1 w0) W w1) (hq : ResD P1 w0 bw bi inp d lv rr (.returned (.agg #[.int .u8 K, .int .i64 N])) w1) (hr : ResB w1 r) (hr1 : P1 r) (hr2 : w.heap.size ≤ r) (h0 : w0.heap.size ≤ w.heap.size) (hPP : ∀ k, P k → P1 k) (hbr : bw ≠ r) :
  bodyPost Tryz.prog fn (fun en w' => But (FrD P w0) w w' ∧ ResD P w0 bw bi inp d lv rr en w') .ret a ((w1.setCell ⟨r, 0, none⟩ (.int .u8 K)).setCell ⟨r, 1, none⟩ (.int .i64 N)) := by
 have hB1 : But (FrD P w0) w w1 := hB0.trans (hB.mono (fun k _ h => ⟨h.1, fun hp => h.2 (hPP k hp)⟩))
 cases rr with
 | bad e o =>
  obtain ⟨_, _, hv, rd, lf, hk⟩ := hq
  exact end_bad hf hd hc hk rfl hbr hr hr2 hB1
 | ok v l s =>
  obtain ⟨he, hv, fv, hs⟩ := hq
  injection he with he
  injection he with he
  simp only [Array.mk.injEq, List.cons.injEq, Value.int.injEq, true_and, and_true] at he
  exact end_ok hf hd hc hs hr hr1 hr2 h0 hPP hB1 he.1 he.2
end
theorem objInfo : (Tryz.prog.info? 265).map (fun i => (i.zero, i.size, i.bytes)) = some (some (.agg #[.int .i64 0, .slice none 0 0]), 2, 32) := by kernel_rfl
theorem tst {x k : Nat} (h : x = k) : ((x : Int) == (k : Int)) = true := by rw [beq_iff_eq]; omega
theorem tsf {x k : Nat} (h : x ≠ k) : ((x : Int) == (k : Int)) = false := by rw [beq_eq_false_iff_ne]; omega
theorem leaf_any {B : Nat} (P : Nat → Prop) (w0 w : World) (bw bi d : Nat) (inp : ByteArray) (s : Ev) (lv hv : Value) (l : List V) (fv : List Value) (im : Img) (hI : ImgS w0 bi im) (hW : WfIS im) (hst : StX P w0 w bw bi inp d s lv l hv fv) (hs : StT im B s) (x : Ins) (e nl : Nat) (hx : WfN im.classes im.sigs.length nl x) (hll : l.length = nl) (hx0 : arity x.op = 0) :
  Calls Tryz.prog 123 #[.pointer (some ⟨bw, 0, none⟩), .agg #[.int .u8 x.op.toNat, .int .i64 x.a, .int .i64 x.b, .int .i64 x.pos, .int .i64 e], lv] w fun en w' => But (FrD P w0) w w' ∧ ResD P w0 bw bi inp d lv (leafV im inp x l s) en w' := by
 have hbl := hst.blt
 have hop : x.op.toNat = 114 ∨ x.op.toNat = 122 ∨ x.op.toNat = 108 ∨ x.op.toNat = 110 ∨ (x.op.toNat ≠ 114 ∧ x.op.toNat ≠ 122 ∧ x.op.toNat ≠ 108 ∧ x.op.toNat ≠ 110) := by omega
 have hcap := hs.cap
 have hrd := hs.rd
 obtain ⟨W, hWW⟩ : ∃ W, (w.alloc (.cells #[.int .u8 x.op.toNat, .int .i64 x.a, .int .i64 x.b, .int .i64 x.pos, .int .i64 e] 147)).alloc (.cells #[.int .u8 0, .int .i64 0] 135) = W := ⟨_, rfl⟩
 have hBW : But (fun _ => False) w W := by rw [← hWW]; exact (But.alloc _ _ _).trans (But.alloc _ _ _)
 have hgN : W.heap[w.heap.size]? = some (.cells #[.int .u8 x.op.toNat, .int .i64 x.a, .int .i64 x.b, .int .i64 x.pos, .int .i64 e] 147) := by rw [← hWW]; exact ((But.alloc (fun _ => False) _ _).block _ (by simp) (fun h => h)).trans (heap_alloc_new w _)
 have hgR : W.heap[w.heap.size + 1]? = some (.cells #[.int .u8 0, .int .i64 0] 135) := by rw [← hWW]; exact heap_alloc_at (by simp) _
 have hsW := hst.grow hBW
 have hrr : ResB W (w.heap.size + 1) := ⟨0, 0, hgR⟩
 have hgW := lt_of_block hgR
 have HWW := hid hWW
 clear hWW
 rcases hop with h | h | h | h | h
 ·have t1 : ((x.op.toNat : Int) == 114) = true := tst h
  rw [show leafV im inp x l s = .ok (.i (nextV inp s.read)) l { s with read := s.read + 1 } from by unfold leafV; rw [if_pos h]]
  clear hx hx0 h
  go_enter Tryz.func123, Tryz.ntmps123
  go_wp2_with fail
  rw [HWW.out]
  clear HWW
  have c2 := hsW.wk.c2
  have c3 := hsW.wk.c3
  have fz := hsW.wk.fz 3
  have hbW := hsW.blt
  refine wpTx_begin (But (fun _ => False) W) 9 (by kernel_rfl) ?_
  have hS0 : But (fun _ => False) W W.drew := But.drew _ _
  have fSA := hid (fun wS (h : (But (fun _ => False) W) wS) => (And.intro ((h.cell (p := ⟨bw, 2, none⟩) hbW (fun h => h)).trans c2) ((h.cell (p := ⟨bw, 3, none⟩) hbW (fun h => h)).trans c3)))
  iterate 8 (refine wpTx_take (v := ?_) rfl (by kernel_rfl) (fun _ _ _ h => h) rfl hS0 ?_ ?_; rotate_left; (focus (intro wS h; obtain ⟨q0, q1⟩ := fSA.out wS h; clear h; go_simp; try rfl)); dsimp only [Act.put]; try simp only [puts])
  try clear fSA
  refine wpTx_step rfl (by kernel_rfl) ?_
  intro KS hKS
  go_simp
  refine (nextIn_any inp s.read (by omega) _).mono ?_
  rintro en wx ⟨rfl, hwx⟩
  rw [hwx]
  clear hwx wx
  refine hKS.out _ _ (fun _ => hS0) ?_
  clear hKS KS
  refine wpTx_step rfl (by kernel_rfl) ?_
  intro KS hKS
  go_simp
  refine hKS.out _ _ (fun h => absurd h (by decide)) ?_
  clear hKS KS
  refine wpTx_done rfl (by kernel_rfl) ?_
  have hs2 := hsW.new hS0
  have hBd := hBW.trans hS0
  have hr2 := hrr.but hS0 (fun h => h)
  clear hS0 hBW c2 c3 fz hbW hgR hgN hrr
  generalize hPP : (fun k => P k ∨ (w.heap.size ≤ k ∧ k < W.heap.size)) = P1 at *
  have HPP := hid hPP
  clear hPP hsW
  generalize W.drew = wd at *
  have c3 := hs2.wk.c3
  have fz := hs2.wk.fz 3
  have hbW := hs2.blt
  obtain ⟨K9, N9, r0, r1, f0, f1, hrl⟩ := hr2.parts
  have hrw := wrapI ((s.read : Int) + 1) (by omega) (by omega)
  rw [IntWalk.i64_left] at hrw
  have hne : bw ≠ w.heap.size + 1 := by omega
  go_wp2_with fail
  have hs3 := hs2.work (s' := { s with read := s.read + 1 }) (d' := d) (But.setB wd bw 3 (.int .i64 ((s.read : Int) + 1))) rfl (by have := hs2.wk.set3 ((s.read : Int) + 1); simpa using this)
  have hB3 : But (FrD P w0) w (wd.setCell ⟨bw, 3, none⟩ (.int .i64 ((s.read : Int) + 1))) := (but_n hBd).next (But.setB _ _ _ _) (fun k hk e => by subst e; exact ⟨hst.ge, hst.pw⟩)
  exact end_ok Tryz.results123 rfl rfl hs3 (hr2.but (But.setB _ _ _ _) (fun e => hne e.symm)) (by rw [← HPP.out]; exact Or.inr ⟨by omega, by omega⟩) (by omega) hst.old.size (fun k hk => by rw [← HPP.out]; exact Or.inl hk) hB3 (v := .i (nextV inp s.read)) rfl rfl
 ·have t0 : ((x.op.toNat : Int) == 114) = false := tsf (k := 114) (by omega)
  have t1 : ((x.op.toNat : Int) == 122) = true := tst h
  rw [show leafV im inp x l s = .ok .z l s from by unfold leafV; rw [if_neg (by omega), if_pos h]]
  clear hx hx0 h
  go_enter Tryz.func123, Tryz.ntmps123
  go_wp2_with fail
  exact end_same Tryz.results123 rfl rfl hst ((But.alloc _ _ _).trans (But.alloc _ _ _)) (heap_alloc_at (by simp) _) (v := .z) rfl rfl
 ·have t0 : ((x.op.toNat : Int) == 114) = false := tsf (k := 114) (by omega)
  have t1 : ((x.op.toNat : Int) == 122) = false := tsf (k := 122) (by omega)
  have t2 : ((x.op.toNat : Int) == 108) = true := tst h
  rw [show leafV im inp x l s = .ok (l.getD x.b .z) l s from by unfold leafV; rw [if_neg (by omega), if_neg (by omega), if_pos h]]
  have hxb : x.b < l.length := by rw [hll]; exact hx.loc (Or.inl h)
  clear hx hx0 h
  obtain ⟨u, hu⟩ : ∃ u, l[x.b]? = some u := ⟨_, List.getElem?_eq_getElem hxb⟩
  rw [show l.getD x.b .z = u from by rw [List.getD_eq_getElem?_getD, hu]; rfl]
  obtain ⟨al, capl, rfl⟩ := owns_len hst.lo
  obtain ⟨g, rfl, hg1, hg2, hcell⟩ := owns_two hst.lo (by omega)
  have q0 : w.cell? ⟨g, x.b * 2, none⟩ = some (.int .u8 u.K) := hcell _ _ (valCells_at (k := 0) hu (by omega))
  have q1 : w.cell? ⟨g, x.b * 2 + 1, none⟩ = some (.int .i64 u.N) := hcell _ _ (valCells_at (k := 1) hu (by omega))
  clear hcell hu
  have hxI : (x.b : Int) < (l.length : Int) := by omega
  generalize l.length = nn at *
  go_enter Tryz.func123, Tryz.ntmps123
  go_wp2_with fail
  exact end_same Tryz.results123 rfl rfl hst ((But.alloc _ _ _).trans (But.alloc _ _ _)) (heap_alloc_at (by simp) _) (v := u) rfl rfl
 ·have t0 : ((x.op.toNat : Int) == 114) = false := tsf (k := 114) (by omega)
  have t1 : ((x.op.toNat : Int) == 122) = false := tsf (k := 122) (by omega)
  have t2 : ((x.op.toNat : Int) == 108) = false := tsf (k := 108) (by omega)
  have t3 : ((x.op.toNat : Int) == 110) = true := tst h
  rw [show leafV im inp x l s = .ok (.o s.heap.length) l { s with heap := s.heap ++ [⟨x.a, freshV im.classes x.a⟩] } from by unfold leafV; simp [h]]
  have hxa : x.a < im.classes.length := hx.cls (Or.inl h)
  have hf8 : nFields im.classes x.a ≤ 100 := by
   have := hW.cls x.a _ (List.getElem?_eq_getElem hxa)
   have := hW.nc
   simp [nFields, hxa]
   omega
  clear hx hx0 h
  go_enter Tryz.func123, Tryz.ntmps123
  go_wp2_with fail
  rw [HWW.out]
  clear HWW
  have c0 := hsW.wk.c0
  have n1 : W.cell? ⟨w.heap.size, 1, none⟩ = some (.int .i64 x.a) := by rw [cell_of_row W _ 1 _ _ (0, 0) hgN]; rfl
  have hbW := hsW.blt
  have hnW := lt_of_block hgN
  refine wpTx_begin (But (fun _ => False) W) 7 (by kernel_rfl) ?_
  have hS0 : But (fun _ => False) W W.drew := But.drew _ _
  have fSB := hid (fun wS (h : (But (fun _ => False) W) wS) => (And.intro ((h.cell (p := ⟨bw, 0, none⟩) hbW (fun h => h)).trans c0) ((h.cell (p := ⟨w.heap.size, 1, none⟩) hnW (fun h => h)).trans n1)))
  iterate 6 (refine wpTx_take (v := ?_) rfl (by kernel_rfl) (fun _ _ _ h => h) rfl hS0 ?_ ?_; rotate_left; (focus (intro wS h; obtain ⟨q0, q1⟩ := fSB.out wS h; clear h; go_simp; try rfl)); dsimp only [Act.put]; try simp only [puts])
  try clear fSB
  refine wpTx_step rfl (by kernel_rfl) ?_
  intro KS hKS
  go_simp
  refine (fresh_any bi im x.a _ (hI.but (hsW.new hS0).old).cls hxa hf8).mono ?_
  rintro en wf ⟨vf, rfl, hOf, hBf⟩
  refine hKS.out _ _ (fun _ => hS0.trans hBf) ?_
  clear hKS KS
  refine wpTx_step rfl (by kernel_rfl) ?_
  intro KS hKS
  go_simp
  refine hKS.out _ _ (fun h => absurd h (by decide)) ?_
  clear hKS KS
  refine wpTx_done rfl (by kernel_rfl) ?_
  have hBWf := hS0.trans hBf
  have hs2 := hsW.new hBWf
  have hBd := hBW.trans hBWf
  have hr2 := hrr.but hBWf (fun h => h)
  have hgN2 := (hBWf.block _ hnW (fun h => h)).trans hgN
  clear c0 n1 hbW hnW hBf
  obtain ⟨af, capf, rfl⟩ := owns_len hOf
  obtain ⟨ah, caph, rfl⟩ := owns_len hs2.hp
  have HFN : Hid (∀ g, (Value.slice af (freshV im.classes x.a).length capf).ownBlock = some g → ¬ (P g ∨ (w.heap.size ≤ g ∧ g < W.heap.size)) ∧ lv.ownBlock ≠ some g ∧ ∀ v ∈ fv, v.ownBlock ≠ some g) := fun g hg => by
   have h1 := owns_ge hOf g hg
   have h2 : W.heap.size ≤ g := h1
   refine ⟨fun h3 => by have := hsW.pl g h3; omega, fun h3 => by have := owns_lt hsW.lo g h3; omega, fun v hv h3 => ?_⟩
   obtain ⟨k, ob, _, _, ho⟩ := hsW.fo hv
   have := owns_lt ho g h3
   omega
  have hWf := hBWf.size
  have hW1 := hBW.size
  generalize hNF : (freshV im.classes x.a).length = nf at *
  have HNF := hid hNF
  clear hNF
  have c1 := hs2.wk.c1
  have z1 := hs2.wk.fz 1
  have n1 : wf.cell? ⟨w.heap.size, 1, none⟩ = some (.int .i64 x.a) := by rw [cell_of_row wf _ 1 _ _ (0, 0) hgN2]; rfl
  have hbf := hs2.blt
  have hnf := lt_of_block hgN2
  have ab := hs2.hw
  have an : (Value.slice ah s.heap.length caph).ownBlock ≠ some w.heap.size := fun h => by have := owns_lt hst.hp _ h; omega
  obtain ⟨i0, hi0, hz0, hz1, hz2⟩ := info_parts objInfo
  have hn4 : s.heap.length ≤ 4000 := by omega
  have hw04 : w0.heap.size ≤ wf.heap.size := hs2.old.size
  go_wp2_with fail
  refine wpTx_begin (But (fun k => (Value.slice ah s.heap.length caph).ownBlock = some k) wf) 11 (by kernel_rfl) ?_
  have hS1 : But (fun k => (Value.slice ah s.heap.length caph).ownBlock = some k) wf wf.drew := But.drew _ _
  have fSC := hid (fun wS (h : (But (fun k => (Value.slice ah s.heap.length caph).ownBlock = some k) wf) wS) => (And.intro ((h.cell (p := ⟨bw, 1, none⟩) hbf ab).trans c1) ((h.cell (p := ⟨w.heap.size, 1, none⟩) hnf an).trans n1)))
  iterate 9 (refine wpTx_take (v := ?_) rfl (by kernel_rfl) (fun _ _ _ h => h) rfl hS1 ?_ ?_; rotate_left; (focus (intro wS h; obtain ⟨q0, q1⟩ := fSC.out wS h; clear h; go_simp; try rfl)); dsimp only [Act.put]; try simp only [puts])
  try clear fSC
  refine wpTx_step rfl (by kernel_rfl) ?_
  intro KS hKS
  go_simp
  refine hKS.out _ _ (fun _ => (But.alloc _ _ _).trans (But.drew _ _)) ?_
  clear hKS KS
  refine wpTx_step rfl (by kernel_rfl) ?_
  intro KS hKS
  refine step_append_lies _ (by rfl) _ _ _ (by rfl) w0.heap.size 265 i0 _ 2 32 (by kernel_rfl) hi0 hz0 hz1 hz2 rfl (by omega) _ s.heap.length (obCells s.heap fv) (by rfl) ((hs2.hp.alloc _).drew)
         ⟨wf.heap.size, 0, none⟩ 1 1 [.int .i64 x.a, .slice af nf capf] (by rfl) (by rfl) (World.news_of_block (cs := #[.int .i64 x.a, .slice af nf capf]) (t := 265) (fr := (0, 0)) (heap_alloc_new wf _)) (by simp [Value.oneCell'])
         (by omega) (by unfold maxLen; omega) (by omega) (by simp; omega) (wf.heap.size + 1) (by simp) ?_
  intro gg cap2 w2 hown2 hgrow hat hlt2
  have hSW : But (fun k => (Value.slice ah s.heap.length caph).ownBlock = some k) wf w2 := ((But.alloc _ _ _).trans (But.drew _ _)).trans (but_grown hgrow)
  refine hKS.out _ _ (fun _ => hSW) ?_
  clear hKS KS
  have y0 := (hSW.cell (p := ⟨bw, 1, none⟩) hbf ab).trans c1
  have y1 := (hSW.frozen (p := ⟨bw, 1, none⟩) hbf ab).trans z1
  refine wpTx_step rfl (by kernel_rfl) ?_
  intro KS hKS
  go_simp
  refine hKS.out _ _ (fun h => absurd h (by decide)) ?_
  clear hKS KS
  refine wpTx_step rfl (by kernel_rfl) ?_
  intro KS hKS
  go_simp
  refine hKS.out _ _ (fun h => absurd h (by decide)) ?_
  clear hKS KS
  refine wpTx_step rfl (by kernel_rfl) ?_
  intro KS hKS
  go_simp
  refine hKS.out _ _ (fun h => absurd h (by decide)) ?_
  clear hKS KS
  refine wpTx_done rfl (by kernel_rfl) ?_
  have hs3 := hs2.newOb (ob := ⟨x.a, freshV im.classes x.a⟩) (vf := .slice af nf capf) (hv' := .slice (some ⟨gg, 0, none⟩) (s.heap.length + 1) cap2) (by rw [HNF.out]; exact hOf) (Nat.le_trans hsW.old.size (Nat.le_refl _)) HFN.out hSW hown2 (fun g hg h => by
   simp only [Value.ownBlock, Option.some.injEq] at hg
   subst hg
   rcases hat with hat | hat
   ·exact hs2.ph gg hat h
   ·have := hs2.pl gg h; omega)
  have hB3 : But (FrD P w0) w (w2.setCell ⟨bw, 1, none⟩ (.slice (some ⟨gg, 0, none⟩) (s.heap.length + 1) cap2)) :=
   ((but_n hBd).next hSW (fun k hk h => ⟨owns_ge hst.hp k h, hst.ph k h⟩)).next (But.setB _ _ _ _) (fun k hk e => by subst e; exact ⟨hst.ge, hst.pw⟩)
  have hr3 := (hr2.but hSW (fun h => by have := owns_lt hst.hp _ h; omega)).but (But.setB w2 bw 1 (.slice (some ⟨gg, 0, none⟩) (s.heap.length + 1) cap2)) (fun e => by omega)
  clear y0 y1 c1 z1 n1 hSW hown2 hgrow hat HFN hs2 hOf hS1 hr2 hgN2 HNF
  generalize hPP : (fun k => P k ∨ (w.heap.size ≤ k ∧ k < W.heap.size)) = P1 at *
  have HPP := hid hPP
  clear hPP hsW
  generalize (w2.setCell ⟨bw, 1, none⟩ (.slice (some ⟨gg, 0, none⟩) (s.heap.length + 1) cap2)) = w3 at *
  have c1 := hs3.wk.c1
  have hb3 := hs3.blt
  obtain ⟨K9, N9, r0, r1, f0, f1, hrl⟩ := hr3.parts
  have hrw := wrapI ((s.heap.length : Int) + 1 - 1) (by omega) (by omega)
  rw [IntWalk.i64_left] at hrw
  go_wp2_with fail
  exact end_ok Tryz.results123 rfl rfl hs3 hr3 (by rw [← HPP.out]; exact Or.inr ⟨by omega, by omega⟩) (by omega) hst.old.size (fun k hk => by rw [← HPP.out]; exact Or.inl hk) hB3 (v := .o s.heap.length) rfl (by simp [V.N])
 ·have t0 : ((x.op.toNat : Int) == 114) = false := tsf (k := 114) (by omega)
  have t1 : ((x.op.toNat : Int) == 122) = false := tsf (k := 122) (by omega)
  have t2 : ((x.op.toNat : Int) == 108) = false := tsf (k := 108) (by omega)
  have t3 : ((x.op.toNat : Int) == 110) = false := tsf (k := 110) (by omega)
  rw [show leafV im inp x l s = .ok (.i x.b) l s from by unfold leafV; simp [h]]
  clear hx hx0 h
  go_enter Tryz.func123, Tryz.ntmps123
  go_wp2_with fail
  exact end_same Tryz.results123 rfl rfl hst ((But.alloc _ _ _).trans (But.alloc _ _ _)) (heap_alloc_at (by simp) _) (v := .i x.b) rfl rfl
theorem StX.obj {P : Nat → Prop} {w0 w : World} {bw bi d : Nat} {inp : ByteArray} {s : Ev} {lv hv : Value} {l : List V} {fv : List Value} (h : StX P w0 w bw bi inp d s lv l hv fv) {k : Nat} {ob : Ob} (hk : s.heap[k]? = some ob) :
  ∃ (g cap : Nat) (af : Option Addr) (cf : Nat), hv = .slice (some ⟨g, 0, none⟩) s.heap.length cap ∧ k < s.heap.length ∧ fv[k]? = some (.slice af ob.fs.length cf) ∧ g < w.heap.size ∧ w.cell? ⟨g, k * 2, none⟩ = some (.int .i64 ob.cls) ∧ w.cell? ⟨g, k * 2 + 1, none⟩ = some (.slice af ob.fs.length cf) := by
 have hl := (List.getElem?_eq_some_iff.1 hk).1
 have hf := List.getElem?_eq_getElem (show k < fv.length by rw [h.len]; exact hl)
 obtain ⟨af, cf, hv'⟩ := owns_len (h.fl k ob _ hk hf)
 obtain ⟨ah, cap, rfl⟩ := owns_len h.hp
 obtain ⟨g, rfl, hg1, hg2, hcell⟩ := owns_two h.hp (by omega)
 rw [hv'] at hf
 exact ⟨g, cap, af, cf, rfl, hl, hf, hg1, hcell _ _ (obCells_at (j := 0) hk hf (by omega)), hcell _ _ (obCells_at (j := 1) hk hf (by omega))⟩
theorem one_any {B : Nat} (P : Nat → Prop) (w0 w : World) (bw bi d : Nat) (inp : ByteArray) (s : Ev) (lv hv : Value) (l : List V) (fv : List Value) (im : Img) (hI : ImgS w0 bi im) (ht : TabW w0) (hR : Ready im) (hst : StX P w0 w bw bi inp d s lv l hv fv) (hs : StT im B s) (x : Ins) (e : Nat) (lo : List UInt8) (hx : WfN im.classes im.sigs.length lo.length x) (hll : LT im.classes s.heap lo l) (hx1 : arity x.op = 1) (ta : UInt8) (v : V) (hv' : VT im.classes s.heap ta v) (tt : UInt8) (hnt : nodeT im.classes im.sigs lo x [ta] = some tt) (hlo : ∀ t ∈ lo, isTy im.classes.length t = true) :
  Calls Tryz.prog 125 #[.pointer (some ⟨bw, 0, none⟩), .agg #[.int .u8 x.op.toNat, .int .i64 x.a, .int .i64 x.b, .int .i64 x.pos, .int .i64 e], .agg #[.int .u8 v.K, .int .i64 v.N], lv] w fun en w' => But (FrD P w0) w w' ∧ ResD P w0 bw bi inp d lv (oneV im x v l s) en w' := by
 have hbl := hst.blt
 have hW := hR.wf
 have hn4 := hW.nc
 have hop : x.op.toNat = 115 ∨ x.op.toNat = 103 ∨ x.op.toNat = 120 ∨ x.op.toNat = 119 := by
  unfold arity at hx1
  split at hx1
  ·omega
  ·split at hx1
   ·omega
   ·split at hx1
    ·rename_i h3; simpa using h3
    ·omega
 obtain ⟨W, hWW⟩ : ∃ W, ((w.alloc (.cells #[.int .u8 x.op.toNat, .int .i64 x.a, .int .i64 x.b, .int .i64 x.pos, .int .i64 e] 147)).alloc (.cells #[.int .u8 v.K, .int .i64 v.N] 135)).alloc (.cells #[.int .u8 0, .int .i64 0] 135) = W := ⟨_, rfl⟩
 have hBW : But (fun _ => False) w W := by rw [← hWW]; exact ((But.alloc _ _ _).trans (But.alloc _ _ _)).trans (But.alloc _ _ _)
 have hgN : W.heap[w.heap.size]? = some (.cells #[.int .u8 x.op.toNat, .int .i64 x.a, .int .i64 x.b, .int .i64 x.pos, .int .i64 e] 147) := by rw [← hWW]; exact (((But.alloc (fun _ => False) _ _).trans (But.alloc _ _ _)).block _ (by simp) (fun h => h)).trans (heap_alloc_new w _)
 have hgV : W.heap[w.heap.size + 1]? = some (.cells #[.int .u8 v.K, .int .i64 v.N] 135) := by rw [← hWW]; exact ((But.alloc (fun _ => False) _ _).block _ (by simp) (fun h => h)).trans (heap_alloc_at (by simp) _)
 have hgR : W.heap[w.heap.size + 1 + 1]? = some (.cells #[.int .u8 0, .int .i64 0] 135) := by rw [← hWW]; exact heap_alloc_at (by simp) _
 have hsW := hst.grow hBW
 have hrr : ResB W (w.heap.size + 1 + 1) := ⟨0, 0, hgR⟩
 have hgW := lt_of_block hgR
 have HWW := hid hWW
 clear hWW
 rcases hop with h | h | h | h
 ·have t1 : ((x.op.toNat : Int) == 115) = true := tst h
  rw [show oneV im x v l s = .ok (.i 0) (l.set x.b v) s from by unfold oneV; rw [if_pos h]]
  have hxb : x.b < l.length := by rw [hll.len]; exact hx.loc (Or.inr h)
  clear hx hx1 h hnt
  obtain ⟨al, capl, rfl⟩ := owns_len hst.lo
  obtain ⟨g, rfl, hg1, hg2, hcell⟩ := owns_two hst.lo (by omega)
  obtain ⟨u, hu⟩ : ∃ u, l[x.b]? = some u := ⟨_, List.getElem?_eq_getElem hxb⟩
  have q0 : w.cell? ⟨g, x.b * 2, none⟩ = some (.int .u8 u.K) := hcell _ _ (valCells_at (k := 0) hu (by omega))
  have q1 : w.cell? ⟨g, x.b * 2 + 1, none⟩ = some (.int .i64 u.N) := hcell _ _ (valCells_at (k := 1) hu (by omega))
  obtain ⟨cur, hcur⟩ := owns_type hst.lo (g := g) rfl
  have z0 := frozen_of_row w g (x.b * 2) _ _ hcur
  have z1 := frozen_of_row w g (x.b * 2 + 1) _ _ hcur
  have HS := hid (hst.setL (g := g) rfl x.b v)
  have hfr : FrD P w0 g := ⟨hg2, hst.po g rfl⟩
  clear hcell hu hcur
  have hxI : (x.b : Int) < (l.length : Int) := by omega
  generalize l.length = nn at *
  have hgA : g < w.heap.size + 1 := by omega
  have hgB : g < w.heap.size + 1 + 1 := by omega
  go_enter Tryz.func125, Tryz.ntmps125
  go_wp2_with fail
  exact end_to Tryz.results125 rfl rfl HS.out ((But.setCell w (a := ⟨g, x.b * 2, none⟩) hfr _).trans (But.setCell _ (a := ⟨g, x.b * 2 + 1, none⟩) hfr _)) (((But.alloc _ _ _).trans (But.alloc _ _ _)).trans (But.alloc _ _ _)) (heap_alloc_at (by simp [size_setCell]) _) (v := .i 0) rfl rfl
 ·have t0 : ((x.op.toNat : Int) == 115) = false := tsf (k := 115) (by omega)
  have t1 : ((x.op.toNat : Int) == 119) = false := tsf (k := 119) (by omega)
  have t2 : ((x.op.toNat : Int) == 120) = false := tsf (k := 120) (by omega)
  have hxa := hx.cls (by omega)
  have hxb := hx.fld (by omega)
  simp [nodeT, askT, giveT, Sp.arith, h] at hnt
  obtain ⟨hf, _⟩ := hnt
  obtain ⟨hC, hC2⟩ := clsT_C (a := x.a) (by omega)
  have hv2 := hv'.sub hW.cls hn4 hs.ht (t' := clsT x.a) (fits1 (by simpa using hf)) (by have := isC_iff.1 hC; omega)
  clear hf
  rcases hv2.ref (isR_of_C hC) with rfl | ⟨k, ob, rfl, hk, _, hu⟩
  ·rw [show oneV im x .z l s = .bad 6 s.out from by unfold oneV; simp [h]]
   clear hx hx1 h
   have c7 := hst.wk.c7
   have z7 := hst.wk.fz 7
   have hgA : bw < w.heap.size + 1 := by omega
   have hgB : bw < w.heap.size + 1 + 1 := by omega
   simp only [V.K, V.N]
   go_enter Tryz.func125, Tryz.ntmps125
   go_wp2_with fail
   exact end_no Tryz.results125 rfl rfl (hst.wk.set7 6) rfl (but_w hst (But.setB _ _ _ _)) (((But.alloc _ _ _).trans (But.alloc _ _ _)).trans (But.alloc _ _ _)) (heap_alloc_at (by simp [size_setCell]) _)
  ·rw [hC2] at hu
   obtain ⟨g1, g2⟩ := field_at hR hs hxa hxb hk hu
   obtain ⟨u, hu2⟩ : ∃ u, ob.fs[x.b]? = some u := ⟨_, List.getElem?_eq_getElem g1⟩
   rw [show oneV im x (.o k) l s = .ok u l s from by unfold oneV; simp [h, (Ev.at hk).2, hu2]]
   obtain ⟨gh, cph, af, cf, rfl, hkl, hfk, hgl, o0, o1⟩ := hst.obj hk
   have hrow := hst.fl k ob _ hk hfk
   obtain ⟨gf, rfl, hgf, _, hcell⟩ := owns_two hrow (by omega)
   have q0 : w.cell? ⟨gf, x.b * 2, none⟩ = some (.int .u8 u.K) := hcell _ _ (valCells_at (k := 0) hu2 (by omega))
   have q1 : w.cell? ⟨gf, x.b * 2 + 1, none⟩ = some (.int .i64 u.N) := hcell _ _ (valCells_at (k := 1) hu2 (by omega))
   have c1 := hst.wk.c1
   clear hcell hu2 hx hx1 h hu hrow g2 hv2 hv'
   have hxI : (x.b : Int) < (ob.fs.length : Int) := by omega
   have hkI : (k : Int) < (s.heap.length : Int) := by omega
   have hgA : bw < w.heap.size + 1 := by omega
   have hgB : bw < w.heap.size + 1 + 1 := by omega
   have hgC : gh < w.heap.size + 1 := by omega
   have hgD : gh < w.heap.size + 1 + 1 := by omega
   have hgE : gf < w.heap.size + 1 := by omega
   have hgF : gf < w.heap.size + 1 + 1 := by omega
   simp only [V.K, V.N]
   go_enter Tryz.func125, Tryz.ntmps125
   go_wp2_with fail
   have HWW2 := HWW.out
   simp only [V.K, V.N] at HWW2 hgV
   rw [show ((111 : Nat) : Int) = 111 from rfl] at HWW2 hgV
   rw [HWW2]
   clear HWW2 HWW
   have d0 := (hBW.cell (p := ⟨gf, x.b * 2, none⟩) hgf (fun h => h)).trans q0
   have d1 := (hBW.cell (p := ⟨gf, x.b * 2 + 1, none⟩) hgf (fun h => h)).trans q1
   have d2 := (hBW.cell (p := ⟨gh, k * 2 + 1, none⟩) hgl (fun h => h)).trans o1
   have d3 := (hBW.cell (p := ⟨bw, 1, none⟩) hbl (fun h => h)).trans c1
   have n2 : W.cell? ⟨w.heap.size, 2, none⟩ = some (.int .i64 x.b) := by rw [cell_of_row W _ 2 _ _ (0, 0) hgN]; rfl
   have v1 : W.cell? ⟨w.heap.size + 1, 1, none⟩ = some (.int .i64 k) := by rw [cell_of_row W _ 1 _ _ (0, 0) hgV]; rfl
   have hS0 : But (fun _ => False) W W.drew := But.drew _ _
   have hsz := hBW.size
   have m1 : w.heap.size < W.heap.size := by omega
   have m2 : w.heap.size + 1 < W.heap.size := by omega
   have m3 : gf < W.heap.size := by omega
   have m4 : gh < W.heap.size := by omega
   have m5 : bw < W.heap.size := by omega
   refine wpTx_begin (But (fun _ => False) W) 13 (by kernel_rfl) ?_
   have fSA := hid (fun wS (h : (But (fun _ => False) W) wS) => (And.intro ((h.cell (p := ⟨gf, x.b * 2, none⟩) m3 (fun h => h)).trans d0) (And.intro ((h.cell (p := ⟨gf, x.b * 2 + 1, none⟩) m3 (fun h => h)).trans d1) (And.intro ((h.cell (p := ⟨gh, k * 2 + 1, none⟩) m4 (fun h => h)).trans d2) (And.intro ((h.cell (p := ⟨bw, 1, none⟩) m5 (fun h => h)).trans d3) (And.intro ((h.cell (p := ⟨w.heap.size, 2, none⟩) m1 (fun h => h)).trans n2) ((h.cell (p := ⟨w.heap.size + 1, 1, none⟩) m2 (fun h => h)).trans v1)))))))
   iterate 13 (refine wpTx_take (v := ?_) rfl (by kernel_rfl) (fun _ _ _ h => h) rfl hS0 ?_ ?_; rotate_left; (focus (intro wS h; obtain ⟨q0, q1, q2, q3, q4, q5⟩ := fSA.out wS h; clear h; go_simp; try rfl)); dsimp only [Act.put]; try simp only [puts])
   try clear fSA
   have hs2 := hsW.new hS0
   have hBd := hBW.trans hS0
   have hr2 := hrr.but hS0 (fun h => h)
   generalize W.drew = wd at *
   obtain ⟨K9, N9, r0, r1, f0, f1, hrl⟩ := hr2.parts
   refine wpTx_step rfl (by kernel_rfl) ?_
   intro KS hKS
   go_simp
   refine hKS.out _ _ (fun h => absurd h (by decide)) ?_
   clear hKS KS
   refine wpTx_done rfl (by kernel_rfl) ?_
   go_wp2_with fail
   exact end_ok Tryz.results125 rfl rfl hs2 hr2 (Or.inr ⟨by omega, by omega⟩) (by omega) hst.old.size (fun k hk => Or.inl hk) (but_n hBd) (v := u) rfl rfl
 ·have t0 : ((x.op.toNat : Int) == 115) = false := tsf (k := 115) (by omega)
  have t1 : ((x.op.toNat : Int) == 119) = false := tsf (k := 119) (by omega)
  have t2 : ((x.op.toNat : Int) == 120) = true := tst h
  have hxa := hx.cls (by omega)
  simp [nodeT, askT, giveT, Sp.arith, h] at hnt
  obtain ⟨hf, _⟩ := hnt
  rcases hv'.ref hf with rfl | ⟨k, ob, rfl, hk, _, hu⟩
  ·rw [show oneV im x .z l s = .ok .z l s from by unfold oneV; simp [h]]
   clear hx hx1 h
   simp only [V.K, V.N]
   go_enter Tryz.func125, Tryz.ntmps125
   go_wp2_with fail
   exact end_to Tryz.results125 rfl rfl hst (But.refl _ _) (((But.alloc _ _ _).trans (But.alloc _ _ _)).trans (But.alloc _ _ _)) (heap_alloc_at (by simp [size_setCell]) _) (v := .z) rfl rfl
  ·obtain ⟨gh, cph, af, cf, rfl, hkl, hfk, hgl, o0, o1⟩ := hst.obj hk
   have hcl := hs.ht.cls k ob hk
   obtain ⟨b, hb⟩ : ∃ b, under im.classes 5 (ob.cls : Int) (x.a : Int) = b := ⟨_, rfl⟩
   obtain ⟨RR, hRR⟩ : ∃ RR, oneV im x (.o k) l s = RR := ⟨_, rfl⟩
   have HR : Hid (RR = if b = true then .ok (.o k) l s else .bad 8 s.out) := by show _ = _; rw [← hRR]; unfold oneV; simp [h, (Ev.at hk).1, hb]
   rw [hRR]
   clear hRR
   have hun := fun w hI => under_any bi im.classes ob.cls x.a w hI hW.cls (by omega) (by omega)
   rw [hb] at hun
   have HUN := hid hun
   clear hx hx1 h hu hv' hb hun
   have hkI : (k : Int) < (s.heap.length : Int) := by omega
   have HV := hid hgV
   simp only [V.K, V.N] at hgV ⊢
   rw [show ((111 : Nat) : Int) = 111 from rfl] at hgV ⊢
   go_enter Tryz.func125, Tryz.ntmps125
   go_wp2_with fail
   have HWW2 := HWW.out
   simp only [V.K, V.N] at HWW2
   rw [show ((111 : Nat) : Int) = 111 from rfl] at HWW2
   rw [HWW2]
   clear HWW2 HWW HV
   have c0 := hsW.wk.c0
   have c1 := hsW.wk.c1
   have d2 := (hBW.cell (p := ⟨gh, k * 2, none⟩) hgl (fun h => h)).trans o0
   have n1 : W.cell? ⟨w.heap.size, 1, none⟩ = some (.int .i64 x.a) := by rw [cell_of_row W _ 1 _ _ (0, 0) hgN]; rfl
   have v0 : W.cell? ⟨w.heap.size + 1, 0, none⟩ = some (.int .u8 111) := by rw [cell_of_row W _ 0 _ _ (0, 0) hgV]; rfl
   have v1 : W.cell? ⟨w.heap.size + 1, 1, none⟩ = some (.int .i64 k) := by rw [cell_of_row W _ 1 _ _ (0, 0) hgV]; rfl
   have hS0 : But (fun _ => False) W W.drew := But.drew _ _
   have hsz := hBW.size
   have m1 : w.heap.size < W.heap.size := by omega
   have m2 : w.heap.size + 1 < W.heap.size := by omega
   have m4 : gh < W.heap.size := by omega
   have m5 : bw < W.heap.size := by omega
   refine wpTx_begin (But (fun _ => False) W) 16 (by kernel_rfl) ?_
   have fSB := hid (fun wS (h : (But (fun _ => False) W) wS) => (And.intro ((h.cell (p := ⟨bw, 0, none⟩) m5 (fun h => h)).trans c0) (And.intro ((h.cell (p := ⟨bw, 1, none⟩) m5 (fun h => h)).trans c1) (And.intro ((h.cell (p := ⟨gh, k * 2, none⟩) m4 (fun h => h)).trans d2) (And.intro ((h.cell (p := ⟨w.heap.size, 1, none⟩) m1 (fun h => h)).trans n1) ((h.cell (p := ⟨w.heap.size + 1, 1, none⟩) m2 (fun h => h)).trans v1))))))
   iterate 15 (refine wpTx_take (v := ?_) rfl (by kernel_rfl) (fun _ _ _ h => h) rfl hS0 ?_ ?_; rotate_left; (focus (intro wS h; obtain ⟨q0, q1, q2, q3, q4⟩ := fSB.out wS h; clear h; go_simp; try rfl)); dsimp only [Act.put]; try simp only [puts])
   try clear fSB
   refine wpTx_step rfl (by kernel_rfl) ?_
   intro KS hKS
   go_simp
   refine (HUN.out _ (hI.but (hsW.new hS0).old).cls).mono ?_
   rintro en wx ⟨rfl, hwx⟩
   rw [hwx]
   clear hwx wx
   refine hKS.out _ _ (fun _ => hS0) ?_
   clear hKS KS
   refine wpTx_step rfl (by kernel_rfl) ?_
   intro KS hKS
   go_simp
   refine hKS.out _ _ (fun h => absurd h (by decide)) ?_
   clear hKS KS
   refine wpTx_done rfl (by kernel_rfl) ?_
   have hs2 := hsW.new hS0
   have hBd := hBW.trans hS0
   have hr2 := hrr.but hS0 (fun h => h)
   have hgV2 := (hS0.block _ m2 (fun h => h)).trans hgV
   clear c0 c1 d2 n1 v0 v1 hS0 hsW hrr hgV hgN hgR HUN hBW
   generalize W.drew = wd at *
   have v0 : wd.cell? ⟨w.heap.size + 1, 0, none⟩ = some (.int .u8 111) := by rw [cell_of_row wd _ 0 _ _ (0, 0) hgV2]; rfl
   have v1 : wd.cell? ⟨w.heap.size + 1, 1, none⟩ = some (.int .i64 k) := by rw [cell_of_row wd _ 1 _ _ (0, 0) hgV2]; rfl
   obtain ⟨K9, N9, r0, r1, f0, f1, hrl⟩ := hr2.parts
   have hvl := lt_of_block hgV2
   have hne1 : ¬ bw = w.heap.size + 1 := by omega
   cases b with
   | true =>
    have hRR : RR = .ok (.o k) l s := HR.out
    subst hRR
    go_wp2_with fail
    exact end_ok Tryz.results125 rfl rfl hs2 hr2 (Or.inr ⟨by omega, by omega⟩) (by omega) hst.old.size (fun k hk => Or.inl hk) (but_n hBd) (v := .o k) rfl rfl
   | false =>
    have hRR : RR = .bad 8 s.out := HR.out
    subst hRR
    have c7 := hs2.wk.c7
    have z7 := hs2.wk.fz 7
    have m5 := hs2.blt
    go_wp2_with fail
    exact end_bad Tryz.results125 rfl rfl (hs2.wk.set7 8) rfl (by omega) (hr2.but (But.setB _ _ _ _) (fun e => by omega)) (by omega) ((but_n hBd).next (But.setB _ _ _ _) (fun k hk e => by subst e; exact ⟨hst.ge, hst.pw⟩))
 ·have t0 : ((x.op.toNat : Int) == 115) = false := tsf (k := 115) (by omega)
  have t1 : ((x.op.toNat : Int) == 119) = true := tst h
  simp [nodeT, askT, giveT, Sp.arith, h] at hnt
  obtain ⟨hf, _⟩ := hnt
  have hv2 := hv'.sub hW.cls hn4 hs.ht (t' := 105) (fits1 (by simpa using hf)) (by decide)
  obtain ⟨m, rfl, hm1, hm2⟩ := hv2.int (by decide)
  rw [show oneV im x (.i m) l s = .ok (.i 0) l (s.say m) from by unfold oneV; simp [h, V.N]]
  clear hx hx1 h hf hv2 hv'
  have hil := Lib.itoa_length_le m (by omega) (by omega)
  have hol := hs.o
  obtain ⟨D, hD⟩ : ∃ D, Lib.itoa m = D := ⟨_, rfl⟩
  have HS : Hid (s.say m = { s with out := s.out ++ D ++ [32] }) := by show _ = _; simp [Ev.say, hD]
  have hit := fun w ht => itoa_any m hm1 hm2 w ht
  rw [hD] at hit hil
  have HIT := hid hit
  clear hit hD
  simp only [V.K, V.N]
  go_enter Tryz.func125, Tryz.ntmps125
  go_wp2_with fail
  have HWW2 := HWW.out
  simp only [V.K, V.N] at HWW2
  rw [show ((105 : Nat) : Int) = 105 from rfl] at HWW2
  rw [HWW2]
  clear HWW2 HWW
  refine (HIT.out _ (ht.but hsW.old)).mono ?_
  rintro en w1 ⟨rfl, hB1⟩
  have hs2 := hsW.new hB1
  have hBd := hBW.trans hB1
  have hr2 := hrr.but hB1 (fun h => h)
  have hsz1 := hB1.size
  clear HIT hsW hrr hgV hgN hgR hB1 hBW
  have c6 := hs2.wk.c6
  have z6 := hs2.wk.fz 6
  have m5 := hs2.blt
  obtain ⟨K9, N9, r0, r1, f0, f1, hrl⟩ := hr2.parts
  have hb1 := bytes_append s.out D
  have hb2 := bytes_snoc (s.out ++ D) 32
  have hsz : (⟨s.out.toArray⟩ : ByteArray).size + (⟨D.toArray⟩ : ByteArray).size ≤ 200000 := by show s.out.toArray.size + D.toArray.size ≤ 200000; simp; omega
  have hsz2 : (⟨(s.out ++ D).toArray⟩ : ByteArray).size + (⟨#[32]⟩ : ByteArray).size ≤ 200000 := by show (s.out ++ D).toArray.size + 1 ≤ 200000; simp; omega
  go_wp2_with fail
  rw [HS.out]
  have hs3 := hs2.work (s' := { s with out := s.out ++ D ++ [32] }) (d' := d) (But.setB w1 bw 6 (.string ⟨(s.out ++ (D ++ [32])).toArray⟩)) rfl (by rw [List.append_assoc]; exact hs2.wk.set6 _)
  exact end_ok Tryz.results125 rfl rfl hs3 (hr2.but (But.setB _ _ _ _) (fun e => by omega)) (Or.inr ⟨by omega, by omega⟩) (by omega) hst.old.size (fun k hk => Or.inl hk) ((but_n hBd).next (But.setB _ _ _ _) (fun k hk e => by subst e; exact ⟨hst.ge, hst.pw⟩)) (v := .i 0) rfl rfl
end Go.Proofs.YtpfkkmacakjmbaaGreatDoor
