import Derived.Test.YtpfkkmacakjmbaaGreatDoorP28
set_option maxRecDepth 100000
set_option maxHeartbeats 6400000
namespace Go.Proofs.YtpfkkmacakjmbaaGreatDoor
open Go Go.RowKit Sp
set_option linter.unusedSimpArgs false
set_option linter.unusedVariables false
attribute [local go_sem ↓] Go.wp_at_zero Go.wp_at_succ
def LoopI (P1 : Nat → Prop) (w0 : World) (bw bi : Nat) (inp : ByteArray) (d : Nat) (lv : Value) (im : Img) (B : Nat) (lo : List UInt8) (cc dd : List V → Ev → R) (RR : R) (g : Nat) (wr : World) : Prop :=
 (∃ (l : List V) (s : Ev) (hv : Value) (fv : List Value), StX P1 w0 wr bw bi inp d s lv l hv fv ∧ LT im.classes s.heap lo l ∧ StT im B s ∧ s.left ≤ g ∧ RR = loopV cc dd g l s) ∨
 (∃ (e : Nat) (o : List UInt8) (hv : Value) (r l : Int), WkB wr bw bi hv inp r l d o e ∧ 5 ≤ e ∧ e ≤ 10 ∧ RR = .bad e o)
theorem nodV_zero {im : Img} {inp : ByteArray} {f : Nat} {b : Bod} {d i : Nat} {l : List V} {s : Ev} (h : s.left = 0) : nodV im inp f b d i l s = .bad 5 s.out := by
 cases f with
 | zero => rfl
 | succ f => simp [nodV, h]
theorem loopV_bad {cc dd : List V → Ev → R} {g : Nat} {l : List V} {s : Ev} {e : Nat} {o : List UInt8} (h0 : s.left = 0 → cc l s = .bad 5 s.out) (hg : s.left ≤ g) (h : cc l s = .bad e o) : loopV cc dd g l s = .bad e o := by
 cases g with
 | zero =>
  have := h0 (by omega)
  rw [h] at this
  exact this.symm
 | succ g => simp [loopV, h]
theorem loop_any {B f : Nat} (P : Nat → Prop) (w0 w : World) (bw bi d : Nat) (inp : ByteArray) (s : Ev) (lv hv : Value) (l : List V) (fv : List Value) (im : Img) (hR : Ready im) (IH : NodeD im inp w0 bw bi f) (hst : StX P w0 w bw bi inp d s lv l hv fv) (hs : StT im B s) (hsf : s.left ≤ f) (hd : d ≤ 12) (b : Bod) (hbm : b ∈ im.bodies) (vt : Value) (hT : TreeAt w0 b vt) (c dd F : Nat) (tc td : UInt8) (htc : typN im.classes im.sigs b.locals b.code F c = some tc) (htc5 : tc.toNat = 105) (htd : typN im.classes im.sigs b.locals b.code F dd = some td) (hll : LT im.classes s.heap b.locals l) :
  Calls Tryz.prog 124 #[.pointer (some ⟨bw, 0, none⟩), bodAgg b vt, .int .i64 c, .int .i64 dd, lv] w fun en w' => But (FrD P w0) w w' ∧ ResD P w0 bw bi inp d lv (loopV (nodV im inp f b d c) (nodV im inp f b d dd) f l s) en w' := by
 have hbl := hst.blt
 obtain ⟨ak, capk, rfl, hTr⟩ := hT
 have hT : TreeAt w0 b (.slice ak b.code.length capk) := ⟨ak, capk, rfl, hTr⟩
 unfold bodAgg
 obtain ⟨RR, hRR⟩ : ∃ RR, loopV (nodV im inp f b d c) (nodV im inp f b d dd) f l s = RR := ⟨_, rfl⟩
 rw [hRR]
 obtain ⟨W, hWW⟩ : ∃ W, (w.alloc (.cells #[.int .i64 b.cls, .int .i64 b.meth, .string ⟨b.locals.toArray⟩, .slice none 0 0, .slice ak b.code.length capk] 52)).alloc (.cells #[.int .u8 0, .int .i64 0] 135) = W := ⟨_, rfl⟩
 have hBW : But (fun _ => False) w W := by rw [← hWW]; exact (But.alloc _ _ _).trans (But.alloc _ _ _)
 have hgB : W.heap[w.heap.size]? = some (.cells #[.int .i64 b.cls, .int .i64 b.meth, .string ⟨b.locals.toArray⟩, .slice none 0 0, .slice ak b.code.length capk] 52) := by rw [← hWW]; exact ((But.alloc (fun _ => False) _ _).block _ (by simp) (fun h => h)).trans (heap_alloc_new w _)
 have hgR : W.heap[w.heap.size + 1]? = some (.cells #[.int .u8 0, .int .i64 0] 135) := by rw [← hWW]; exact heap_alloc_at (by simp) _
 have hsW := hst.grow hBW
 have hrr : ResB W (w.heap.size + 1) := ⟨0, 0, hgR⟩
 have hgW := lt_of_block hgR
 have HI : Hid (LoopI (fun k => P k ∨ (w.heap.size ≤ k ∧ k < W.heap.size)) w0 bw bi inp d lv im B b.locals (nodV im inp f b d c) (nodV im inp f b d dd) RR f W) := Or.inl ⟨l, s, hv, fv, hsW, hll, hs, hsf, hRR.symm⟩
 have HWW := hid hWW
 clear hWW hRR
 go_enter Tryz.func124, Tryz.ntmps124
 go_wp2_with fail
 rw [HWW.out]
 clear HWW
 have H0 : Hid (∀ l s, s.left = 0 → nodV im inp f b d c l s = .bad 5 s.out) := fun l s h => nodV_zero h
 have h0w := hst.old.size
 go_loopg [11] f (fun mm v11 wr => But (FrD P w0) w wr ∧ But (FrD (fun k => P k ∨ (w.heap.size ≤ k ∧ k < W.heap.size)) w0) W wr ∧ mm ≤ f ∧ Hid (LoopI (fun k => P k ∨ (w.heap.size ≤ k ∧ k < W.heap.size)) w0 bw bi inp d lv im B b.locals (nodV im inp f b d c) (nodV im inp f b d dd) RR mm wr))
 case atStart => exact ⟨but_n hBW, But.refl _ _, Nat.le_refl _, HI⟩
 case round =>
  obtain ⟨hBw, hBW2, hgf, HL⟩ := hrel
  clear HI
  have hrr2 := hrr.but hBW2 (fun h => h.2 (Or.inr ⟨by omega, hgW⟩))
  have hgB2 := (hBW2.block _ (lt_of_block hgB) (fun h => h.2 (Or.inr ⟨by omega, by omega⟩))).trans hgB
  have hPr : P (w.heap.size + 1) ∨ (w.heap.size ≤ w.heap.size + 1 ∧ w.heap.size + 1 < W.heap.size) := Or.inr ⟨by omega, hgW⟩
  have hPb : P w.heap.size ∨ (w.heap.size ≤ w.heap.size ∧ w.heap.size < W.heap.size) := Or.inr ⟨by omega, by omega⟩
  have hne : ¬ bw = w.heap.size + 1 := by omega
  rcases HL.out with ⟨l1, s1, hv1, fv1, hs1, hl1, ht1, hlf, hrl⟩ | ⟨e, o, hv1, r1, lf1, hk1, he5, he10, hrb⟩
  ·have c7 := hs1.wk.c7
   have m5 := hs1.blt
   have z0 : wr.cell? ⟨w.heap.size, 0, none⟩ = some (.int .i64 b.cls) := by rw [cell_of_row wr _ 0 _ _ (0, 0) hgB2]; rfl
   have z1 : wr.cell? ⟨w.heap.size, 1, none⟩ = some (.int .i64 b.meth) := by rw [cell_of_row wr _ 1 _ _ (0, 0) hgB2]; rfl
   have z2 : wr.cell? ⟨w.heap.size, 2, none⟩ = some (.string ⟨b.locals.toArray⟩) := by rw [cell_of_row wr _ 2 _ _ (0, 0) hgB2]; rfl
   have z3 : wr.cell? ⟨w.heap.size, 3, none⟩ = some (.slice none 0 0) := by rw [cell_of_row wr _ 3 _ _ (0, 0) hgB2]; rfl
   have z4 : wr.cell? ⟨w.heap.size, 4, none⟩ = some (.slice ak b.code.length capk) := by rw [cell_of_row wr _ 4 _ _ (0, 0) hgB2]; rfl
   have hbl2 := lt_of_block hgB2
   have hc := IH b d c l1 s1 tc F B _ wr lv hv1 fv1 _ hbm hd htc hl1 ht1 (Nat.le_trans hlf hgf) hs1 hT
   unfold bodAgg at hc
   have HC := hid hc
   have HTY := hid (nodV_typed hR inp f B b d c l1 s1 tc F hbm htc hl1 ht1 (Nat.le_trans hlf hgf))
   have HRL := hid hrl
   clear hc hrl HL
   go_wp2_with fail
   refine HC.out.mono ?_
   rintro en w1 ⟨hB1, hq⟩
   clear HC z0 z1 z2 z3 z4 c7 m5
   have hr1 := hrr2.but hB1 (fun h => h.2 hPr)
   have hBw1 : But (FrD P w0) w w1 := hBw.trans (hB1.mono (fun k _ h => ⟨h.1, fun hp => h.2 (Or.inl hp)⟩))
   have hBW1 := hBW2.trans hB1
   have hgB3 := (hB1.block _ hbl2 (fun h => h.2 hPb)).trans hgB2
   obtain ⟨K9, N9, r0, r1, f0, f1, hrl⟩ := hr1.parts
   have HTY2 := HTY.out
   cases hn : nodV im inp f b d c l1 s1 with
   | bad e o =>
    rw [hn] at hq HTY2
    obtain ⟨⟨a, a', rfl⟩, hbw1, hv4, r4, l4, hk4⟩ := hq
    have hRR : RR = .bad e o := by rw [HRL.out]; exact loopV_bad (H0.out l1 s1) hlf hn
    subst hRR
    have c7 := hk4.c7
    have he : ((e : Int) == 12) = false := by rw [beq_eq_false_iff_ne]; have := HTY2.2.1; omega
    clear HRL hn HTY HTY2
    go_wp2_with fail
    exact end_badA Tryz.results124 rfl rfl hk4 rfl hne hr1 (by omega) hBw1
   | ok v l2 s2 =>
    rw [hn] at hq HTY2
    obtain ⟨rfl, hv4, fv4, hs4⟩ := hq
    obtain ⟨y1, y2, y3, y4, y5⟩ := HTY2
    obtain ⟨n, rfl, hn1, hn2⟩ := y1.int htc5
    have hlp : 0 < s1.left := by
     rcases Nat.eq_zero_or_pos s1.left with h | h
     ·rw [H0.out l1 s1 h] at hn; cases hn
     ·exact h
    obtain ⟨g, rfl⟩ : ∃ g, gk = g + 1 := ⟨gk - 1, by omega⟩
    have HRR : Hid (RR = if n = 0 then .ok (.i 0) l2 s2 else match nodV im inp f b d dd l2 s2 with | .bad e o => .bad e o | .ok _ l s => loopV (nodV im inp f b d c) (nodV im inp f b d dd) g l s) := by
     show _ = _
     rw [HRL.out]
     simp only [loopV, hn, V.N]
     by_cases h0 : n = 0
     ·simp [h0]
     ·cases nodV im inp f b d dd l2 s2 <;> simp [h0]
    have c7 := hs4.wk.c7
    have m5 := hs4.blt
    clear HRL hn HTY y1
    simp only [vAgg, V.N]
    by_cases h0 : n = 0
    ·have hRR := HRR.out
     rw [if_pos h0] at hRR
     subst hRR
     subst h0
     clear HRR
     rw [show ((V.i 0).K : Int) = 105 from rfl]
     go_wp2_with fail
     exact end_okA Tryz.results124 rfl rfl hs4 hr1 hPr (by omega) h0w (fun k hk => Or.inl hk) hBw1 (v := .i 0) rfl rfl
    ·have h0' : (n == 0) = false := by simpa using h0
     have hRR := HRR.out
     rw [if_neg h0] at hRR
     have HR2 := hid hRR
     clear HRR hRR h0
     have z0 : w1.cell? ⟨w.heap.size, 0, none⟩ = some (.int .i64 b.cls) := by rw [cell_of_row w1 _ 0 _ _ (0, 0) hgB3]; rfl
     have z1 : w1.cell? ⟨w.heap.size, 1, none⟩ = some (.int .i64 b.meth) := by rw [cell_of_row w1 _ 1 _ _ (0, 0) hgB3]; rfl
     have z2 : w1.cell? ⟨w.heap.size, 2, none⟩ = some (.string ⟨b.locals.toArray⟩) := by rw [cell_of_row w1 _ 2 _ _ (0, 0) hgB3]; rfl
     have z3 : w1.cell? ⟨w.heap.size, 3, none⟩ = some (.slice none 0 0) := by rw [cell_of_row w1 _ 3 _ _ (0, 0) hgB3]; rfl
     have z4 : w1.cell? ⟨w.heap.size, 4, none⟩ = some (.slice ak b.code.length capk) := by rw [cell_of_row w1 _ 4 _ _ (0, 0) hgB3]; rfl
     have hbl3 := lt_of_block hgB3
     have hBa : But (fun _ => False) w1 (w1.alloc (.cells #[.int .u8 105, .int .i64 n] 135)) := But.alloc _ _ _
     have hc := IH b d dd l2 s2 td F B _ _ lv hv4 fv4 _ hbm hd htd y2 y3 (by omega) (hs4.new hBa) hT
     unfold bodAgg at hc
     have HC := hid hc
     have HTD := hid (nodV_typed hR inp f B b d dd l2 s2 td F hbm htd y2 y3 (by omega))
     clear hc
     rw [show ((V.i n).K : Int) = 105 from rfl]
     go_wp2_with fail
     refine HC.out.mono ?_
     rintro en w5 ⟨hB5, hq⟩
     have hBw5 : But (FrD P w0) w w5 := (hBw1.trans (but_n hBa)).trans (hB5.mono (fun k _ h => ⟨h.1, fun hp => h.2 (Or.inl hp)⟩))
     have hBW5 := (hBW1.trans (but_n hBa)).trans hB5
     obtain ⟨K, N, rfl⟩ := hq.val
     have HN : Hid (LoopI (fun k => P k ∨ (w.heap.size ≤ k ∧ k < W.heap.size)) w0 bw bi inp d lv im B b.locals (nodV im inp f b d c) (nodV im inp f b d dd) RR g w5) := by
      have hT2 := HTD.out
      have hR2 := HR2.out
      cases hn2 : nodV im inp f b d dd l2 s2 with
      | bad e o =>
       rw [hn2] at hq hT2 hR2
       obtain ⟨_, _, hv6, r6, l6, hk6⟩ := hq
       exact Or.inr ⟨e, o, hv6, r6, l6, hk6, hT2.1, hT2.2.1, hR2⟩
      | ok v3 l3 s3 =>
       rw [hn2] at hq hT2 hR2
       obtain ⟨_, hv6, fv6, hs6⟩ := hq
       obtain ⟨x1, x2, x3, x4, x5⟩ := hT2
       exact Or.inl ⟨l3, s3, hv6, fv6, hs6, x2, x3, by omega, hR2⟩
     clear HC HTD HR2 hq z0 z1 z2 z3 z4 hB5
     go_wp2_with fail
     go_roundg g
     case measure => omega
     case rel => exact ⟨hBw5, hBW5, by omega, HN⟩
  ·have c7 := hk1.c7
   have m5 := hk1.lt
   have he : ((e : Int) == 12) = false := by rw [beq_eq_false_iff_ne]; omega
   subst hrb
   obtain ⟨K9, N9, r0, r1', f0, f1, hrl⟩ := hrr2.parts
   go_wp2_with fail
   exact end_bad Tryz.results124 rfl rfl hk1 rfl hne hrr2 (by omega) hBw
theorem TreeAt.node {w0 w : World} {b : Bod} {ak : Option Addr} {capk : Nat} (h : w0.ownsRow 0 147 5 (.slice ak b.code.length capk) b.code.length (ndCells (endsN 0 b.code))) (hB : But (fun _ => False) w0 w) {i : Nat} {x : Ins} (hx : b.code[i]? = some x) :
  ∃ g, ak = some ⟨g, 0, none⟩ ∧ i < b.code.length ∧ g < w.heap.size ∧ g < w0.heap.size ∧ w.cell? ⟨g, i * 5, none⟩ = some (.int .u8 x.op.toNat) ∧ w.cell? ⟨g, i * 5 + 1, none⟩ = some (.int .i64 x.a) ∧ w.cell? ⟨g, i * 5 + 2, none⟩ = some (.int .i64 x.b) ∧ w.cell? ⟨g, i * 5 + 3, none⟩ = some (.int .i64 x.pos) ∧ w.cell? ⟨g, i * 5 + 4, none⟩ = some (.int .i64 (endN b.code i)) := by
 have hl := (List.getElem?_eq_some_iff.1 hx).1
 obtain ⟨g, rfl, hg1, hg2, hcell⟩ := owns_two h (by omega)
 have hy := endsN_at (o := 0) hx
 rw [Nat.zero_add] at hy
 have key : ∀ (j : Nat) (v : Value), (ndCells (endsN 0 b.code))[j]? = some v → w.cell? ⟨g, j, none⟩ = some v := fun j v hv => (hB.cell (p := ⟨g, j, none⟩) hg1 (fun h => h)).trans (hcell _ _ hv)
 exact ⟨g, rfl, hl, Nat.lt_of_lt_of_le hg1 hB.size, hg1, key _ _ (ndCells_at (k := 0) hy (by omega)), key _ _ (ndCells_at (k := 1) hy (by omega)), key _ _ (ndCells_at (k := 2) hy (by omega)), key _ _ (ndCells_at (k := 3) hy (by omega)), key _ _ (ndCells_at (k := 4) hy (by omega))⟩
/-- No node may be begun. -/
theorem node_spent (P : Nat → Prop) (w0 w : World) (bw bi d i : Nat) (inp : ByteArray) (s : Ev) (lv hv : Value) (l : List V) (fv : List Value) (hst : StX P w0 w bw bi inp d s lv l hv fv) (h0 : s.left = 0) (b : Bod) (vt : Value) (hT : TreeAt w0 b vt) :
  Calls Tryz.prog 74 #[.pointer (some ⟨bw, 0, none⟩), bodAgg b vt, .int .i64 i, lv] w fun en w' => But (FrD P w0) w w' ∧ ResD P w0 bw bi inp d lv (.bad 5 s.out) en w' := by
 obtain ⟨ak, capk, rfl, hTr⟩ := hT
 unfold bodAgg
 have hbl := hst.blt
 have c4 := hst.wk.c4
 rw [h0] at c4
 have c4' : w.cell? ⟨bw, 4, none⟩ = some (.int .i64 0) := c4
 have c7 := hst.wk.c7
 have z7 := hst.wk.fz 7
 have hgA : bw < w.heap.size + 1 := by omega
 clear c4 h0
 go_enter Tryz.func74, Tryz.ntmps74
 go_wp2_with fail
 exact end_no Tryz.results74 rfl rfl (hst.wk.set7 5) rfl (but_w hst (But.setB _ _ _ _)) ((But.alloc _ _ _).trans (But.alloc _ _ _)) (heap_alloc_at (by simp [size_setCell]) _)
theorem node_step {f : Nat} (w0 : World) (bw bi : Nat) (inp : ByteArray) (im : Img) (hI : ImgS w0 bi im) (htab : TabW w0) (hR : Ready im) (IH : NodeD im inp w0 bw bi f) : NodeD im inp w0 bw bi (f + 1) := by
 intro b d i l s t F B P w lv hv fv vt hbm hd htn hll hs hsf hst hT
 by_cases h0 : s.left = 0
 ·rw [nodV_zero h0]
  exact node_spent P w0 w bw bi d i inp s lv hv l fv hst h0 b vt hT
 obtain ⟨ak, capk, rfl, hTr⟩ := hT
 have hT : TreeAt w0 b (.slice ak b.code.length capk) := ⟨ak, capk, rfl, hTr⟩
 unfold bodAgg
 have hbl := hst.blt
 have hW := hR.wf
 cases F with
 | zero => cases htn
 | succ F =>
 simp only [typN] at htn
 cases hx : b.code[i]? with
 | none => rw [hx] at htn; cases htn
 | some x =>
 rw [hx] at htn
 simp only at htn
 have hwb := hW.bod b hbm
 have hxm : x ∈ b.code := List.mem_of_getElem? hx
 have hwx := hwb.code x hxm
 obtain ⟨ar, har⟩ : ∃ ar, arity x.op = ar := ⟨_, rfl⟩
 have har3 : ar ≤ 3 := by rw [← har]; unfold arity; split; omega; split; omega; split <;> omega
 rw [har] at htn
 cases hp : partsT b.code (typN im.classes im.sigs b.locals b.code F) ar (i + 1) with
 | none => rw [hp] at htn; cases htn
 | some ts =>
 rw [hp] at htn
 simp only at htn
 obtain ⟨RR, hRR⟩ : ∃ RR, nodV im inp (f + 1) b d i l s = RR := ⟨_, rfl⟩
 rw [hRR]
 have HRR := hid hRR
 clear hRR
 obtain ⟨sl, hsl⟩ : ∃ sl, s.left = sl + 1 := ⟨s.left - 1, by omega⟩
 have hs1 : StT im (B - 22) { s with left := sl } := ⟨hs.ht, by have := hs.cap; simp; omega, by have := hs.outn; simp; omega, by have := hs.bb; omega, by have := hs.rd; simp; omega⟩
 obtain ⟨W, hWW⟩ : ∃ W, (((w.setCell ⟨bw, 4, none⟩ (.int .i64 sl)).alloc (.cells #[.int .i64 b.cls, .int .i64 b.meth, .string ⟨b.locals.toArray⟩, .slice none 0 0, .slice ak b.code.length capk] 52)).alloc (.cells #[.int .u8 0, .int .i64 0] 135)).alloc (.cells #[.int .u8 x.op.toNat, .int .i64 x.a, .int .i64 x.b, .int .i64 x.pos, .int .i64 (endN b.code i)] 147) = W := ⟨_, rfl⟩
 have c4 := hst.wk.c4
 have z4 := hst.wk.fz 4
 rw [hsl] at c4
 have c4' : w.cell? ⟨bw, 4, none⟩ = some (.int .i64 ((sl : Int) + 1)) := by rw [c4]; simp
 have hslI : ¬ ((sl : Int) + 1 ≤ 0) := by omega
 have hgA : bw < w.heap.size + 1 := by omega
 have hcap := hs.cap
 have hsl4 : sl ≤ 4000 := by omega
 have hslf : sl ≤ f := by omega
 obtain ⟨g, rfl, hil, hgw, hg0, n0, n1, n2, n3, n4⟩ := TreeAt.node hTr hst.old hx
 have hgB : g < w.heap.size + 1 := by omega
 have hne : ¬ bw = g := by have := hst.ge; omega
 have hne2 : ¬ g = bw := by have := hst.ge; omega
 have hS1 : But (· = bw) w (w.setCell ⟨bw, 4, none⟩ (.int .i64 sl)) := But.setB _ _ _ _
 have hsX := hst.work (s' := { s with left := sl }) (d' := d) hS1 rfl (hst.wk.set4 _)
 have hBX : But (fun _ => False) (w.setCell ⟨bw, 4, none⟩ (.int .i64 sl)) W := by rw [← hWW]; exact ((But.alloc _ _ _).trans (But.alloc _ _ _)).trans (But.alloc _ _ _)
 have hgBd : W.heap[w.heap.size]? = some (.cells #[.int .i64 b.cls, .int .i64 b.meth, .string ⟨b.locals.toArray⟩, .slice none 0 0, .slice (some ⟨g, 0, none⟩) b.code.length capk] 52) := by rw [← hWW]; exact (((But.alloc (fun _ => False) _ _).trans (But.alloc _ _ _)).block _ (by simp [size_setCell]) (fun h => h)).trans (heap_alloc_at (by simp [size_setCell]) _)
 have hgR : W.heap[w.heap.size + 1]? = some (.cells #[.int .u8 0, .int .i64 0] 135) := by rw [← hWW]; exact ((But.alloc (fun _ => False) _ _).block _ (by simp [size_setCell]) (fun h => h)).trans (heap_alloc_at (by simp [size_setCell]) _)
 have hgN : W.heap[w.heap.size + 1 + 1]? = some (.cells #[.int .u8 x.op.toNat, .int .i64 x.a, .int .i64 x.b, .int .i64 x.pos, .int .i64 (endN b.code i)] 147) := by rw [← hWW]; exact heap_alloc_at (by simp [size_setCell]) _
 have hsW := hsX.grow hBX
 simp only [size_setCell] at hsW
 have hrr : ResB W (w.heap.size + 1) := ⟨0, 0, hgR⟩
 have hgW := lt_of_block hgN
 have hBw : But (FrD P w0) w W := (but_w hst hS1).trans (but_n hBX)
 have h0w := hst.old.size
 have HWW := hid hWW
 have HX := hid (And.intro hx (And.intro hp (And.intro htn (And.intro har (And.intro hsl h0)))))
 clear c4 hWW hx hp htn har hsl h0
 have hiI : (i : Int) < (b.code.length : Int) := by omega
 go_enter Tryz.func74, Tryz.ntmps74
 go_wp2_with fail
 rw [HWW.out]
 clear HWW c4' z4 n0 n1 n2 n3 n4
 obtain ⟨hx, hp, htn, har, hsl, h0⟩ := HX.out
 refine (parts_any x.op W).mono ?_
 rintro en wx ⟨rfl, hwx⟩
 rw [hwx, har]
 clear hwx wx
 have hPr : P (w.heap.size + 1) ∨ (w.heap.size ≤ w.heap.size + 1 ∧ w.heap.size + 1 < W.heap.size) := Or.inr ⟨by omega, by omega⟩
 have hPb : P w.heap.size ∨ (w.heap.size ≤ w.heap.size ∧ w.heap.size < W.heap.size) := Or.inr ⟨by omega, by omega⟩
 have hPn : P (w.heap.size + 1 + 1) ∨ (w.heap.size ≤ w.heap.size + 1 + 1 ∧ w.heap.size + 1 + 1 < W.heap.size) := Or.inr ⟨by omega, by omega⟩
 have hPP : ∀ k, P k → P k ∨ (w.heap.size ≤ k ∧ k < W.heap.size) := fun k h => Or.inl h
 have hRV := HRR.out
 have hz : (sl + 1 = 0) = False := by simp
 simp only [nodV, hx, har, hsl, hz, if_false, Nat.add_sub_cancel] at hRV
 have k0 : W.cell? ⟨w.heap.size + 1 + 1, 0, none⟩ = some (.int .u8 x.op.toNat) := by rw [cell_of_row W _ 0 _ _ (0, 0) hgN]; rfl
 have k1 : W.cell? ⟨w.heap.size + 1 + 1, 1, none⟩ = some (.int .i64 x.a) := by rw [cell_of_row W _ 1 _ _ (0, 0) hgN]; rfl
 have k2 : W.cell? ⟨w.heap.size + 1 + 1, 2, none⟩ = some (.int .i64 x.b) := by rw [cell_of_row W _ 2 _ _ (0, 0) hgN]; rfl
 have k3 : W.cell? ⟨w.heap.size + 1 + 1, 3, none⟩ = some (.int .i64 x.pos) := by rw [cell_of_row W _ 3 _ _ (0, 0) hgN]; rfl
 have k4 : W.cell? ⟨w.heap.size + 1 + 1, 4, none⟩ = some (.int .i64 (endN b.code i)) := by rw [cell_of_row W _ 4 _ _ (0, 0) hgN]; rfl
 by_cases har0 : ar = 0
 ·subst har0
  rw [if_pos rfl] at hRV
  have HA := hid (leaf_any _ w0 W bw bi d inp { s with left := sl } lv hv l fv im hI hW hsW hs1 x (endN b.code i) b.locals.length hwx hll.len har)
  rw [hRV] at HA
  clear HX hx hp htn har hsl h0 hRV HRR
  go_wp2_with fail
  refine HA.out.mono ?_
  rintro en w1 ⟨hB1, hq⟩
  obtain ⟨K, N, rfl⟩ := hq.val
  have hr1 := hrr.but hB1 (fun h => h.2 hPr)
  have HQ := hid hq
  clear HA hsW hrr hgN hgBd hgR hq k0 k1 k2 k3 k4
  obtain ⟨K9, N9, r0, r1, f0, f1, hrl⟩ := hr1.parts
  go_wp2_with fail
  exact pass_on Tryz.results74 rfl rfl hBw hB1 HQ.out hr1 hPr (by omega) h0w hPP (by omega)
 rw [if_neg har0] at hRV
 have har0I : ((ar : Int) == 0) = false := by rw [beq_eq_false_iff_ne]; omega
 have zb0 : W.cell? ⟨w.heap.size, 0, none⟩ = some (.int .i64 b.cls) := by rw [cell_of_row W _ 0 _ _ (0, 0) hgBd]; rfl
 have zb1 : W.cell? ⟨w.heap.size, 1, none⟩ = some (.int .i64 b.meth) := by rw [cell_of_row W _ 1 _ _ (0, 0) hgBd]; rfl
 have zb2 : W.cell? ⟨w.heap.size, 2, none⟩ = some (.string ⟨b.locals.toArray⟩) := by rw [cell_of_row W _ 2 _ _ (0, 0) hgBd]; rfl
 have zb3 : W.cell? ⟨w.heap.size, 3, none⟩ = some (.slice none 0 0) := by rw [cell_of_row W _ 3 _ _ (0, 0) hgBd]; rfl
 have zb4 : W.cell? ⟨w.heap.size, 4, none⟩ = some (.slice (some ⟨g, 0, none⟩) b.code.length capk) := by rw [cell_of_row W _ 4 _ _ (0, 0) hgBd]; rfl
 have hlen := hwb.len
 by_cases h111 : x.op.toNat = 111
 ·rw [if_pos h111] at hRV
  have har2 : ar = 2 := by rw [← har]; simp [arity, h111]
  subst har2
  obtain ⟨t0, t1, g0, g1, rfl⟩ := partsT2 hp
  have ht0 : t0.toNat = 105 := by
   simp [nodeT, askT, giveT, Sp.arith, h111] at htn
   exact htn.1
  obtain ⟨y, hy⟩ : ∃ y, b.code[i + 1]? = some y := by
   cases hy : b.code[i + 1]? with
   | none => cases F with
    | zero => cases g0
    | succ F => simp only [typN, hy] at g0; cases g0
   | some y => exact ⟨y, rfl⟩
  obtain ⟨g', hgg, hil1, hgw1, _, _, _, _, _, e4⟩ := TreeAt.node hTr hsW.old hy
  have hgg2 : g = g' := by injection hgg with h; injection h
  subst hgg2
  have hT2 : TreeAt w0 b (.slice (some ⟨g, 0, none⟩) b.code.length capk) := hT
  have hlp := loop_any _ w0 W.drew bw bi d inp { s with left := sl } lv hv l fv im hR IH (hsW.new (But.drew _ _)) hs1 (by simp; omega) hd b hbm _ hT2 (i + 1) (endN b.code (i + 1)) F t0 t1 g0 ht0 g1 hll
  unfold bodAgg at hlp
  rw [hRV, show ((i + 1 : Nat) : Int) = (i : Int) + 1 from by simp] at hlp
  have HA := hid hlp
  have t111 : ((x.op.toNat : Int) == 111) = true := tst h111
  have hcI : (i : Int) + 1 < (b.code.length : Int) := by omega
  have hcJ : 0 ≤ (i : Int) + 1 := by omega
  clear HX hx hp htn har hsl h0 hRV HRR h111 hlp hgg hy g0 g1
  go_wp2_with fail
  have hS0 : But (FrD (fun k => P k ∨ (w.heap.size ≤ k ∧ k < W.heap.size)) w0) W W.drew := But.drew _ _
  have m1 : w.heap.size < W.heap.size := by omega
  have hnb : ¬ FrD (fun k => P k ∨ (w.heap.size ≤ k ∧ k < W.heap.size)) w0 w.heap.size := fun h => h.2 hPb
  have hng : ¬ FrD (fun k => P k ∨ (w.heap.size ≤ k ∧ k < W.heap.size)) w0 g := fun h => by have := h.1; omega
  refine wpTx_begin (But (FrD (fun k => P k ∨ (w.heap.size ≤ k ∧ k < W.heap.size)) w0) W) 11 (by kernel_rfl) ?_
  have fSA := hid (fun wS (h : (But (FrD (fun k => P k ∨ (w.heap.size ≤ k ∧ k < W.heap.size)) w0) W) wS) => (And.intro ((h.cell (p := ⟨w.heap.size, 0, none⟩) m1 hnb).trans zb0) (And.intro ((h.cell (p := ⟨w.heap.size, 1, none⟩) m1 hnb).trans zb1) (And.intro ((h.cell (p := ⟨w.heap.size, 2, none⟩) m1 hnb).trans zb2) (And.intro ((h.cell (p := ⟨w.heap.size, 3, none⟩) m1 hnb).trans zb3) (And.intro ((h.cell (p := ⟨w.heap.size, 4, none⟩) m1 hnb).trans zb4) ((h.cell (p := ⟨g, (i + 1) * 5 + 4, none⟩) hgw1 hng).trans e4)))))))
  iterate 10 (refine wpTx_take (v := ?_) rfl (by kernel_rfl) (fun _ _ _ h => h) rfl hS0 ?_ ?_; rotate_left; (focus (intro wS h; obtain ⟨q0, q1, q2, q3, q4, q5⟩ := fSA.out wS h; clear h; go_simp; try rfl)); dsimp only [Act.put]; try simp only [puts])
  try clear fSA
  refine wpTx_step rfl (by kernel_rfl) ?_
  intro KS hKS
  go_simp
  refine HA.out.mono ?_
  rintro en w1 ⟨hB1, hq⟩
  obtain ⟨K, N, rfl⟩ := hq.val
  refine hKS.out _ _ (fun _ => hS0.trans hB1) ?_
  clear hKS KS
  have hr1 := (hrr.but hS0 (fun h => h.2 hPr)).but hB1 (fun h => h.2 hPr)
  have HQ := hid hq
  clear HA hsW hrr hgN hgBd hgR hq k0 k1 k2 k3 k4 zb0 zb1 zb2 zb3 zb4 e4
  obtain ⟨K9, N9, r0, r1, f0, f1, hrl⟩ := hr1.parts
  refine wpTx_step rfl (by kernel_rfl) ?_
  intro KS hKS
  go_simp
  refine hKS.out _ _ (fun h => absurd h (by decide)) ?_
  clear hKS KS
  refine wpTx_done rfl (by kernel_rfl) ?_
  go_wp2_with fail
  exact pass_on Tryz.results74 rfl rfl hBw (hS0.trans hB1) HQ.out hr1 hPr (by omega) h0w hPP (by omega)
 rw [if_neg h111] at hRV
 have t111 : ((x.op.toNat : Int) == 111) = false := tsf (k := 111) h111
 obtain ⟨t0, g0⟩ : ∃ t0, typN im.classes im.sigs b.locals b.code F (i + 1) = some t0 := by
  rcases (by omega : ar = 1 ∨ ar = 2 ∨ ar = 3) with rfl | rfl | rfl
  ·obtain ⟨a, h1, _⟩ := partsT1 hp; exact ⟨a, h1⟩
  ·obtain ⟨a, _, h1, _⟩ := partsT2 hp; exact ⟨a, h1⟩
  ·obtain ⟨a, _, _, h1, _⟩ := partsT3 hp; exact ⟨a, h1⟩
 have hT2 : TreeAt w0 b (.slice (some ⟨g, 0, none⟩) b.code.length capk) := hT
 have hc := IH b d (i + 1) l { s with left := sl } t0 F (B - 22) _ W lv hv fv _ hbm hd g0 hll hs1 (by simp; omega) hsW hT2
 unfold bodAgg at hc
 rw [show ((i + 1 : Nat) : Int) = (i : Int) + 1 from by simp] at hc
 have HC := hid hc
 have HTY := hid (nodV_typed hR inp f (B - 22) b d (i + 1) l { s with left := sl } t0 F hbm g0 hll hs1 (by simp; omega))
 have HV := hid hRV
 clear hc hRV
 clear HX hx hsl h0
 have HP := hid (And.intro hp (And.intro htn har))
 clear hp htn har
 go_wp2_with fail
 refine HC.out.mono ?_
 rintro en w1 ⟨hB1, hq⟩
 clear HC k0 k1 k2 k3 k4 zb0 zb1 zb2 zb3 zb4
 have hr1 := hrr.but hB1 (fun h => h.2 hPr)
 have hBw1 : But (FrD P w0) w w1 := hBw.trans (hB1.mono (fun k _ h => ⟨h.1, fun hp => h.2 (hPP k hp)⟩))
 have hgB1 := (hB1.block _ (by omega) (fun h => h.2 hPb)).trans hgBd
 have hgN1 := (hB1.block _ hgW (fun h => h.2 hPn)).trans hgN
 have hsz1 := hB1.size
 clear hrr hgN hgBd hgR hsW
 obtain ⟨K9, N9, r0, r1, f0, f1, hrl⟩ := hr1.parts
 have HV2 := HV.out
 have HTY2 := HTY.out
 cases hn : nodV im inp f b d (i + 1) l { s with left := sl } with
 | bad e o =>
  rw [hn] at hq HV2 HTY2
  simp only at HV2
  subst HV2
  obtain ⟨⟨a, a', rfl⟩, hbw1, hv4, r4, l4, hk4⟩ := hq
  have c7 := hk4.c7
  have he : ((e : Int) != 12) = true := by rw [bne_iff_ne]; have := HTY2.2.1; omega
  have hne1 : ¬ bw = w.heap.size + 1 := by omega
  clear HRR HV HTY HTY2 hn HP
  go_wp2_with fail
  exact end_badA Tryz.results74 rfl rfl hk4 rfl hne1 hr1 (by omega) hBw1
 | ok u l1 s1 =>
  rw [hn] at hq HV2 HTY2
  simp only at HV2
  obtain ⟨rfl, hv1, fv1, hs2⟩ := hq
  obtain ⟨y1, y2, y3, y4, y5⟩ := HTY2
  simp only at y4 y5
  obtain ⟨y, hy⟩ : ∃ y, b.code[i + 1]? = some y := by
   cases hy : b.code[i + 1]? with
   | none => cases F with
    | zero => cases g0
    | succ F => simp only [typN, hy] at g0; cases g0
   | some y => exact ⟨y, rfl⟩
  obtain ⟨g', hgg, hil1, hgw1, _, _, _, _, _, e4⟩ := TreeAt.node hTr hs2.old hy
  have hgg2 : g = g' := by injection hgg with h; injection h
  subst hgg2
  have HV3 := hid HV2
  clear hgg hy HV HV2 HRR HTY hn
  have c7 := hs2.wk.c7
  have m5 := hs2.blt
  have k0 : w1.cell? ⟨w.heap.size + 1 + 1, 0, none⟩ = some (.int .u8 x.op.toNat) := by rw [cell_of_row w1 _ 0 _ _ (0, 0) hgN1]; rfl
  have k1 : w1.cell? ⟨w.heap.size + 1 + 1, 1, none⟩ = some (.int .i64 x.a) := by rw [cell_of_row w1 _ 1 _ _ (0, 0) hgN1]; rfl
  have k2 : w1.cell? ⟨w.heap.size + 1 + 1, 2, none⟩ = some (.int .i64 x.b) := by rw [cell_of_row w1 _ 2 _ _ (0, 0) hgN1]; rfl
  have k3 : w1.cell? ⟨w.heap.size + 1 + 1, 3, none⟩ = some (.int .i64 x.pos) := by rw [cell_of_row w1 _ 3 _ _ (0, 0) hgN1]; rfl
  have k4 : w1.cell? ⟨w.heap.size + 1 + 1, 4, none⟩ = some (.int .i64 (endN b.code i)) := by rw [cell_of_row w1 _ 4 _ _ (0, 0) hgN1]; rfl
  have zb0 : w1.cell? ⟨w.heap.size, 0, none⟩ = some (.int .i64 b.cls) := by rw [cell_of_row w1 _ 0 _ _ (0, 0) hgB1]; rfl
  have zb1 : w1.cell? ⟨w.heap.size, 1, none⟩ = some (.int .i64 b.meth) := by rw [cell_of_row w1 _ 1 _ _ (0, 0) hgB1]; rfl
  have zb2 : w1.cell? ⟨w.heap.size, 2, none⟩ = some (.string ⟨b.locals.toArray⟩) := by rw [cell_of_row w1 _ 2 _ _ (0, 0) hgB1]; rfl
  have zb3 : w1.cell? ⟨w.heap.size, 3, none⟩ = some (.slice none 0 0) := by rw [cell_of_row w1 _ 3 _ _ (0, 0) hgB1]; rfl
  have zb4 : w1.cell? ⟨w.heap.size, 4, none⟩ = some (.slice (some ⟨g, 0, none⟩) b.code.length capk) := by rw [cell_of_row w1 _ 4 _ _ (0, 0) hgB1]; rfl
  have l1' := lt_of_block hgB1
  have l2' := lt_of_block hgN1
  have hcI : (i : Int) + 1 < (b.code.length : Int) := by omega
  have hcJ : 0 ≤ (i : Int) + 1 := by omega
  simp only [vAgg]
  have hBa : But (fun _ => False) w1 (w1.alloc (.cells #[.int .u8 u.K, .int .i64 u.N] 135)) := But.alloc _ _ _
  have hs3 := hs2.grow hBa
  have hr2 := hr1.but hBa (fun h => h)
  have hBw2 : But (FrD P w0) w (w1.alloc (.cells #[.int .u8 u.K, .int .i64 u.N] 135)) := hBw1.trans (but_n hBa)
  obtain ⟨hp, htn, har⟩ := HP.out
  by_cases h105 : x.op.toNat = 105
  ·have t105 : ((x.op.toNat : Int) == 105) = true := tst h105
   have HV4 := HV3.out
   rw [if_pos h105] at HV4
   have har3' : ar = 3 := by rw [← har]; simp [arity, h105]
   subst har3'
   obtain ⟨t0', t1, t2, g0', g1, g2, rfl⟩ := partsT3 hp
   rw [g0] at g0'
   cases g0'
   simp [nodeT, askT, giveT, Sp.arith, h105] at htn
   obtain ⟨n, rfl, hn1, hn2⟩ := y1.int htn.1.1
   obtain ⟨y', hy'⟩ : ∃ y', b.code[endN b.code (i + 1)]? = some y' := by
    cases hy : b.code[endN b.code (i + 1)]? with
    | none => cases F with
     | zero => cases g1
     | succ F => simp only [typN, hy] at g1; cases g1
    | some y => exact ⟨y, rfl⟩
   obtain ⟨g', hgg, hil2, _, _, _, _, _, _, e5⟩ := TreeAt.node hTr hs2.old hy'
   have hgg2 : g = g' := by injection hgg with h; injection h
   subst hgg2
   obtain ⟨j1, hj1⟩ : ∃ j1, endN b.code (i + 1) = j1 := ⟨_, rfl⟩
   obtain ⟨j2, hj2⟩ : ∃ j2, endN b.code j1 = j2 := ⟨_, rfl⟩
   rw [hj1] at HV4 g1 g2 e4 e5 hil2
   rw [hj2] at HV4 g2 e5
   have hjI : (j1 : Int) < (b.code.length : Int) := by omega
   have HC := hid (fun j tt (hj : typN im.classes im.sigs b.locals b.code F j = some tt) => IH b d j l1 s1 tt F (B - 22) _ _ lv hv1 fv1 _ hbm hd hj y2 y3 (by omega) hs3 hT2)
   unfold bodAgg at HC
   simp only [V.N] at HV4 HC hs3 hr2 hBw2 hBa ⊢
   clear hp htn har HP HV3 hj1 hj2 hgg hy' h105
   by_cases hn0 : n = 0
   ·simp [hn0] at HV4
    have HA := hid (HC.out j2 t2 g2)
    rw [HV4] at HA
    have hnI : (n == 0) = true := by simpa using hn0
    clear HC HV4 hn0
    go_wp2_with fail
    refine HA.out.mono ?_
    rintro en w5 ⟨hB5, hq⟩
    obtain ⟨K, N, rfl⟩ := hq.val
    have hr5 := hr2.but hB5 (fun h => h.2 (Or.inl hPr))
    have HQ := hid hq
    clear HA hs3 hq e5 k0 k1 k2 k3 k4 zb0 zb1 zb2 zb3 zb4 e4 c7
    obtain ⟨K8, N8, q0, q1, o0, o1, hrl5⟩ := hr5.parts
    go_wp2_with fail
    exact pass_on Tryz.results74 rfl rfl hBw2 hB5 HQ.out hr5 (Or.inl hPr) (by omega) h0w (fun k hk => Or.inl (hPP k hk)) (by omega)
   ·simp [hn0] at HV4
    have HA := hid (HC.out j1 t1 g1)
    rw [HV4] at HA
    have hnI : (n == 0) = false := by simpa using hn0
    clear HC HV4 hn0
    go_wp2_with fail
    refine HA.out.mono ?_
    rintro en w5 ⟨hB5, hq⟩
    obtain ⟨K, N, rfl⟩ := hq.val
    have hr5 := hr2.but hB5 (fun h => h.2 (Or.inl hPr))
    have HQ := hid hq
    clear HA hs3 hq e5 k0 k1 k2 k3 k4 zb0 zb1 zb2 zb3 zb4 e4 c7
    obtain ⟨K8, N8, q0, q1, o0, o1, hrl5⟩ := hr5.parts
    go_wp2_with fail
    exact pass_on Tryz.results74 rfl rfl hBw2 hB5 HQ.out hr5 (Or.inl hPr) (by omega) h0w (fun k hk => Or.inl (hPP k hk)) (by omega)
  have t105 : ((x.op.toNat : Int) == 105) = false := tsf (k := 105) h105
  by_cases har1 : ar = 1
  ·have HV4 := HV3.out
   rw [if_neg h105, if_pos har1] at HV4
   subst har1
   obtain ⟨t0', g0', rfl⟩ := partsT1 hp
   rw [g0] at g0'
   cases g0'
   have HA := hid (one_any _ w0 _ bw bi d inp s1 lv hv1 l1 fv1 im hI htab hR hs3 y3 x (endN b.code i) b.locals hwx y2 har t0 u y1 t htn hwb.loc.2)
   rw [HV4] at HA
   clear hp htn har HP HV3 HV4 h105
   go_wp2_with fail
   refine HA.out.mono ?_
   rintro en w5 ⟨hB5, hq⟩
   obtain ⟨K, N, rfl⟩ := hq.val
   have hr5 := hr2.but hB5 (fun h => h.2 (Or.inl hPr))
   have HQ := hid hq
   clear HA hs3 hq k0 k1 k2 k3 k4 zb0 zb1 zb2 zb3 zb4 e4 c7
   obtain ⟨K8, N8, q0, q1, o0, o1, hrl5⟩ := hr5.parts
   go_wp2_with fail
   exact pass_on Tryz.results74 rfl rfl hBw2 hB5 HQ.out hr5 (Or.inl hPr) (by omega) h0w (fun k hk => Or.inl (hPP k hk)) (by omega)
  ·have HV4 := HV3.out
   rw [if_neg h105, if_neg har1] at HV4
   have har2 : ar = 2 := by
    rw [← har]
    unfold arity at har ⊢
    rw [if_neg h105] at har ⊢
    split at har
    ·rename_i h'; rw [if_pos h']
    ·split at har <;> omega
   subst har2
   obtain ⟨t0', t1, g0', g1, rfl⟩ := partsT2 hp
   rw [g0] at g0'
   cases g0'
   have hc := IH b d (endN b.code (i + 1)) l1 s1 t1 F (B - 22) _ _ lv hv1 fv1 _ hbm hd g1 y2 y3 (by omega) hs3 hT2
   unfold bodAgg at hc
   have HC := hid hc
   have HTY := hid (nodV_typed hR inp f (B - 22) b d (endN b.code (i + 1)) l1 s1 t1 F hbm g1 y2 y3 (by omega))
   have HV5 := hid HV4
   have HP2 := hid (And.intro htn har)
   clear hp htn har HP HV3 HV4 hc h105
   go_wp2_with fail
   refine HC.out.mono ?_
   rintro en w5 ⟨hB5, hq⟩
   have hr5 := hr2.but hB5 (fun h => h.2 (Or.inl hPr))
   have hBw5 : But (FrD P w0) w w5 := hBw2.trans (hB5.mono (fun k _ h => ⟨h.1, fun hp => h.2 (Or.inl (hPP k hp))⟩))
   have hl1a : w1.heap.size < (w1.alloc (.cells #[.int .u8 u.K, .int .i64 u.N] 135)).heap.size := by simp
   have hgU5 := (hB5.block _ hl1a (fun h => h.2 (Or.inr ⟨Nat.le_refl _, hl1a⟩))).trans (heap_alloc_new w1 _)
   have hgN5 := (hB5.block _ (by simp; omega) (fun h => h.2 (Or.inl hPn))).trans ((hBa.block _ l2' (fun h => h)).trans hgN1)
   have hsz5 := hB5.size
   clear HC k0 k1 k2 k3 k4 zb0 zb1 zb2 zb3 zb4 e4 c7 hs3 r0 r1 f0 f1
   obtain ⟨K8, N8, q0, q1, o0, o1, hrl5⟩ := hr5.parts
   have HV6 := HV5.out
   have HTY3 := HTY.out
   cases hn : nodV im inp f b d (endN b.code (i + 1)) l1 s1 with
   | bad e o =>
    rw [hn] at hq HV6 HTY3
    simp only at HV6
    subst HV6
    obtain ⟨⟨a, a', rfl⟩, hbw1, hv4, r4, l4, hk4⟩ := hq
    have c7 := hk4.c7
    have he : ((e : Int) != 12) = true := by rw [bne_iff_ne]; have := HTY3.2.1; omega
    have hne1 : ¬ bw = w.heap.size + 1 := by omega
    clear HV5 HTY HTY3 hn HP2
    go_wp2_with fail
    exact end_badA Tryz.results74 rfl rfl hk4 rfl hne1 hr5 (by omega) hBw5
   | ok v l2 s2' =>
    rw [hn] at hq HV6 HTY3
    simp only at HV6
    obtain ⟨rfl, hv5, fv5, hs5⟩ := hq
    obtain ⟨x1, x2, x3, x4, x5⟩ := HTY3
    obtain ⟨htn, har⟩ := HP2.out
    clear HV5 HTY hn HP2
    simp only [vAgg]
    have c7 := hs5.wk.c7
    have m6 := hs5.blt
    have hBb : But (fun _ => False) w5 (w5.alloc (.cells #[.int .u8 v.K, .int .i64 v.N] 135)) := But.alloc _ _ _
    have hs6 := hs5.grow hBb
    have hr6 := hr5.but hBb (fun h => h)
    have hBw6 : But (FrD P w0) w (w5.alloc (.cells #[.int .u8 v.K, .int .i64 v.N] 135)) := hBw5.trans (but_n hBb)
    have u0 : w5.cell? ⟨w1.heap.size, 0, none⟩ = some (.int .u8 u.K) := by rw [cell_of_row w5 _ 0 _ _ (0, 0) hgU5]; rfl
    have u1 : w5.cell? ⟨w1.heap.size, 1, none⟩ = some (.int .i64 u.N) := by rw [cell_of_row w5 _ 1 _ _ (0, 0) hgU5]; rfl
    have k0 : w5.cell? ⟨w.heap.size + 1 + 1, 0, none⟩ = some (.int .u8 x.op.toNat) := by rw [cell_of_row w5 _ 0 _ _ (0, 0) hgN5]; rfl
    have k1 : w5.cell? ⟨w.heap.size + 1 + 1, 1, none⟩ = some (.int .i64 x.a) := by rw [cell_of_row w5 _ 1 _ _ (0, 0) hgN5]; rfl
    have k2 : w5.cell? ⟨w.heap.size + 1 + 1, 2, none⟩ = some (.int .i64 x.b) := by rw [cell_of_row w5 _ 2 _ _ (0, 0) hgN5]; rfl
    have k3 : w5.cell? ⟨w.heap.size + 1 + 1, 3, none⟩ = some (.int .i64 x.pos) := by rw [cell_of_row w5 _ 3 _ _ (0, 0) hgN5]; rfl
    have k4 : w5.cell? ⟨w.heap.size + 1 + 1, 4, none⟩ = some (.int .i64 (endN b.code i)) := by rw [cell_of_row w5 _ 4 _ _ (0, 0) hgN5]; rfl
    have lu := lt_of_block hgU5
    have ln := lt_of_block hgN5
    have HA := hid (two_any _ w0 _ bw bi d inp s2' lv hv5 l2 fv5 im hI hR IH hs6 x3 (by omega) hd x (endN b.code i) b.locals hwx har h111 (hR.lk b hbm x hxm) u v t0 t1 t htn (y1.ext x4) x1)
    rw [HV6] at HA
    clear HV6 htn har
    go_wp2_with fail
    refine HA.out.mono ?_
    rintro en w7 ⟨hB7, hq⟩
    obtain ⟨K, N, rfl⟩ := hq.val
    have hr7 := hr6.but hB7 (fun h => h.2 (Or.inl (Or.inl hPr)))
    have HQ := hid hq
    clear HA hs6 hq k0 k1 k2 k3 k4 c7 u0 u1 q0 q1 o0 o1
    obtain ⟨K7, N7, p0, p1, p2, p3, hrl7⟩ := hr7.parts
    go_wp2_with fail
    exact pass_on Tryz.results74 rfl rfl hBw6 hB7 HQ.out hr7 (Or.inl (Or.inl hPr)) (by omega) h0w (fun k hk => Or.inl (Or.inl (hPP k hk))) (by omega)
theorem node_all (w0 : World) (bw bi : Nat) (inp : ByteArray) (im : Img) (hI : ImgS w0 bi im) (htab : TabW w0) (hR : Ready im) : ∀ f, NodeD im inp w0 bw bi f := by
 intro f
 induction f with
 | zero =>
  intro b d i l s t F B P w lv hv fv vt hbm hd htn hll hs hsf hst hT
  exact node_spent P w0 w bw bi d i inp s lv hv l fv hst (by omega) b vt hT
 | succ f ih => exact node_step w0 bw bi inp im hI htab hR ih
end Go.Proofs.YtpfkkmacakjmbaaGreatDoor
