import Derived.Test.YtpfkkmacakjmbaaGreatDoorP33
import Derived.Test.YtpfkkmacakjmbaaGreatDoorP32
set_option maxRecDepth 100000
set_option maxHeartbeats 6400000
namespace Go.Proofs.YtpfkkmacakjmbaaGreatDoor
open Go Go.RowKit Sp
set_option linter.unusedSimpArgs false
set_option linter.unusedVariables false
attribute [local go_sem ↓] Go.wp_at_zero Go.wp_at_succ
structure PaW (w W : World) (pl op n pn pc : Nat) (c : UInt8) (pa : Option Addr) : Prop where
 nb : NB w W
 b0 : W.heap[w.heap.size]? = some (.cells #[.int .i64 pl, .int .u8 op, .int .u8 c.toNat, .int .i64 n, .slice pa pn pc] 219)
 b1 : W.heap[w.heap.size + 1]? = some (.cells #[.int .i32 0, .int .i64 0] 168)
 sz : W.heap.size = w.heap.size + 1 + 1
theorem paW {w : World} {pl op n pn pc : Nat} {c : UInt8} {pa : Option Addr} : PaW w ((w.alloc (.cells #[.int .i64 pl, .int .u8 op, .int .u8 c.toNat, .int .i64 n, .slice pa pn pc] 219)).alloc (.cells #[.int .i32 0, .int .i64 0] 168)) pl op n pn pc c pa :=
 ⟨((NB.refl w).alloc (by decide)).alloc (by decide), ((But.alloc (fun _ => False) _ _).block _ (by simp) (fun h => h)).trans (heap_alloc_new w _), heap_alloc_at (by simp) _, by simp⟩
section
variable {P : Nat → Prop} {w0 w : World} {be bw tx bl : Nat} {inp : ByteArray} {s : Ev} {lv vo vb : Value} {l : List V} {gs : List Nat} {fv : List Value} {im : Img} {b : Bod} {bf d : Nat} {Xb : XBod} {vl vi : Value}
theorem part_none (h : StQ P w0 w be bw tx inp s bl lv l vo vb gs fv) (pl op n pn pc k : Nat) (c : UInt8) (pa : Option Addr) (hk : pn ≤ k) (hk3 : k ≤ 3) :
  Calls Tryz.prog 155 #[.pointer (some ⟨be, 0, none⟩), .pointer (some ⟨bf, 0, none⟩), .agg #[.int .i64 pl, .int .u8 op, .int .u8 c.toNat, .int .i64 n, .slice pa pn pc], .int .i64 k] w (ReV P w0 w be bw tx inp bl lv (.ok .z l s)) := by
 have HH := hid h
 have k1 : ¬ ((k : Int) < 0) := by omega
 have k2 : (pn : Int) ≤ (k : Int) := by omega
 clear h
 go_enter Tryz.func155, Tryz.ntmps155
 go_wp2_with fail
 have hP := paW (w := w) (pl := pl) (op := op) (n := n) (pn := pn) (pc := pc) (c := c) (pa := pa)
 exact retX Tryz.results155 rfl rfl rfl (heap_alloc_at (by simp) _) ⟨hP.nb.but.mono (fun _ _ h => h.elim), vo, vb, gs, fv, rfl, HH.out.new hP.nb.but⟩
theorem part_at {f B F : Nat} {t : UInt8} (IH : NodeQ im inp w0 be bw tx f) (h : StQ P w0 w be bw tx inp s bl lv l vo vb gs fv) (hF : FrS P w0 w im b bf d Xb vl vi bl) (hbm : b ∈ im.bodies) (hs : StT im B s) (hsf : s.left ≤ f) (hd : d ≤ 12) (hll : LT im.classes s.heap b.locals l) (ps : List Nat) (hps : ps.length ≤ 3) (k j : Nat) (hk : ps[k]? = some j) (hty : typN im.classes im.sigs b.locals b.code F j = some t) (pl op n pn pc : Nat) (c : UInt8) (pa : Option Addr) (hrow : w0.ownsRow 0 3 1 (.slice pa pn pc) ps.length (intC ps)) :
  Calls Tryz.prog 155 #[.pointer (some ⟨be, 0, none⟩), .pointer (some ⟨bf, 0, none⟩), .agg #[.int .i64 pl, .int .u8 op, .int .u8 c.toNat, .int .i64 n, .slice pa pn pc], .int .i64 k] w (ReV P w0 w be bw tx inp bl lv (nodV im inp f b d j l s)) := by
 have hkl := (List.getElem?_eq_some_iff.1 hk).1
 obtain ⟨a', cap', hsl⟩ := owns_len hrow
 injection hsl with e1 e2 e3
 subst e1 e2 e3
 obtain ⟨g, rfl, hg1, hg2, hcell⟩ := owns_two hrow (by omega)
 have q0 : w0.cell? ⟨g, k, none⟩ = some (.int .i64 j) := hcell _ _ (by simp [intC, hk])
 replace q0 := (h.old.cell (p := ⟨g, k, none⟩) hg1 (fun h => h)).trans q0
 replace hg1 := Nat.lt_of_lt_of_le hg1 h.old.size
 have HDW := hid (paW (w := w) (pl := pl) (op := op) (n := n) (pn := ps.length) (pc := pc) (c := c) (pa := some ⟨g, 0, none⟩))
 have HC := hid (fun X (hX : NB w X) => IH b d j l s t F B _ X bl lv vo vb gs fv bf Xb vl vi hbm hd hty hll hs hsf (h.grown hX) (hF.grown hX))
 obtain ⟨RR, hRR⟩ : ∃ RR, nodV im inp f b d j l s = RR := ⟨_, rfl⟩
 rw [hRR] at HC ⊢
 have h0 := h.old.size
 have k1 : ¬ ((k : Int) < 0) := by omega
 have k2 : ¬ ((ps.length : Int) ≤ (k : Int)) := by omega
 have k3 : (k : Int) < (ps.length : Int) := by omega
 have hgA : g < w.heap.size + 1 := by omega
 have hgB : g < w.heap.size + 1 + 1 := by omega
 clear h hF hk hrow hcell hRR hty hll hs
 generalize ps.length = np at *
 go_enter Tryz.func155, Tryz.ntmps155
 go_wp2_with fail
 refine (HC.out _ HDW.out.nb).mono ?_
 intro en w1 hre
 obtain ⟨K, N, e, rfl, hfin⟩ := ReV.pass HDW.out.nb h0 hre
 obtain ⟨hr1, hfi⟩ := hfin (w.heap.size + 1) (by omega) ⟨0, 0, HDW.out.b1⟩
 obtain ⟨K9, N9, r0, r1, z0, z1, hrl⟩ := hr1.parts
 have HF := hid hfi
 clear hfi hfin hre HC HDW
 go_wp2_with fail
 exact retX Tryz.results155 rfl rfl rfl (hr1.put _ _) HF.out
end
theorem two_any {B f : Nat} (P : Nat → Prop) (w0 w : World) (bw bi d : Nat) (inp : ByteArray) (s : Ev) (lv hv : Value) (l : List V) (fv : List Value) (im : Img) (hI : ImgS w0 bi im) (hR : Ready im) (IH : NodeD im inp w0 bw bi f) (hst : StX P w0 w bw bi inp d s lv l hv fv) (hs : StT im B s) (hsf : s.left ≤ f) (hd : d ≤ 12) (x : Ins) (e : Nat) (lo : List UInt8) (hx : WfN im.classes im.sigs.length lo.length x) (hx2 : arity x.op = 2) (hx111 : x.op.toNat ≠ 111) (hlk : x.op.toNat = 99 → 0 ≤ findF im.classes im.bodies x.b 5 x.a) (u v : V) (ta tc tt : UInt8) (hnt : nodeT im.classes im.sigs lo x [ta, tc] = some tt) (hu : VT im.classes s.heap ta u) (hv' : VT im.classes s.heap tc v) :
  Calls Tryz.prog 126 #[.pointer (some ⟨bw, 0, none⟩), .agg #[.int .u8 x.op.toNat, .int .i64 x.a, .int .i64 x.b, .int .i64 x.pos, .int .i64 e], .agg #[.int .u8 u.K, .int .i64 u.N], .agg #[.int .u8 v.K, .int .i64 v.N]] w fun en w' => But (FrD P w0) w w' ∧ ResD P w0 bw bi inp d lv (twoV im (fun b' l' => nodV im inp f b' (d + 1) 0 l' s) d x u v l s) en w' := by
 have hbl := hst.blt
 have hW := hR.wf
 have hn4 := hW.nc
 have hop : arith x.op.toNat = true ∨ x.op.toNat = 101 ∨ x.op.toNat = 112 ∨ x.op.toNat = 99 ∨ x.op.toNat = 44 := by
  unfold arity at hx2
  split at hx2
  ·omega
  ·split at hx2
   ·rename_i h3; simp [arith] at h3 ⊢; omega
   ·split at hx2 <;> omega
 obtain ⟨W, hWW⟩ : ∃ W, (((w.alloc (.cells #[.int .u8 x.op.toNat, .int .i64 x.a, .int .i64 x.b, .int .i64 x.pos, .int .i64 e] 147)).alloc (.cells #[.int .u8 u.K, .int .i64 u.N] 135)).alloc (.cells #[.int .u8 v.K, .int .i64 v.N] 135)).alloc (.cells #[.int .u8 0, .int .i64 0] 135) = W := ⟨_, rfl⟩
 have hBW : But (fun _ => False) w W := by rw [← hWW]; exact (((But.alloc _ _ _).trans (But.alloc _ _ _)).trans (But.alloc _ _ _)).trans (But.alloc _ _ _)
 have hgN : W.heap[w.heap.size]? = some (.cells #[.int .u8 x.op.toNat, .int .i64 x.a, .int .i64 x.b, .int .i64 x.pos, .int .i64 e] 147) := by rw [← hWW]; exact ((((But.alloc (fun _ => False) _ _).trans (But.alloc _ _ _)).trans (But.alloc _ _ _)).block _ (by simp) (fun h => h)).trans (heap_alloc_new w _)
 have hgU : W.heap[w.heap.size + 1]? = some (.cells #[.int .u8 u.K, .int .i64 u.N] 135) := by rw [← hWW]; exact (((But.alloc (fun _ => False) _ _).trans (But.alloc _ _ _)).block _ (by simp) (fun h => h)).trans (heap_alloc_at (by simp) _)
 have hgV : W.heap[w.heap.size + 1 + 1]? = some (.cells #[.int .u8 v.K, .int .i64 v.N] 135) := by rw [← hWW]; exact ((But.alloc (fun _ => False) _ _).block _ (by simp) (fun h => h)).trans (heap_alloc_at (by simp) _)
 have hgR : W.heap[w.heap.size + 1 + 1 + 1]? = some (.cells #[.int .u8 0, .int .i64 0] 135) := by rw [← hWW]; exact heap_alloc_at (by simp) _
 have hsW := hst.grow hBW
 have hrr : ResB W (w.heap.size + 1 + 1 + 1) := ⟨0, 0, hgR⟩
 have hgW := lt_of_block hgR
 have HWW := hid hWW
 clear hWW
 rcases hop with h | h | h | h | h
 ·have hne : x.op.toNat ≠ 44 ∧ x.op.toNat ≠ 101 ∧ x.op.toNat ≠ 99 ∧ x.op.toNat ≠ 112 ∧ x.op.toNat ≠ 120 ∧ x.op.toNat ≠ 105 ∧ (x.op.toNat = 43 ∨ x.op.toNat = 45 ∨ x.op.toNat = 42 ∨ x.op.toNat = 60 ∨ x.op.toNat = 61 ∨ x.op.toNat = 47) := by
   simp [Sp.arith] at h; omega
  obtain ⟨n1, n2, n3, n4, n5, n6, n7⟩ := hne
  have t0 : ((x.op.toNat : Int) == 44) = false := tsf (k := 44) n1
  have t1 : ((x.op.toNat : Int) == 101) = false := tsf (k := 101) n2
  have t2 : ((x.op.toNat : Int) == 99) = false := tsf (k := 99) n3
  have t3 : ((x.op.toNat : Int) == 112) = false := tsf (k := 112) n4
  rw [show twoV im (fun b' l' => nodV im inp f b' (d + 1) 0 l' s) d x u v l s = arithV x.op.toNat u.N v.N l s from by unfold twoV; rw [if_neg n1, if_neg n2, if_neg n3, if_neg n4]]
  have hf : fitsT im.classes [ta, tc] [105, 105] = true := by
   simp [nodeT, askT, h, n2, n5, n1, n6, hx111] at hnt
   simpa using hnt.1
  obtain ⟨q1, q2⟩ := fits2 hf
  obtain ⟨a, rfl, a1, a2⟩ := (hu.sub hW.cls hn4 hs.ht (t' := 105) q1 (by decide)).int (by decide)
  obtain ⟨b, rfl, b1, b2⟩ := (hv'.sub hW.cls hn4 hs.ht (t' := 105) q2 (by decide)).int (by decide)
  have HA := hid (arith_any _ w0 W bw bi d inp s lv hv l fv hsW x.op.toNat n7 a b a1 a2 b1 b2)
  obtain ⟨RR, hRR⟩ : ∃ RR, arithV x.op.toNat (V.i a).N (V.i b).N l s = RR := ⟨_, rfl⟩
  rw [hRR]
  have HR : Hid (arithV x.op.toNat a b l s = RR) := hRR
  clear hx hx2 hx111 hlk h n1 n2 n3 n4 n5 n6 n7 hnt hf q1 q2 hu hv' hRR
  go_enter Tryz.func126, Tryz.ntmps126
  go_wp2_with fail
  rw [HWW.out]
  clear HWW
  refine HA.out.mono ?_
  rintro en w1 ⟨hB1, hq⟩
  rw [HR.out] at hq
  obtain ⟨K, N, rfl⟩ := hq.val
  have hr1 := hrr.but hB1 (fun h => h.2 (Or.inr ⟨by omega, hgW⟩))
  have HQ := hid hq
  clear HA HR hsW hrr hgN hgU hgV hgR hq
  obtain ⟨K9, N9, r0, r1, f0, f1, hrl⟩ := hr1.parts
  go_wp2_with fail
  exact pass_on Tryz.results126 rfl rfl (but_n hBW) hB1 HQ.out hr1 (Or.inr ⟨by omega, hgW⟩) (by omega) hst.old.size (fun k hk => Or.inl hk) (by omega)
 ·have t0 : ((x.op.toNat : Int) == 44) = false := tsf (k := 44) (by omega)
  have t1 : ((x.op.toNat : Int) == 101) = true := tst h
  rw [show twoV im (fun b' l' => nodV im inp f b' (d + 1) 0 l' s) d x u v l s = .ok (if u = v then .i 1 else .i 0) l s from by unfold twoV; rw [if_neg (by omega), if_pos h]]
  clear hx hx2 hx111 hlk h
  by_cases huv : u = v
  ·subst huv
   rw [if_pos rfl]
   go_enter Tryz.func126, Tryz.ntmps126
   go_wp2_with fail
   refine (truth_any true _).mono ?_
   rintro en w1 ⟨rfl, hB1⟩
   have hBc := (((But.alloc (fun _ => False) _ _).trans (But.alloc _ _ _)).trans (But.alloc _ _ _)).trans ((But.alloc _ _ _).trans hB1)
   have hrc : ResB w1 (w.heap.size + 1 + 1 + 1) := ResB.but ⟨0, 0, heap_alloc_at (by simp) _⟩ hB1 (fun h => h)
   clear hB1 HWW hsW hrr hgN hgU hgV hgR hBW
   have hs1 := hst.grow hBc
   obtain ⟨K9, N9, r0, r1, f0, f1, hrl⟩ := hrc.parts
   simp only [vAgg, if_true]
   go_wp2_with fail
   exact end_ok Tryz.results126 rfl rfl hs1 hrc (Or.inr ⟨by omega, hrl⟩) (by omega) hst.old.size (fun k hk => Or.inl hk) (but_n hBc) (v := .i 1) rfl rfl
  ·rw [if_neg huv]
   have hne : ¬ u.K = v.K ∨ (u.K = v.K ∧ ¬ u.N = v.N) := by
    by_cases h1 : u.K = v.K
    ·right
     refine ⟨h1, fun h2 => huv ?_⟩
     cases u <;> cases v <;> simp [V.K, V.N] at h1 h2 ⊢ <;> omega
    ·exact Or.inl h1
   clear huv
   go_enter Tryz.func126, Tryz.ntmps126
   rcases hne with h1 | ⟨h1, h2⟩
   ·go_wp2_with fail
    refine (truth_any false _).mono ?_
    rintro en w1 ⟨rfl, hB1⟩
    have hBc := (((But.alloc (fun _ => False) _ _).trans (But.alloc _ _ _)).trans (But.alloc _ _ _)).trans ((But.alloc _ _ _).trans hB1)
    have hrc : ResB w1 (w.heap.size + 1 + 1 + 1) := ResB.but ⟨0, 0, heap_alloc_at (by simp) _⟩ hB1 (fun h => h)
    clear hB1 HWW hsW hrr hgN hgU hgV hgR hBW
    have hs1 := hst.grow hBc
    obtain ⟨K9, N9, r0, r1, f0, f1, hrl⟩ := hrc.parts
    simp only [vAgg, Bool.false_eq_true, if_false]
    go_wp2_with fail
    exact end_ok Tryz.results126 rfl rfl hs1 hrc (Or.inr ⟨by omega, hrl⟩) (by omega) hst.old.size (fun k hk => Or.inl hk) (but_n hBc) (v := .i 0) rfl rfl
   ·go_wp2_with fail
    refine (truth_any false _).mono ?_
    rintro en w1 ⟨rfl, hB1⟩
    have hBc := (((But.alloc (fun _ => False) _ _).trans (But.alloc _ _ _)).trans (But.alloc _ _ _)).trans ((But.alloc _ _ _).trans hB1)
    have hrc : ResB w1 (w.heap.size + 1 + 1 + 1) := ResB.but ⟨0, 0, heap_alloc_at (by simp) _⟩ hB1 (fun h => h)
    clear hB1 HWW hsW hrr hgN hgU hgV hgR hBW
    have hs1 := hst.grow hBc
    obtain ⟨K9, N9, r0, r1, f0, f1, hrl⟩ := hrc.parts
    simp only [vAgg, Bool.false_eq_true, if_false]
    go_wp2_with fail
    exact end_ok Tryz.results126 rfl rfl hs1 hrc (Or.inr ⟨by omega, hrl⟩) (by omega) hst.old.size (fun k hk => Or.inl hk) (but_n hBc) (v := .i 0) rfl rfl
 ·have t0 : ((x.op.toNat : Int) == 44) = false := tsf (k := 44) (by omega)
  have t1 : ((x.op.toNat : Int) == 101) = false := tsf (k := 101) (by omega)
  have t2 : ((x.op.toNat : Int) == 99) = false := tsf (k := 99) (by omega)
  have t3 : ((x.op.toNat : Int) == 112) = true := tst h
  have hxa := hx.cls (by omega)
  have hxb := hx.fld (by omega)
  simp [nodeT, askT, giveT, Sp.arith, h] at hnt
  obtain ⟨hf, _⟩ := hnt
  obtain ⟨hC, hC2⟩ := clsT_C (a := x.a) (by omega)
  obtain ⟨q1, q2⟩ := fits2 (by simpa using hf)
  have hu2 := hu.sub hW.cls hn4 hs.ht (t' := clsT x.a) q1 (by have := isC_iff.1 hC; omega)
  clear hf q1 q2
  rcases hu2.ref (isR_of_C hC) with rfl | ⟨k, ob, rfl, hk, _, hun⟩
  ·rw [show twoV im (fun b' l' => nodV im inp f b' (d + 1) 0 l' s) d x .z v l s = .bad 6 s.out from by unfold twoV; simp [h]]
   have c7 := hst.wk.c7
   have z7 := hst.wk.fz 7
   have hgA : bw < w.heap.size + 1 := by omega
   have hgB : bw < w.heap.size + 1 + 1 := by omega
   have hgC : bw < w.heap.size + 1 + 1 + 1 := by omega
   clear hx hx2 hx111 hlk h hC2
   simp only [vK_z, vN_z]
   go_enter Tryz.func126, Tryz.ntmps126
   go_wp2_with fail
   exact end_no Tryz.results126 rfl rfl (hst.wk.set7 6) rfl (but_w hst (But.setB _ _ _ _)) ((((But.alloc _ _ _).trans (But.alloc _ _ _)).trans (But.alloc _ _ _)).trans (But.alloc _ _ _)) (heap_alloc_at (by simp [size_setCell]) _)
  ·rw [hC2] at hun
   obtain ⟨g1, g2⟩ := field_at hR hs hxa hxb hk hun
   rw [show twoV im (fun b' l' => nodV im inp f b' (d + 1) 0 l' s) d x (.o k) v l s = .ok (.i 0) l (s.put k x.b v) from by unfold twoV; simp [h]]
   obtain ⟨gh, cph, af, cf, rfl, hkl, hfk, hgl, o0, o1⟩ := hst.obj hk
   have hrow := hst.fl k ob _ hk hfk
   obtain ⟨gf, rfl, hgf, hgf2, hcell⟩ := owns_two hrow (by omega)
   obtain ⟨u', hu'⟩ : ∃ u', ob.fs[x.b]? = some u' := ⟨_, List.getElem?_eq_getElem g1⟩
   have q0 := (hBW.cell (p := ⟨gf, x.b * 2, none⟩) hgf (fun h => h)).trans (hcell _ _ (valCells_at (k := 0) hu' (by omega)))
   have q1 := (hBW.cell (p := ⟨gf, x.b * 2 + 1, none⟩) hgf (fun h => h)).trans (hcell _ _ (valCells_at (k := 1) hu' (by omega)))
   obtain ⟨cur, hcur⟩ := owns_type hrow (g := gf) rfl
   have z0 := (hBW.frozen (p := ⟨gf, x.b * 2, none⟩) hgf (fun h => h)).trans (frozen_of_row w gf (x.b * 2) _ _ hcur)
   have z1 := (hBW.frozen (p := ⟨gf, x.b * 2 + 1, none⟩) hgf (fun h => h)).trans (frozen_of_row w gf (x.b * 2 + 1) _ _ hcur)
   have d2 := (hBW.cell (p := ⟨gh, k * 2 + 1, none⟩) hgl (fun h => h)).trans o1
   have c1 := hsW.wk.c1
   have hfr : FrD P w0 gf := ⟨hgf2, hst.pf _ (List.mem_of_getElem? hfk) gf rfl⟩
   have HSF := hid (fun (X : World) (h : StX (fun k => P k ∨ (w.heap.size ≤ k ∧ k < W.heap.size)) w0 X bw bi inp d s lv l (.slice (some ⟨gh, 0, none⟩) s.heap.length cph) fv) => h.setF hk hfk (g := gf) rfl x.b v)
   clear hcell hcur hx hx2 hx111 hlk h hC2 hun hu2 hu hv' hu' hrow g2 o0 o1 hk hfk hC
   have hxI : (x.b : Int) < (ob.fs.length : Int) := by omega
   have hkI : (k : Int) < (s.heap.length : Int) := by omega
   simp only [vK_o, vN_o] at hgU HWW ⊢
   go_enter Tryz.func126, Tryz.ntmps126
   go_wp2_with fail
   rw [HWW.out]
   clear HWW
   have n2 : W.cell? ⟨w.heap.size, 2, none⟩ = some (.int .i64 x.b) := by rw [cell_of_row W _ 2 _ _ (0, 0) hgN]; rfl
   have v1 : W.cell? ⟨w.heap.size + 1, 1, none⟩ = some (.int .i64 k) := by rw [cell_of_row W _ 1 _ _ (0, 0) hgU]; rfl
   have y0 : W.cell? ⟨w.heap.size + 1 + 1, 0, none⟩ = some (.int .u8 v.K) := by rw [cell_of_row W _ 0 _ _ (0, 0) hgV]; rfl
   have y1 : W.cell? ⟨w.heap.size + 1 + 1, 1, none⟩ = some (.int .i64 v.N) := by rw [cell_of_row W _ 1 _ _ (0, 0) hgV]; rfl
   have hS0 : But (fun _ => False) W W.drew := But.drew _ _
   have hsz := hBW.size
   have m1 : w.heap.size < W.heap.size := by omega
   have m2 : w.heap.size + 1 < W.heap.size := by omega
   have m3 : w.heap.size + 1 + 1 < W.heap.size := by omega
   have m4 : gh < W.heap.size := by omega
   have m5 : bw < W.heap.size := by omega
   refine wpTx_begin (But (fun _ => False) W) 13 (by kernel_rfl) ?_
   have fSD := hid (fun wS (h : (But (fun _ => False) W) wS) => (And.intro ((h.cell (p := ⟨bw, 1, none⟩) m5 (fun h => h)).trans c1) (And.intro ((h.cell (p := ⟨gh, k * 2 + 1, none⟩) m4 (fun h => h)).trans d2) (And.intro ((h.cell (p := ⟨w.heap.size, 2, none⟩) m1 (fun h => h)).trans n2) (And.intro ((h.cell (p := ⟨w.heap.size + 1, 1, none⟩) m2 (fun h => h)).trans v1) (And.intro ((h.cell (p := ⟨w.heap.size + 1 + 1, 0, none⟩) m3 (fun h => h)).trans y0) ((h.cell (p := ⟨w.heap.size + 1 + 1, 1, none⟩) m3 (fun h => h)).trans y1)))))))
   iterate 13 (refine wpTx_take (v := ?_) rfl (by kernel_rfl) (fun _ _ _ h => h) rfl hS0 ?_ ?_; rotate_left; (focus (intro wS h; obtain ⟨q0, q1, q2, q3, q4, q5⟩ := fSD.out wS h; clear h; go_simp; try rfl)); dsimp only [Act.put]; try simp only [puts])
   try clear fSD
   have hs2 := hsW.new hS0
   have hBd := hBW.trans hS0
   have hr2 := hrr.but hS0 (fun h => h)
   have p0 := (hS0.cell (p := ⟨gf, x.b * 2, none⟩) (Nat.lt_of_lt_of_le hgf hBW.size) (fun h => h)).trans q0
   have p1 := (hS0.cell (p := ⟨gf, x.b * 2 + 1, none⟩) (Nat.lt_of_lt_of_le hgf hBW.size) (fun h => h)).trans q1
   have p2 := (hS0.frozen (p := ⟨gf, x.b * 2, none⟩) (Nat.lt_of_lt_of_le hgf hBW.size) (fun h => h)).trans z0
   have p3 := (hS0.frozen (p := ⟨gf, x.b * 2 + 1, none⟩) (Nat.lt_of_lt_of_le hgf hBW.size) (fun h => h)).trans z1
   clear c1 d2 n2 v1 y0 y1 q0 q1 z0 z1 hsW hrr hgN hgU hgV hgR
   generalize W.drew = wd at *
   refine wpTx_step rfl (by kernel_rfl) ?_
   intro KS hKS
   go_simp
   refine hKS.out _ _ (fun h => absurd h (by decide)) ?_
   clear hKS KS
   refine wpTx_done rfl (by kernel_rfl) ?_
   have hs3 := HSF.out wd hs2
   have hr3 := (hr2.but (But.setB wd gf (x.b * 2) (.int .u8 v.K)) (fun e => by have e : w.heap.size + 1 + 1 + 1 = gf := e; omega)).but (But.setB _ gf (x.b * 2 + 1) (.int .i64 v.N)) (fun e => by have e : w.heap.size + 1 + 1 + 1 = gf := e; omega)
   have hB3 : But (FrD P w0) w ((wd.setCell ⟨gf, x.b * 2, none⟩ (.int .u8 v.K)).setCell ⟨gf, x.b * 2 + 1, none⟩ (.int .i64 v.N)) := (but_n hBd).trans ((But.setCell wd (a := ⟨gf, x.b * 2, none⟩) hfr _).trans (But.setCell _ (a := ⟨gf, x.b * 2 + 1, none⟩) hfr _))
   clear p0 p1 p2 p3 hs2 hr2 HSF hBd hS0
   generalize ((wd.setCell ⟨gf, x.b * 2, none⟩ (.int .u8 v.K)).setCell ⟨gf, x.b * 2 + 1, none⟩ (.int .i64 v.N)) = w3 at *
   obtain ⟨K9, N9, r0, r1, f0, f1, hrl⟩ := hr3.parts
   go_wp2_with fail
   exact end_ok Tryz.results126 rfl rfl hs3 hr3 (Or.inr ⟨by omega, hgW⟩) (by omega) hst.old.size (fun k hk => Or.inl hk) hB3 (v := .i 0) rfl rfl
 ·have t0 : ((x.op.toNat : Int) == 44) = false := tsf (k := 44) (by omega)
  have t1 : ((x.op.toNat : Int) == 101) = false := tsf (k := 101) (by omega)
  have t2 : ((x.op.toNat : Int) == 99) = true := tst h
  rw [show twoV im (fun b' l' => nodV im inp f b' (d + 1) 0 l' s) d x u v l s = callV im inp f d x u v l s from by unfold twoV callV; rw [if_neg (by omega), if_neg (by omega), if_pos h]; cases u <;> rfl]
  have hxa := hx.cls (by omega)
  have hxb := hx.sig h
  simp [nodeT, askT, giveT, Sp.arith, h] at hnt
  obtain ⟨hf, _⟩ := hnt
  obtain ⟨hC, hC2⟩ := clsT_C (a := x.a) (by omega)
  obtain ⟨q1, q2⟩ := fits2 (by simpa using hf)
  have hu2 := hu.sub hW.cls hn4 hs.ht (t' := clsT x.a) q1 (by have := isC_iff.1 hC; omega)
  have hv2 := hv'.sub hW.cls hn4 hs.ht (t' := argT im.sigs x.b) q2 (isTy_45 (arg_ty hR hxb).1)
  have HA := hid (call_any _ w0 W bw bi d inp s lv hv l fv im hI hR IH hsW hs hsf hd x e hxa hxb (hlk h) u v hu2 hv2)
  clear hx hx2 hx111 hlk h hC2 hC hf q1 q2 hu2 hv2 hu hv'
  obtain ⟨RR, hRR⟩ : ∃ RR, callV im inp f d x u v l s = RR := ⟨_, rfl⟩
  rw [hRR] at HA ⊢
  clear hRR
  go_enter Tryz.func126, Tryz.ntmps126
  go_wp2_with fail
  rw [HWW.out]
  clear HWW
  refine HA.out.mono ?_
  rintro en w1 ⟨hB1, hq⟩
  obtain ⟨K, N, rfl⟩ := hq.val
  have hr1 := hrr.but hB1 (fun h => h.2 (Or.inr ⟨by omega, hgW⟩))
  have HQ := hid hq
  clear HA hsW hrr hgN hgU hgV hgR hq
  obtain ⟨K9, N9, r0, r1, f0, f1, hrl⟩ := hr1.parts
  go_wp2_with fail
  exact pass_on Tryz.results126 rfl rfl (but_n hBW) hB1 HQ.out hr1 (Or.inr ⟨by omega, hgW⟩) (by omega) hst.old.size (fun k hk => Or.inl hk) (by omega)
 ·have t0 : ((x.op.toNat : Int) == 44) = true := tst h
  rw [show twoV im (fun b' l' => nodV im inp f b' (d + 1) 0 l' s) d x u v l s = .ok v l s from by unfold twoV; rw [if_pos h]]
  go_enter Tryz.func126, Tryz.ntmps126
  go_wp2_with fail
  exact end_same Tryz.results126 rfl rfl hst ((((But.alloc _ _ _).trans (But.alloc _ _ _)).trans (But.alloc _ _ _)).trans (But.alloc _ _ _)) (heap_alloc_at (by simp) _) (v := v) rfl rfl
def LoopI (P1 : Nat → Prop) (w0 : World) (bw bi : Nat) (inp : ByteArray) (d : Nat) (lv : Value) (im : Img) (B : Nat) (lo : List UInt8) (cc dd : List V → Ev → R) (RR : R) (g : Nat) (wr : World) : Prop :=
 (∃ (l : List V) (s : Ev) (hv : Value) (fv : List Value), StX P1 w0 wr bw bi inp d s lv l hv fv ∧ LT im.classes s.heap lo l ∧ StT im B s ∧ s.left ≤ g ∧ RR = loopV cc dd g l s) ∨
 (∃ (e : Nat) (o : List UInt8) (hv : Value) (r l : Int), WkB wr bw bi hv inp r l d o e ∧ 5 ≤ e ∧ e ≤ 10 ∧ RR = .bad e o)
theorem nodV_zero {im : Img} {inp : ByteArray} {f : Nat} {b : Bod} {d i : Nat} {l : List V} {s : Ev} (h : s.left = 0) : nodV im inp f b d i l s = .bad 5 s.out := by
 cases f with
 | zero => rfl
 | succ f => simp [nodV, h]
theorem loopV_bad {cc dd : List V → Ev → R} {g : Nat} {l : List V} {s : Ev} {e : Nat} {o : List UInt8} (h0 : s.left = 0 → cc l s = .bad 5 s.out) (hg : s.left ≤ g) (h : cc l s = .bad e o) : loopV cc dd g l s = .bad e o := by
 cases g with
 | zero =>
  have := h0 (by omega)
  rw [h] at this
  exact this.symm
 | succ g => simp [loopV, h]
theorem loop_any {B f : Nat} (P : Nat → Prop) (w0 w : World) (bw bi d : Nat) (inp : ByteArray) (s : Ev) (lv hv : Value) (l : List V) (fv : List Value) (im : Img) (hR : Ready im) (IH : NodeD im inp w0 bw bi f) (hst : StX P w0 w bw bi inp d s lv l hv fv) (hs : StT im B s) (hsf : s.left ≤ f) (hd : d ≤ 12) (b : Bod) (hbm : b ∈ im.bodies) (vt : Value) (hT : TreeAt w0 b vt) (c dd F : Nat) (tc td : UInt8) (htc : typN im.classes im.sigs b.locals b.code F c = some tc) (htc5 : tc.toNat = 105) (htd : typN im.classes im.sigs b.locals b.code F dd = some td) (hll : LT im.classes s.heap b.locals l) :
  Calls Tryz.prog 124 #[.pointer (some ⟨bw, 0, none⟩), bodAgg b vt, .int .i64 c, .int .i64 dd, lv] w fun en w' => But (FrD P w0) w w' ∧ ResD P w0 bw bi inp d lv (loopV (nodV im inp f b d c) (nodV im inp f b d dd) f l s) en w' := by
 have hbl := hst.blt
 obtain ⟨ak, capk, rfl, hTr⟩ := hT
 have hT : TreeAt w0 b (.slice ak b.code.length capk) := ⟨ak, capk, rfl, hTr⟩
 unfold bodAgg
 obtain ⟨RR, hRR⟩ : ∃ RR, loopV (nodV im inp f b d c) (nodV im inp f b d dd) f l s = RR := ⟨_, rfl⟩
 rw [hRR]
 obtain ⟨W, hWW⟩ : ∃ W, (w.alloc (.cells #[.int .i64 b.cls, .int .i64 b.meth, .string ⟨b.locals.toArray⟩, .slice none 0 0, .slice ak b.code.length capk] 52)).alloc (.cells #[.int .u8 0, .int .i64 0] 135) = W := ⟨_, rfl⟩
 have hBW : But (fun _ => False) w W := by rw [← hWW]; exact (But.alloc _ _ _).trans (But.alloc _ _ _)
 have hgB : W.heap[w.heap.size]? = some (.cells #[.int .i64 b.cls, .int .i64 b.meth, .string ⟨b.locals.toArray⟩, .slice none 0 0, .slice ak b.code.length capk] 52) := by rw [← hWW]; exact ((But.alloc (fun _ => False) _ _).block _ (by simp) (fun h => h)).trans (heap_alloc_new w _)
 have hgR : W.heap[w.heap.size + 1]? = some (.cells #[.int .u8 0, .int .i64 0] 135) := by rw [← hWW]; exact heap_alloc_at (by simp) _
 have hsW := hst.grow hBW
 have hrr : ResB W (w.heap.size + 1) := ⟨0, 0, hgR⟩
 have hgW := lt_of_block hgR
 have HI : Hid (LoopI (fun k => P k ∨ (w.heap.size ≤ k ∧ k < W.heap.size)) w0 bw bi inp d lv im B b.locals (nodV im inp f b d c) (nodV im inp f b d dd) RR f W) := Or.inl ⟨l, s, hv, fv, hsW, hll, hs, hsf, hRR.symm⟩
 have HWW := hid hWW
 clear hWW hRR
 go_enter Tryz.func124, Tryz.ntmps124
 go_wp2_with fail
 rw [HWW.out]
 clear HWW
 have H0 : Hid (∀ l s, s.left = 0 → nodV im inp f b d c l s = .bad 5 s.out) := fun l s h => nodV_zero h
 have h0w := hst.old.size
 go_loopg [11] f (fun mm v11 wr => But (FrD P w0) w wr ∧ But (FrD (fun k => P k ∨ (w.heap.size ≤ k ∧ k < W.heap.size)) w0) W wr ∧ mm ≤ f ∧ Hid (LoopI (fun k => P k ∨ (w.heap.size ≤ k ∧ k < W.heap.size)) w0 bw bi inp d lv im B b.locals (nodV im inp f b d c) (nodV im inp f b d dd) RR mm wr))
 case atStart => exact ⟨but_n hBW, But.refl _ _, Nat.le_refl _, HI⟩
 case round =>
  obtain ⟨hBw, hBW2, hgf, HL⟩ := hrel
  clear HI
  have hrr2 := hrr.but hBW2 (fun h => h.2 (Or.inr ⟨by omega, hgW⟩))
  have hgB2 := (hBW2.block _ (lt_of_block hgB) (fun h => h.2 (Or.inr ⟨by omega, by omega⟩))).trans hgB
  have hPr : P (w.heap.size + 1) ∨ (w.heap.size ≤ w.heap.size + 1 ∧ w.heap.size + 1 < W.heap.size) := Or.inr ⟨by omega, hgW⟩
  have hPb : P w.heap.size ∨ (w.heap.size ≤ w.heap.size ∧ w.heap.size < W.heap.size) := Or.inr ⟨by omega, by omega⟩
  have hne : ¬ bw = w.heap.size + 1 := by omega
  rcases HL.out with ⟨l1, s1, hv1, fv1, hs1, hl1, ht1, hlf, hrl⟩ | ⟨e, o, hv1, r1, lf1, hk1, he5, he10, hrb⟩
  ·have c7 := hs1.wk.c7
   have m5 := hs1.blt
   have z0 : wr.cell? ⟨w.heap.size, 0, none⟩ = some (.int .i64 b.cls) := by rw [cell_of_row wr _ 0 _ _ (0, 0) hgB2]; rfl
   have z1 : wr.cell? ⟨w.heap.size, 1, none⟩ = some (.int .i64 b.meth) := by rw [cell_of_row wr _ 1 _ _ (0, 0) hgB2]; rfl
   have z2 : wr.cell? ⟨w.heap.size, 2, none⟩ = some (.string ⟨b.locals.toArray⟩) := by rw [cell_of_row wr _ 2 _ _ (0, 0) hgB2]; rfl
   have z3 : wr.cell? ⟨w.heap.size, 3, none⟩ = some (.slice none 0 0) := by rw [cell_of_row wr _ 3 _ _ (0, 0) hgB2]; rfl
   have z4 : wr.cell? ⟨w.heap.size, 4, none⟩ = some (.slice ak b.code.length capk) := by rw [cell_of_row wr _ 4 _ _ (0, 0) hgB2]; rfl
   have hbl2 := lt_of_block hgB2
   have hc := IH b d c l1 s1 tc F B _ wr lv hv1 fv1 _ hbm hd htc hl1 ht1 (Nat.le_trans hlf hgf) hs1 hT
   unfold bodAgg at hc
   have HC := hid hc
   have HTY := hid (nodV_typed hR inp f B b d c l1 s1 tc F hbm htc hl1 ht1 (Nat.le_trans hlf hgf))
   have HRL := hid hrl
   clear hc hrl HL
   go_wp2_with fail
   refine HC.out.mono ?_
   rintro en w1 ⟨hB1, hq⟩
   clear HC z0 z1 z2 z3 z4 c7 m5
   have hr1 := hrr2.but hB1 (fun h => h.2 hPr)
   have hBw1 : But (FrD P w0) w w1 := hBw.trans (hB1.mono (fun k _ h => ⟨h.1, fun hp => h.2 (Or.inl hp)⟩))
   have hBW1 := hBW2.trans hB1
   have hgB3 := (hB1.block _ hbl2 (fun h => h.2 hPb)).trans hgB2
   obtain ⟨K9, N9, r0, r1, f0, f1, hrl⟩ := hr1.parts
   have HTY2 := HTY.out
   cases hn : nodV im inp f b d c l1 s1 with
   | bad e o =>
    rw [hn] at hq HTY2
    obtain ⟨⟨a, a', rfl⟩, hbw1, hv4, r4, l4, hk4⟩ := hq
    have hRR : RR = .bad e o := by rw [HRL.out]; exact loopV_bad (H0.out l1 s1) hlf hn
    subst hRR
    have c7 := hk4.c7
    have he : ((e : Int) == 12) = false := by rw [beq_eq_false_iff_ne]; have := HTY2.2.1; omega
    clear HRL hn HTY HTY2
    go_wp2_with fail
    exact end_badA Tryz.results124 rfl rfl hk4 rfl hne hr1 (by omega) hBw1
   | ok v l2 s2 =>
    rw [hn] at hq HTY2
    obtain ⟨rfl, hv4, fv4, hs4⟩ := hq
    obtain ⟨y1, y2, y3, y4, y5⟩ := HTY2
    obtain ⟨n, rfl, hn1, hn2⟩ := y1.int htc5
    have hlp : 0 < s1.left := by
     rcases Nat.eq_zero_or_pos s1.left with h | h
     ·rw [H0.out l1 s1 h] at hn; cases hn
     ·exact h
    obtain ⟨g, rfl⟩ : ∃ g, gk = g + 1 := ⟨gk - 1, by omega⟩
    have HRR : Hid (RR = if n = 0 then .ok (.i 0) l2 s2 else match nodV im inp f b d dd l2 s2 with | .bad e o => .bad e o | .ok _ l s => loopV (nodV im inp f b d c) (nodV im inp f b d dd) g l s) := by
     show _ = _
     rw [HRL.out]
     simp only [loopV, hn, V.N]
     by_cases h0 : n = 0
     ·simp [h0]
     ·cases nodV im inp f b d dd l2 s2 <;> simp [h0]
    have c7 := hs4.wk.c7
    have m5 := hs4.blt
    clear HRL hn HTY y1
    simp only [vAgg, V.N]
    by_cases h0 : n = 0
    ·have hRR := HRR.out
     rw [if_pos h0] at hRR
     subst hRR
     subst h0
     clear HRR
     rw [show ((V.i 0).K : Int) = 105 from rfl]
     go_wp2_with fail
     exact end_okA Tryz.results124 rfl rfl hs4 hr1 hPr (by omega) h0w (fun k hk => Or.inl hk) hBw1 (v := .i 0) rfl rfl
    ·have h0' : (n == 0) = false := by simpa using h0
     have hRR := HRR.out
     rw [if_neg h0] at hRR
     have HR2 := hid hRR
     clear HRR hRR h0
     have z0 : w1.cell? ⟨w.heap.size, 0, none⟩ = some (.int .i64 b.cls) := by rw [cell_of_row w1 _ 0 _ _ (0, 0) hgB3]; rfl
     have z1 : w1.cell? ⟨w.heap.size, 1, none⟩ = some (.int .i64 b.meth) := by rw [cell_of_row w1 _ 1 _ _ (0, 0) hgB3]; rfl
     have z2 : w1.cell? ⟨w.heap.size, 2, none⟩ = some (.string ⟨b.locals.toArray⟩) := by rw [cell_of_row w1 _ 2 _ _ (0, 0) hgB3]; rfl
     have z3 : w1.cell? ⟨w.heap.size, 3, none⟩ = some (.slice none 0 0) := by rw [cell_of_row w1 _ 3 _ _ (0, 0) hgB3]; rfl
     have z4 : w1.cell? ⟨w.heap.size, 4, none⟩ = some (.slice ak b.code.length capk) := by rw [cell_of_row w1 _ 4 _ _ (0, 0) hgB3]; rfl
     have hbl3 := lt_of_block hgB3
     have hBa : But (fun _ => False) w1 (w1.alloc (.cells #[.int .u8 105, .int .i64 n] 135)) := But.alloc _ _ _
     have hc := IH b d dd l2 s2 td F B _ _ lv hv4 fv4 _ hbm hd htd y2 y3 (by omega) (hs4.new hBa) hT
     unfold bodAgg at hc
     have HC := hid hc
     have HTD := hid (nodV_typed hR inp f B b d dd l2 s2 td F hbm htd y2 y3 (by omega))
     clear hc
     rw [show ((V.i n).K : Int) = 105 from rfl]
     go_wp2_with fail
     refine HC.out.mono ?_
     rintro en w5 ⟨hB5, hq⟩
     have hBw5 : But (FrD P w0) w w5 := (hBw1.trans (but_n hBa)).trans (hB5.mono (fun k _ h => ⟨h.1, fun hp => h.2 (Or.inl hp)⟩))
     have hBW5 := (hBW1.trans (but_n hBa)).trans hB5
     obtain ⟨K, N, rfl⟩ := hq.val
     have HN : Hid (LoopI (fun k => P k ∨ (w.heap.size ≤ k ∧ k < W.heap.size)) w0 bw bi inp d lv im B b.locals (nodV im inp f b d c) (nodV im inp f b d dd) RR g w5) := by
      have hT2 := HTD.out
      have hR2 := HR2.out
      cases hn2 : nodV im inp f b d dd l2 s2 with
      | bad e o =>
       rw [hn2] at hq hT2 hR2
       obtain ⟨_, _, hv6, r6, l6, hk6⟩ := hq
       exact Or.inr ⟨e, o, hv6, r6, l6, hk6, hT2.1, hT2.2.1, hR2⟩
      | ok v3 l3 s3 =>
       rw [hn2] at hq hT2 hR2
       obtain ⟨_, hv6, fv6, hs6⟩ := hq
       obtain ⟨x1, x2, x3, x4, x5⟩ := hT2
       exact Or.inl ⟨l3, s3, hv6, fv6, hs6, x2, x3, by omega, hR2⟩
     clear HC HTD HR2 hq z0 z1 z2 z3 z4 hB5
     go_wp2_with fail
     go_roundg g
     case measure => omega
     case rel => exact ⟨hBw5, hBW5, by omega, HN⟩
  ·have c7 := hk1.c7
   have m5 := hk1.lt
   have he : ((e : Int) == 12) = false := by rw [beq_eq_false_iff_ne]; omega
   subst hrb
   obtain ⟨K9, N9, r0, r1', f0, f1, hrl⟩ := hrr2.parts
   go_wp2_with fail
   exact end_bad Tryz.results124 rfl rfl hk1 rfl hne hrr2 (by omega) hBw
end Go.Proofs.YtpfkkmacakjmbaaGreatDoor
