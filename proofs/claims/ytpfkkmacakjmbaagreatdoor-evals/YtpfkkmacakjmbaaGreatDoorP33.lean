import Derived.Test.YtpfkkmacakjmbaaGreatDoorP31
import Derived.Test.YtpfkkmacakjmbaaGreatDoorP32
import Derived.Test.YtpfkkmacakjmbaaGreatDoorP26
set_option maxRecDepth 100000
set_option maxHeartbeats 6400000
namespace Go.Proofs.YtpfkkmacakjmbaaGreatDoor
open Go Go.RowKit Sp
set_option linter.unusedSimpArgs false
set_option linter.unusedVariables false
attribute [local go_sem ↓] Go.wp_at_zero Go.wp_at_succ
section
variable {P : Nat → Prop} {w0 w : World} {be bw tx bl : Nat} {inp : ByteArray} {s : Ev} {lv vo vb : Value} {l : List V} {gs : List Nat} {fv : List Value}
theorem StQ.add (h : StQ P w0 w be bw tx inp s bl lv l vo vb gs fv) {k : Nat} {c : Array Value} {fz : Nat × Nat} (hk : w.heap[k]? = some (.cells c 234 fz)) : StQ (fun j => P j ∨ j = k) w0 w be bw tx inp s bl lv l vo vb gs fv := by
 refine ⟨h.old, h.ev, h.wd, h.out, h.ob, h.lg, h.lf, h.obs, h.nd, h.lb, h.lo, fun j hj => ⟨(h.own j hj).1, fun hp => ?_⟩, fun j hj => ?_, h.sl, h.sf⟩
 ·rcases hp with hp | rfl
  ·exact (h.own j hj).2 hp
  ·rcases hj with rfl | rfl | rfl | hj | hj | hj | hj | ⟨v, hv, hj⟩
   ·exact off_type h.ev hk (by decide) rfl
   ·exact off_type h.wd hk (by decide) rfl
   ·exact off_type h.lb hk (by decide) rfl
   ·exact owns_offE h.out hk (by decide) hj
   ·exact owns_offE h.ob hk (by decide) hj
   ·exact owns_offE h.lo hk (by decide) hj
   ·obtain ⟨c', v', ho⟩ := h.mg hj; exact off_type ho hk (by decide) rfl
   ·obtain ⟨n', xs, ho⟩ := h.mv hv; exact owns_offE ho hk (by decide) hj
 ·rcases hj with hj | rfl
  ·exact h.pl j hj
  ·exact ⟨lt_of_block hk, fun c' fz' e => by rw [hk] at e; injection e with e; injection e with _ h2; exact absurd h2 (by decide)⟩
end
def NodeQ (im : Img) (inp : ByteArray) (w0 : World) (be bw tx f : Nat) : Prop :=
 ∀ (b : Bod) (d i : Nat) (l : List V) (s : Ev) (t : UInt8) (F B : Nat) (P : Nat → Prop) (w : World) (bl : Nat) (lv vo vb : Value) (gs : List Nat) (fv : List Value) (bf : Nat) (X : XBod) (vl vi : Value), b ∈ im.bodies → d ≤ 12 → typN im.classes im.sigs b.locals b.code F i = some t → LT im.classes s.heap b.locals l → StT im B s → s.left ≤ f → StQ P w0 w be bw tx inp s bl lv l vo vb gs fv → FrS P w0 w im b bf d X vl vi bl →
  Calls Tryz.prog 93 #[.pointer (some ⟨be, 0, none⟩), .pointer (some ⟨bf, 0, none⟩), .int .i64 i] w (ReV P w0 w be bw tx inp bl lv (nodV im inp f b d i l s))
def backV (l : List V) : R → R
 | .bad e o => .bad e o
 | .ok r _ s => .ok r l s
theorem localsV_set {b : Bod} (h : 2 ≤ b.locals.length) (u v : V) : ((b.locals.map plainV).set 0 u).set 1 v = localsV b [u, v] := by
 match hb : b.locals, h with
 | x :: y :: t, _ => simp [localsV, hb]
theorem bodyN {w0 : World} {tx : Nat} {im : Img} {bs : List XBod} (hW : WfIS im) (hB : BdsN w0 0 im.sigs bs im.bodies) (m c : Nat) (hc : c < im.classes.length) : bodyF (im.classes.map toX) bs m (im.classes.map toX).length (UInt8.ofNat (65 + c)) = findF im.classes im.bodies m 5 c := by
 have := hW.nc
 rw [List.length_map, bodyF_heads hB.heads, bodyF_findF hW.cls hW.nc (fun b hb => SideOfN (hW.bod b hb) hW.nc) m im.classes.length 5 c hc hc (by omega)]
section
variable {P : Nat → Prop} {w0 w : World} {be bw tx bl : Nat} {inp : ByteArray} {s : Ev} {lv vo vb : Value} {l : List V} {gs : List Nat} {fv : List Value} {im : Img} {b : Bod} {bf d : Nat} {Xb : XBod} {vl vi : Value}
theorem ecall_bad (h : StQ P w0 w be bw tx inp s bl lv l vo vb gs fv) (hF : FrS P w0 w im b bf d Xb vl vi bl) (u v : V) (pl n pn pc : Nat) (c : UInt8) (pa : Option Addr) (e : Nat) (he : (faultN e != 0) = true)
  (HC' : ∀ X, But (fun _ => False) w X → Calls Tryz.prog 193 #[.pointer (some ⟨bw, 0, none⟩), xAgg u, .int .i64 n, .int .i64 d] X fun en w' => But (fun _ => False) X w' ∧ en = .returned (.tuple #[.int .i64 (-1), .int .i64 (faultN e)])) :
  Calls Tryz.prog 208 #[.pointer (some ⟨be, 0, none⟩), .pointer (some ⟨bf, 0, none⟩), .agg #[.int .i64 pl, .int .u8 99, .int .u8 c.toNat, .int .i64 n, .slice pa pn pc], xAgg u, xAgg v] w (ReV P w0 w be bw tx inp bl lv (.bad e s.out)) := by
 have HDW := hid (doW (w := w) (pl := pl) (op := 99) (n := n) (pn := pn) (pc := pc) (c := c) (pa := pa) (u := u) (v := v))
 rw [show ((99 : Nat) : Int) = 99 from rfl] at HDW
 obtain ⟨a0, _, _, _, _, _, _, hbf⟩ := hF.cells
 have e1 := h.ev.c1
 have hel := h.ev.lt
 have HC := hid HC'
 have HH := hid h
 have HFr := hid hF
 clear h hF HC'
 unfold xAgg at *
 go_enter Tryz.func208, Tryz.ntmps208
 go_wp2_with fail
 revert HDW
 generalize ((((w.alloc (.cells #[.int .i64 pl, .int .u8 99, .int .u8 c.toNat, .int .i64 n, .slice pa pn pc] 219)).alloc (.cells #[.int .i32 (xN u), .int .i64 (xO u)] 168)).alloc (.cells #[.int .i32 (xN v), .int .i64 (xO v)] 168)).alloc (.cells #[.int .i32 0, .int .i64 0] 168)) = W
 intro HDW
 have hD := HDW.out
 obtain ⟨i0, i1, i2, i3, i4⟩ := hD.item
 obtain ⟨v0, v1, v2, v3⟩ := hD.vals
 have hsz := hD.sz
 have hN := hD.nb
 have e1W := (hN.but.cell (p := ⟨be, 1, none⟩) hel (fun h => h)).trans e1
 have a0W := (hN.but.cell (p := ⟨bf, 0, none⟩) hbf (fun h => h)).trans a0
 have hrX : ResX W (w.heap.size + 1 + 1 + 1) := ⟨0, 0, hD.b3⟩
 clear HDW e1 a0 i0 i1 i2 i4 v2 v3
 have hS0 : But (fun _ => False) W W.drew := But.drew _ _
 have m0 : w.heap.size < W.heap.size := by omega
 have m1 : w.heap.size + 1 < W.heap.size := by omega
 have m2 : be < W.heap.size := by omega
 have m3 : bf < W.heap.size := by omega
 refine wpTx_begin (But (fun _ => False) W) 11 (by kernel_rfl) ?_
 have fSA := hid (fun wS (h : (But (fun _ => False) W) wS) => (And.intro ((h.cell (p := ⟨be, 1, none⟩) m2 (fun h => h)).trans e1W) (And.intro ((h.cell (p := ⟨bf, 0, none⟩) m3 (fun h => h)).trans a0W) (And.intro ((h.cell (p := ⟨w.heap.size, 3, none⟩) m0 (fun h => h)).trans i3) (And.intro ((h.cell (p := ⟨w.heap.size + 1, 0, none⟩) m1 (fun h => h)).trans v0) ((h.cell (p := ⟨w.heap.size + 1, 1, none⟩) m1 (fun h => h)).trans v1))))))
 iterate 11 (refine wpTx_takeT (v := ?_) rfl (by kernel_rfl) (fun _ _ _ h => h) rfl hS0 ?_ ?_; rotate_left; (focus (intro wS h; obtain ⟨q0, q1, q2, q3, q4⟩ := fSA.out wS h; clear h; go_simp; try rfl)); dsimp only [Act.put]; try simp only [puts])
 clear fSA
 refine wpTx_step rfl (by kernel_rfl) ?_
 intro KS hKS
 go_simp
 refine (HC.out _ (hN.but.trans hS0)).mono ?_
 rintro en w1 ⟨hB1, rfl⟩
 refine hKS.out _ _ (fun h => absurd h (by decide)) ?_
 clear hKS KS HC
 iterate 5 (refine wpTx_takeW (v := ?_) rfl (by kernel_rfl) (fun _ _ _ h => h) rfl ?_ ?_; rotate_left; (focus (intro wS; go_simp; try rfl)); dsimp only [Act.put]; try simp only [puts])
 refine wpTx_done rfl (by kernel_rfl) ?_
 have hBW1 := hS0.trans hB1
 clear hS0 hB1 i3 v0 v1 e1W
 have HF := hid (fun a b => HH.out.fin0 hN hBW1 (r := w.heap.size + 1 + 1 + 1) (by omega) hrX a b)
 have hr1 := (HF.out 0 0).1
 obtain ⟨K9, N9, r0, r1, z0, z1, hrl⟩ := hr1.parts
 clear HH HFr hD a0W
 go_wp2_with fail
 exact retX Tryz.results208 rfl rfl rfl (hr1.put _ _) ⟨(HF.out _ _).2.1, _, _, _, _, rfl, s, l, rfl, (HF.out _ _).2.2⟩
theorem ecall_go {B f q : Nat} {t : UInt8} {F : Nat} (IH : NodeQ im inp w0 be bw tx f) (hT : TextN w0 tx im) (hs : StT im B s) (hsf : s.left ≤ f) (hd : d < 12) (cb : Bod) (hbm : cb ∈ im.bodies) (hq : im.bodies[q]? = some cb) (hnb : im.bodies.length ≤ 7) (hlo : cb.locals.length ≤ 5) (hl2 : 2 ≤ cb.locals.length) (hty : typN im.classes im.sigs cb.locals cb.code F 0 = some t) (u v : V) (hLT : LT im.classes s.heap cb.locals (localsV cb [u, v])) (h : StQ P w0 w be bw tx inp s bl lv l vo vb gs fv) (hF : FrS P w0 w im b bf d Xb vl vi bl) (pl n pn pc : Nat) (c : UInt8) (pa : Option Addr)
  (HC' : ∀ X, But (fun _ => False) w X → Calls Tryz.prog 193 #[.pointer (some ⟨bw, 0, none⟩), xAgg u, .int .i64 n, .int .i64 d] X fun en w' => But (fun _ => False) X w' ∧ en = .returned (.tuple #[.int .i64 q, .int .i64 0])) :
  Calls Tryz.prog 208 #[.pointer (some ⟨be, 0, none⟩), .pointer (some ⟨bf, 0, none⟩), .agg #[.int .i64 pl, .int .u8 99, .int .u8 c.toNat, .int .i64 n, .slice pa pn pc], xAgg u, xAgg v] w (ReV P w0 w be bw tx inp bl lv (backV l (nodV im inp f cb (d + 1) 0 (localsV cb [u, v]) s))) := by
 have HDW := hid (doW (w := w) (pl := pl) (op := 99) (n := n) (pn := pn) (pc := pc) (c := c) (pa := pa) (u := u) (v := v))
 rw [show ((99 : Nat) : Int) = 99 from rfl] at HDW
 obtain ⟨a0, _, _, _, _, _, _, hbf⟩ := hF.cells
 have e1 := h.ev.c1
 have hel := h.ev.lt
 have HC := hid HC'
 have HH := hid h
 have HFr := hid hF
 clear h hF HC'
 unfold xAgg at *
 go_enter Tryz.func208, Tryz.ntmps208
 go_wp2_with fail
 revert HDW
 generalize ((((w.alloc (.cells #[.int .i64 pl, .int .u8 99, .int .u8 c.toNat, .int .i64 n, .slice pa pn pc] 219)).alloc (.cells #[.int .i32 (xN u), .int .i64 (xO u)] 168)).alloc (.cells #[.int .i32 (xN v), .int .i64 (xO v)] 168)).alloc (.cells #[.int .i32 0, .int .i64 0] 168)) = W
 intro HDW
 have hD := HDW.out
 obtain ⟨i0, i1, i2, i3, i4⟩ := hD.item
 obtain ⟨v0, v1, v2, v3⟩ := hD.vals
 have hsz := hD.sz
 have hN := hD.nb
 have e1W := (hN.but.cell (p := ⟨be, 1, none⟩) hel (fun h => h)).trans e1
 have a0W := (hN.but.cell (p := ⟨bf, 0, none⟩) hbf (fun h => h)).trans a0
 have hrX : ResX W (w.heap.size + 1 + 1 + 1) := ⟨0, 0, hD.b3⟩
 clear HDW e1 a0 i0 i1 i2 i4 v2 v3
 have hS0 : But (fun _ => False) W W.drew := But.drew _ _
 have m0 : w.heap.size < W.heap.size := by omega
 have m1 : w.heap.size + 1 < W.heap.size := by omega
 have m2 : be < W.heap.size := by omega
 have m3 : bf < W.heap.size := by omega
 refine wpTx_begin (But (fun _ => False) W) 11 (by kernel_rfl) ?_
 have fSA := hid (fun wS (h : (But (fun _ => False) W) wS) => (And.intro ((h.cell (p := ⟨be, 1, none⟩) m2 (fun h => h)).trans e1W) (And.intro ((h.cell (p := ⟨bf, 0, none⟩) m3 (fun h => h)).trans a0W) (And.intro ((h.cell (p := ⟨w.heap.size, 3, none⟩) m0 (fun h => h)).trans i3) (And.intro ((h.cell (p := ⟨w.heap.size + 1, 0, none⟩) m1 (fun h => h)).trans v0) ((h.cell (p := ⟨w.heap.size + 1, 1, none⟩) m1 (fun h => h)).trans v1))))))
 iterate 11 (refine wpTx_takeT (v := ?_) rfl (by kernel_rfl) (fun _ _ _ h => h) rfl hS0 ?_ ?_; rotate_left; (focus (intro wS h; obtain ⟨q0, q1, q2, q3, q4⟩ := fSA.out wS h; clear h; go_simp; try rfl)); dsimp only [Act.put]; try simp only [puts])
 clear fSA
 refine wpTx_step rfl (by kernel_rfl) ?_
 intro KS hKS
 go_simp
 refine (HC.out _ (hN.but.trans hS0)).mono ?_
 rintro en w1 ⟨hB1, rfl⟩
 refine hKS.out _ _ (fun h => absurd h (by decide)) ?_
 clear hKS KS HC
 iterate 5 (refine wpTx_takeW (v := ?_) rfl (by kernel_rfl) (fun _ _ _ h => h) rfl ?_ ?_; rotate_left; (focus (intro wS; go_simp; try rfl)); dsimp only [Act.put]; try simp only [puts])
 refine wpTx_done rfl (by kernel_rfl) ?_
 have hBW1 := hS0.trans hB1
 clear hS0 hB1 i3 v0 v1 e1W
 have hh1 := (HH.out.grown hN).new hBW1
 have hFr1 := (HFr.out.grown hN).but (hBW1.mono (fun _ _ h => h.elim))
 have HNF := hid (newFrame_any hh1 im hT q (d + 1) cb hq hlo (by omega))
 have a0W1 := (hBW1.cell (p := ⟨bf, 0, none⟩) m3 (fun h => h)).trans a0W
 have m31 : bf < w1.heap.size := Nat.lt_of_lt_of_le m3 hBW1.size
 have hdI : (d : Int) < 12 := by omega
 rw [show ((d + 1 : Nat) : Int) = (d : Int) + 1 from by simp] at HNF
 clear a0W
 go_wp2_with fail
 refine HNF.out.mono ?_
 rintro en w2 ⟨bf2, bl2, lv2, X2, vl2, vi2, rfl, hB2, hFB, hBF, hlb, hlo2, hbl2, hbf2⟩
 have h2 := hh1.enter (l' := cb.locals.map plainV) hB2 hlb (by simpa using hlo2) hbl2
 have h3 := h2.add hFB
 obtain ⟨P2, hP2⟩ : ∃ P2 : Nat → Prop, (fun j => (PQ P w W j ∨ LocP bl lv j) ∨ j = bf2) = P2 := ⟨_, rfl⟩
 rw [hP2] at h3
 have p1 : ∀ k, PQ P w W k ∨ LocP bl lv k → P2 k := fun k hk => by rw [← hP2]; exact Or.inl hk
 have p2 : P2 bf2 := by rw [← hP2]; exact Or.inr rfl
 have g1 := ((hBW1.trans hB2).block _ m1 (fun h => h)).trans hD.b1
 have g2 := ((hBW1.trans hB2).block _ (by omega) (fun h => h)).trans hD.b2
 have pg1 : P2 (w.heap.size + 1) := p1 _ (Or.inl (Or.inr ⟨by omega, m1⟩))
 have pg2 : P2 (w.heap.size + 1 + 1) := p1 _ (Or.inl (Or.inr ⟨by omega, by omega⟩))
 have hFS : FrS P2 w0 w2 im cb bf2 (d + 1) X2 vl2 vi2 bl2 := ⟨hFB, p2, hBF⟩
 have HQ := hid (And.intro hh1 (And.intro hB2 hBW1))
 clear h2 hh1 hFr1 HNF a0W1 m31 hP2 hFB hBF hlb hlo2 hbl2 hbf2 HFr hD hq hB2 hBW1
 have HS := hid (fun X (hX : But (fun _ => False) w2 X) => set_any (h3.new hX) 0 u (by simp; omega))
 obtain ⟨_, _, _, _, _, _, y6, y7⟩ := hFS.cells
 obtain ⟨x0, x1, x2⟩ : w2.cell? ⟨w.heap.size + 1, 0, none⟩ = some (.int .i32 (xN u)) ∧ w2.cell? ⟨w.heap.size + 1, 1, none⟩ = some (.int .i64 (xO u)) ∧ w.heap.size + 1 < w2.heap.size := ⟨by rw [cell_of_row w2 _ 0 _ _ (0, 0) g1]; rfl, by rw [cell_of_row w2 _ 1 _ _ (0, 0) g1]; rfl, lt_of_block g1⟩
 unfold xAgg at HS
 clear h3
 go_wp2_with fail
 have hS0 : But (fun _ => False) w2 w2.drew := But.drew _ _
 refine wpTx_begin (But (fun _ => False) w2) 5 (by kernel_rfl) ?_
 have fSB := hid (fun wS (h : (But (fun _ => False) w2) wS) => (And.intro ((h.cell (p := ⟨bf2, 6, none⟩) y7 (fun h => h)).trans y6) (And.intro ((h.cell (p := ⟨w.heap.size + 1, 0, none⟩) x2 (fun h => h)).trans x0) ((h.cell (p := ⟨w.heap.size + 1, 1, none⟩) x2 (fun h => h)).trans x1))))
 iterate 5 (refine wpTx_takeT (v := ?_) rfl (by kernel_rfl) (fun _ _ _ h => h) rfl hS0 ?_ ?_; rotate_left; (focus (intro wS h; obtain ⟨q0, q1, q2⟩ := fSB.out wS h; clear h; go_simp; try rfl)); dsimp only [Act.put]; try simp only [puts])
 clear fSB
 refine wpTx_step rfl (by kernel_rfl) ?_
 intro KS hKS
 go_simp
 refine (HS.out _ hS0).mono ?_
 rintro en w3 ⟨rfl, hB3, h3⟩
 refine hKS.out _ _ (fun h => absurd h (by decide)) ?_
 clear hKS KS HS
 refine wpTx_done rfl (by kernel_rfl) ?_
 have hB3' : But (FrQ P2 w0) w2 w3 := (hS0.mono (fun _ _ h => h.elim)).trans hB3
 have hFS3 := hFS.but hB3'
 have g3 := (hB3'.block _ (lt_of_block g2) (fun h => h.2 pg2)).trans g2
 clear hS0 hB3 g1 g2 x0 x1 x2 y6 y7 hFS
 have HS := hid (fun X (hX : But (fun _ => False) w3 X) => set_any (h3.new hX) 1 v (by simp; omega))
 obtain ⟨_, _, _, _, _, _, y6, y7⟩ := hFS3.cells
 obtain ⟨x0, x1, x2⟩ : w3.cell? ⟨w.heap.size + 1 + 1, 0, none⟩ = some (.int .i32 (xN v)) ∧ w3.cell? ⟨w.heap.size + 1 + 1, 1, none⟩ = some (.int .i64 (xO v)) ∧ w.heap.size + 1 + 1 < w3.heap.size := ⟨by rw [cell_of_row w3 _ 0 _ _ (0, 0) g3]; rfl, by rw [cell_of_row w3 _ 1 _ _ (0, 0) g3]; rfl, lt_of_block g3⟩
 unfold xAgg at HS
 clear h3
 go_wp2_with fail
 have hS0 : But (fun _ => False) w3 w3.drew := But.drew _ _
 refine wpTx_begin (But (fun _ => False) w3) 5 (by kernel_rfl) ?_
 have fSC := hid (fun wS (h : (But (fun _ => False) w3) wS) => (And.intro ((h.cell (p := ⟨bf2, 6, none⟩) y7 (fun h => h)).trans y6) (And.intro ((h.cell (p := ⟨w.heap.size + 1 + 1, 0, none⟩) x2 (fun h => h)).trans x0) ((h.cell (p := ⟨w.heap.size + 1 + 1, 1, none⟩) x2 (fun h => h)).trans x1))))
 iterate 5 (refine wpTx_takeT (v := ?_) rfl (by kernel_rfl) (fun _ _ _ h => h) rfl hS0 ?_ ?_; rotate_left; (focus (intro wS h; obtain ⟨q0, q1, q2⟩ := fSC.out wS h; clear h; go_simp; try rfl)); dsimp only [Act.put]; try simp only [puts])
 clear fSC
 refine wpTx_step rfl (by kernel_rfl) ?_
 intro KS hKS
 go_simp
 refine (HS.out _ hS0).mono ?_
 rintro en w4 ⟨rfl, hB4, h4⟩
 refine hKS.out _ _ (fun h => absurd h (by decide)) ?_
 clear hKS KS HS
 refine wpTx_done rfl (by kernel_rfl) ?_
 have hB4' : But (FrQ P2 w0) w3 w4 := (hS0.mono (fun _ _ h => h.elim)).trans hB4
 have hFS4 := hFS3.but hB4'
 rw [localsV_set hl2] at h4
 have HC := hid (IH cb (d + 1) 0 _ s t F B P2 w4 bl2 lv2 vo vb gs fv bf2 X2 vl2 vi2 hbm (by omega) hty hLT hs hsf h4 hFS4)
 clear hS0 hB4 g3 x0 x1 x2 y6 y7 hFS3 hFS4 h4
 go_wp2_with fail
 refine HC.out.mono ?_
 intro en w5 hre
 have hre2 : ReV (PQ P w W) w0 W be bw tx inp bl lv (backV l (nodV im inp f cb (d + 1) 0 (localsV cb [u, v]) s)) en w5 := by
  obtain ⟨hh1, hB2, hBW1⟩ := HQ.out
  obtain ⟨hB5, vo5, vb5, gs5, fv5, hre⟩ := hre
  have hBB : But (FrQ P2 w0) w1 w5 := (((hB2.mono (fun _ _ h => h.elim)).trans hB3').trans hB4').trans hB5
  have hBP : But (FrQ (PQ P w W) w0) W w5 := (hBW1.mono (fun _ _ h => h.elim)).trans (hBB.mono (fun k _ hf => ⟨hf.1, fun hp => hf.2 (p1 k (Or.inl hp))⟩))
  refine ⟨hBP, vo5, vb5, gs5, fv5, ?_⟩
  cases hn : nodV im inp f cb (d + 1) 0 (localsV cb [u, v]) s with
  | ok r l5 s5 =>
   rw [hn] at hre
   exact ⟨hre.1, hh1.leave hre.2 hBB p1⟩
  | bad e o =>
   rw [hn] at hre
   obtain ⟨a1, s5, l5, a2, a3⟩ := hre
   exact ⟨a1, s5, l, a2, hh1.leave a3 hBB p1⟩
 obtain ⟨K, N, e, rfl, hfin⟩ := ReV.pass hN HH.out.old.size hre2
 obtain ⟨hr1, hfi⟩ := hfin (w.heap.size + 1 + 1 + 1) (by omega) hrX
 obtain ⟨K9, N9, r0, r1, z0, z1, hrl⟩ := hr1.parts
 have HF := hid hfi
 clear hfi hfin hre hre2 HC HQ hB3' hB4' IH hT hs hLT hty
 go_wp2_with fail
 exact retX Tryz.results208 rfl rfl rfl (hr1.put _ _) HF.out
end
end Go.Proofs.YtpfkkmacakjmbaaGreatDoor
namespace Go.Proofs.YtpfkkmacakjmbaaGreatDoor
open Go Go.RowKit Sp
set_option linter.unusedSimpArgs false
set_option linter.unusedVariables false
theorem toXN_dig {x : Ins} (h : isDigit x.op = true) : (toXN x).op.toNat = 107 ∧ (toXN x).num = x.b := by simp [toXN, h]
theorem toXN_not {x : Ins} (h : 58 ≤ x.op.toNat ∨ x.op.toNat < 48) : (toXN x).op.toNat = x.op.toNat ∧ (toXN x).num = x.b ∧ (x.op.toNat = 110 ∨ x.op.toNat = 120 ∨ x.op.toNat = 103 ∨ x.op.toNat = 112 ∨ x.op.toNat = 99 → (toXN x).cls = UInt8.ofNat (65 + x.a)) := by
 have h1 : isDigit x.op = false := by simp [isDigit]; omega
 simp only [toXN, h1, Bool.false_eq_true, if_false, toXI]
 exact ⟨trivial, trivial, fun h => by rw [if_pos h]⟩
theorem toNat65 {a : Nat} (h : a < 100) : (UInt8.ofNat (65 + a)).toNat = 65 + a := by simp; omega
theorem fldsX_of {cs : List Cls} (hn : cs.length ≤ 4) {a : Nat} (ha : a < cs.length) : fldsX (cs.map toX) (UInt8.ofNat (65 + a)) = fieldsOf cs a := by
 have h1 := toNat65 (a := a) (by omega)
 have h2 : isLet cs.length (UInt8.ofNat (65 + a)) = true := by simp [isLet]; omega
 unfold fldsX
 rw [List.length_map, h2, if_pos rfl, h1, show 65 + a - 65 = a from by omega]
 simp [fieldsOf, toX, Option.map_map, Function.comp_def]
theorem comesX_of {cs : List Cls} (hw : WfC cs) (hn : cs.length ≤ 4) {a c : Nat} (ha : a < cs.length) (hc : c < cs.length) : comesX (cs.map toX) (UInt8.ofNat (65 + a)) (cs.map toX).length (UInt8.ofNat (65 + c)) = under cs 5 c a := by
 have h1 := toNat65 (a := a) (by omega)
 have h2 := toNat65 (a := c) (by omega)
 have k1 : kl (UInt8.ofNat (65 + a)) = a := by simp [kl]; omega
 have k2 : kl (UInt8.ofNat (65 + c)) = c := by simp [kl]; omega
 rw [List.length_map, comes_under hw hn (by simp [isLet]; omega) (by simp [isLet]; omega) (by rw [k2]; omega) (by omega), k1, k2]
section
variable {P : Nat → Prop} {w0 w : World} {be bw tx bl : Nat} {inp : ByteArray} {s : Ev} {lv vo vb : Value} {l : List V} {gs : List Nat} {fv : List Value} {im : Img} {b : Bod} {bf d : Nat} {Xb : XBod} {vl vi : Value}
abbrev itN (x : Ins) (pa : Option Addr) (pl pn pc : Nat) : Value := .agg #[.int .i64 pl, .int .u8 (toXN x).op.toNat, .int .u8 (toXN x).cls.toNat, .int .i64 (toXN x).num, .slice pa pn pc]
theorem edo_leaf {B : Nat} (h : StQ P w0 w be bw tx inp s bl lv l vo vb gs fv) (hF : FrS P w0 w im b bf d Xb vl vi bl) (hT : TextN w0 tx im) (hW : WfIS im) (hs : StT im B s) (h40 : inp.size ≤ 40) (x : Ins) (hx : WfN im.classes im.sigs.length l.length x) (hx0 : arity x.op = 0) (u v : V) (pl pn pc : Nat) (pa : Option Addr) :
  Calls Tryz.prog 156 #[.pointer (some ⟨be, 0, none⟩), .pointer (some ⟨bf, 0, none⟩), itN x pa pl pn pc, xAgg u, xAgg v] w (ReV P w0 w be bw tx inp bl lv (leafV im inp x l s)) := by
 have hn4 := hW.nc
 have hop : isDigit x.op = true ∨ x.op.toNat = 114 ∨ x.op.toNat = 122 ∨ x.op.toNat = 108 ∨ x.op.toNat = 110 := by
  have h1 := hx.op
  simp [nodeLetters] at h1
  rcases h1 with h1 | h1 | h1 | h1 | h1 | h1 | h1 | h1 | h1 | h1 | h1 | h1 | h1 | h1 | h1 | h1 | h1 | h1 | h1 | h1 | h1 | h1 | h1 | h1 | h1 | h1 | h1 | h1 | h1 | h1 <;> simp [arity, h1, isDigit] at hx0 ⊢
 unfold itN
 rcases hop with h1 | h1 | h1 | h1 | h1
 ·obtain ⟨e1, e2⟩ := toXN_dig h1
  have hd : 48 ≤ x.op.toNat ∧ x.op.toNat ≤ 57 := by simpa [isDigit] using h1
  rw [e1, e2, show leafV im inp x l s = .ok (.i x.b) l s from by unfold leafV; rw [if_neg (by omega), if_neg (by omega), if_neg (by omega), if_neg (by omega)]]
  exact edo_rest h u v pl 107 x.b pn pc _ pa _ (by decide) (by decide) (by decide) (by decide) (fun X hX => do_k (h.grown hX) u v pl x.b pn pc _ pa hx.num)
 ·obtain ⟨e1, e2, _⟩ := toXN_not (x := x) (by omega)
  rw [e1, e2, h1, show leafV im inp x l s = _ from by unfold leafV; rw [if_pos h1]]
  exact edo_rest h u v pl 114 x.b pn pc _ pa _ (by decide) (by decide) (by decide) (by decide) (fun X hX => do_r (h.grown hX) h40 u v pl x.b pn pc _ pa)
 ·obtain ⟨e1, e2, _⟩ := toXN_not (x := x) (by omega)
  rw [e1, e2, h1, show leafV im inp x l s = _ from by unfold leafV; rw [if_neg (by omega), if_pos h1]]
  exact edo_rest h u v pl 122 x.b pn pc _ pa _ (by decide) (by decide) (by decide) (by decide) (fun X hX => do_z (h.grown hX) u v pl x.b pn pc _ pa)
 ·obtain ⟨e1, e2, _⟩ := toXN_not (x := x) (by omega)
  have hb := hx.loc (Or.inl h1)
  rw [e1, e2, h1, show leafV im inp x l s = .ok (l.getD x.b .z) l s from by unfold leafV; rw [if_neg (by omega), if_neg (by omega), if_pos h1]]
  exact edo_l h hF u v pl x.b pn pc _ pa _ (by simp [hb])
 ·obtain ⟨e1, e2, e3⟩ := toXN_not (x := x) (by omega)
  have ha := hx.cls (Or.inl h1)
  rw [e1, e2, e3 (Or.inl h1), h1, show leafV im inp x l s = _ from by unfold leafV; rw [if_neg (by omega), if_neg (by omega), if_neg (by omega), if_pos h1]]
  have hf8 : (fieldsOf im.classes x.a).length ≤ 100 := by
   have := flds_len hW.cls hn4 (UInt8.ofNat (65 + x.a))
   rw [fldsX_of hn4 ha] at this
   omega
  exact edo_rest h u v pl 110 x.b pn pc _ pa _ (by decide) (by decide) (by decide) (by decide) (fun X hX => do_n (h.grown hX) (by have := hs.cap; omega) (im.classes.map toX) (by simp; omega) hT.cls ⟨x.a, freshV im.classes x.a⟩ (fieldsOf im.classes x.a) u v pl x.b pn pc _ pa (toNat65 (by omega)) (fldsX_of hn4 ha) hf8 rfl)
theorem edo_one {B : Nat} (h : StQ P w0 w be bw tx inp s bl lv l vo vb gs fv) (hF : FrS P w0 w im b bf d Xb vl vi bl) (hT : TextN w0 tx im) (htab : TabW w0) (hR : Ready im) (hs : StT im B s) (x : Ins) (lo : List UInt8) (hx : WfN im.classes im.sigs.length lo.length x) (hll : LT im.classes s.heap lo l) (hx1 : arity x.op = 1) (ta tt : UInt8) (u v : V) (hu : VT im.classes s.heap ta u) (hnt : nodeT im.classes im.sigs lo x [ta] = some tt) (pl pn pc : Nat) (pa : Option Addr) :
  Calls Tryz.prog 156 #[.pointer (some ⟨be, 0, none⟩), .pointer (some ⟨bf, 0, none⟩), itN x pa pl pn pc, xAgg u, xAgg v] w (ReV P w0 w be bw tx inp bl lv (oneV im x u l s)) := by
 have hW := hR.wf
 have hn4 := hW.nc
 have hcap := hs.cap
 have h4 : s.heap.length ≤ 4000 := by omega
 have hop : x.op.toNat = 115 ∨ x.op.toNat = 103 ∨ x.op.toNat = 120 ∨ x.op.toNat = 119 := by
  unfold arity at hx1
  split at hx1
  ·omega
  ·split at hx1
   ·omega
   ·split at hx1
    ·rename_i h3; simpa using h3
    ·omega
 obtain ⟨e1, e2, e3⟩ := toXN_not (x := x) (by omega)
 unfold itN
 rcases hop with h1 | h1 | h1 | h1
 ·rw [e1, e2, h1, show oneV im x u l s = .ok (.i 0) (l.set x.b u) s from by unfold oneV; rw [if_pos h1]]
  exact edo_s h hF u v pl x.b pn pc _ pa (by rw [hll.len]; exact hx.loc (Or.inr h1))
 ·have hxa := hx.cls (by omega)
  have hxb := hx.fld (by omega)
  simp [nodeT, askT, giveT, Sp.arith, h1] at hnt
  obtain ⟨hf, _⟩ := hnt
  obtain ⟨hC, hC2⟩ := clsT_C (a := x.a) (by omega)
  have hv2 := hu.sub hW.cls hn4 hs.ht (t' := clsT x.a) (fits1 (by simpa using hf)) (by have := isC_iff.1 hC; omega)
  rcases hv2.ref (isR_of_C hC) with rfl | ⟨k, ob, rfl, hk, _, hun⟩
  ·rw [e1, e2, h1, show oneV im x .z l s = .bad 6 s.out from by unfold oneV; simp [h1]]
   exact edo_rest h .z v pl 103 x.b pn pc _ pa _ (by decide) (by decide) (by decide) (by decide) (fun X hX => do_gz (h.grown hX) h4 v pl x.b pn pc _ pa)
  ·rw [hC2] at hun
   obtain ⟨g1, g2⟩ := field_at hR hs hxa hxb hk hun
   obtain ⟨q, hq⟩ : ∃ q, ob.fs[x.b]? = some q := ⟨_, List.getElem?_eq_getElem g1⟩
   rw [e1, e2, h1, show oneV im x (.o k) l s = .ok q l s from by unfold oneV; simp [h1, (Ev.at hk).2, hq]]
   exact edo_rest h (.o k) v pl 103 x.b pn pc _ pa _ (by decide) (by decide) (by decide) (by decide) (fun X hX => do_go (h.grown hX) h4 hk q v pl x.b pn pc _ pa hq)
 ·have hxa := hx.cls (by omega)
  simp [nodeT, askT, giveT, Sp.arith, h1] at hnt
  rcases hu.ref hnt.1 with rfl | ⟨k, ob, rfl, hk, _, hun⟩
  ·rw [e1, e2, h1, show oneV im x .z l s = .ok .z l s from by unfold oneV; simp [h1]]
   exact edo_rest h .z v pl 120 x.b pn pc _ pa _ (by decide) (by decide) (by decide) (by decide) (fun X hX => do_xz (h.grown hX) h4 v pl x.b pn pc _ pa)
  ·have hcl := hs.ht.cls k ob hk
   rw [e1, e2, e3 (by omega), h1, show oneV im x (.o k) l s = (if comesX (im.classes.map toX) (UInt8.ofNat (65 + x.a)) (im.classes.map toX).length (UInt8.ofNat (65 + ob.cls)) = true then .ok (.o k) l s else .bad 8 s.out) from by rw [comesX_of hW.cls hn4 hxa hcl]; unfold oneV; simp [h1, (Ev.at hk).1]]
   exact edo_rest h (.o k) v pl 120 x.b pn pc _ pa _ (by decide) (by decide) (by decide) (by decide) (fun X hX => do_xo (h.grown hX) h4 hk (im.classes.map toX) (by simp; omega) hT.cls _ (toNat65 (by omega)) v pl x.b pn pc _ pa)
 ·simp [nodeT, askT, giveT, Sp.arith, h1] at hnt
  obtain ⟨m, rfl, m1, m2⟩ := (hu.sub hW.cls hn4 hs.ht (t' := 105) (fits1 (by simpa using hnt.1)) (by decide)).int (by decide)
  rw [e1, e2, h1, show oneV im x (.i m) l s = .ok (.i 0) l (s.say m) from by unfold oneV; simp [h1, V.N]]
  exact edo_rest h (.i m) v pl 119 x.b pn pc _ pa _ (by decide) (by decide) (by decide) (by decide) (fun X hX => do_w (h.grown hX) htab m m1 m2 (by have := hs.o; omega) v pl x.b pn pc _ pa)
theorem xO_eq {u v : V} (hu : (∃ n, u = .i n) → False) (hv : (∃ n, v = .i n) → False) : xO u = xO v ↔ u = v := by
 cases u <;> cases v <;> simp [xO] at hu hv ⊢
 all_goals omega
theorem ecall_any {B f : Nat} (IH : NodeQ im inp w0 be bw tx f) (h : StQ P w0 w be bw tx inp s bl lv l vo vb gs fv) (hF : FrS P w0 w im b bf d Xb vl vi bl) (hT : TextN w0 tx im) (hR : Ready im) (hs : StT im B s) (hsf : s.left ≤ f) (hd : d ≤ 12) (x : Ins) (hxa : x.a < im.classes.length) (hxb : x.b < im.sigs.length) (hlk : 0 ≤ findF im.classes im.bodies x.b 5 x.a) (u v : V) (hu : VT im.classes s.heap (clsT x.a) u) (hv' : VT im.classes s.heap (argT im.sigs x.b) v) (pl pn pc : Nat) (c : UInt8) (pa : Option Addr) :
  Calls Tryz.prog 208 #[.pointer (some ⟨be, 0, none⟩), .pointer (some ⟨bf, 0, none⟩), .agg #[.int .i64 pl, .int .u8 99, .int .u8 c.toNat, .int .i64 x.b, .slice pa pn pc], xAgg u, xAgg v] w (ReV P w0 w be bw tx inp bl lv (callV im inp f d x u v l s)) := by
 have hW := hR.wf
 have hn4 := hW.nc
 have hnb := hW.nb
 have hcap := hs.cap
 have h4 : s.heap.length ≤ 4000 := by omega
 obtain ⟨hC, hC2⟩ := clsT_C (a := x.a) (by omega)
 rcases hu.ref (isR_of_C hC) with rfl | ⟨k, ob, rfl, hk, _, hun⟩
 ·exact ecall_bad h hF .z v pl x.b pn pc c pa 6 (by decide) (fun X hX => callee_z (h.new hX) h4 x.b d)
 ·rw [hC2] at hun
  have hcl := hs.ht.cls k ob hk
  obtain ⟨bs, hTB, hBds⟩ := hT.bod
  have hbl : bs.length = im.bodies.length := hBds.1
  have HC := fun X (hX : But (fun _ => False) w X) => callee_o (h.new hX) h4 hk (im.classes.map toX) bs (by simp; omega) (by omega) hT.cls hTB (UInt8.ofNat (65 + ob.cls)) (toNat65 (by omega)) x.b d
  rw [bodyN (tx := tx) hW hBds x.b ob.cls hcl] at HC
  by_cases h12 : 12 ≤ d
  ·rw [show callV im inp f d x (.o k) v l s = .bad 10 s.out from by simp [callV, h12]]
   simp only [h12, if_true] at HC
   exact ecall_bad h hF (.o k) v pl x.b pn pc c pa 10 (by decide) HC
  ·simp only [h12, if_false] at HC
   obtain ⟨f0, hbk, hbm, hme, hc0, hl2, hLT⟩ := callee_typed hR hs hk hxa hxb hun hlk hv'
   rw [(Ev.at hk).1] at hbk f0
   obtain ⟨q, hq⟩ : ∃ q : Nat, findF im.classes im.bodies x.b 5 ob.cls = q := ⟨_, (Int.toNat_of_nonneg f0).symm⟩
   rw [hq] at HC hbk
   simp only [Int.toNat_natCast] at hbk
   have hty := hR.ty _ hbm
   unfold bodyT at hty
   cases ht : typN im.classes im.sigs (calleeV im x k s).locals (calleeV im x k s).code (calleeV im x k s).code.length 0 with
   | none => rw [ht] at hty; cases hty
   | some t =>
   rw [show callV im inp f d x (.o k) v l s = backV l (nodV im inp f (calleeV im x k s) (d + 1) 0 (localsV (calleeV im x k s) [.o k, v]) s) from by
    simp only [callV, h12, if_false]
    cases nodV im inp f (calleeV im x k s) (d + 1) 0 (localsV (calleeV im x k s) [.o k, v]) s <;> rfl]
   exact ecall_go IH hT hs hsf (by omega) _ hbm hbk hnb (hW.bod _ hbm).loc.1 hl2 ht (.o k) v hLT h hF pl x.b pn pc c pa HC
theorem edo_two {B f : Nat} (IH : NodeQ im inp w0 be bw tx f) (h : StQ P w0 w be bw tx inp s bl lv l vo vb gs fv) (hF : FrS P w0 w im b bf d Xb vl vi bl) (hT : TextN w0 tx im) (hR : Ready im) (hs : StT im B s) (hsf : s.left ≤ f) (hd : d ≤ 12) (x : Ins) (lo : List UInt8) (hx : WfN im.classes im.sigs.length lo.length x) (hx2 : arity x.op = 2) (hx111 : x.op.toNat ≠ 111) (hlk : x.op.toNat = 99 → 0 ≤ findF im.classes im.bodies x.b 5 x.a) (ta tc tt : UInt8) (u v : V) (hu : VT im.classes s.heap ta u) (hv' : VT im.classes s.heap tc v) (hnt : nodeT im.classes im.sigs lo x [ta, tc] = some tt) (pl pn pc : Nat) (pa : Option Addr) :
  Calls Tryz.prog 156 #[.pointer (some ⟨be, 0, none⟩), .pointer (some ⟨bf, 0, none⟩), itN x pa pl pn pc, xAgg u, xAgg v] w (ReV P w0 w be bw tx inp bl lv (twoV im (fun b' l' => nodV im inp f b' (d + 1) 0 l' s) d x u v l s)) := by
 have hW := hR.wf
 have hn4 := hW.nc
 have hcap := hs.cap
 have h4 : s.heap.length ≤ 4000 := by omega
 have hop : arith x.op.toNat = true ∨ x.op.toNat = 101 ∨ x.op.toNat = 112 ∨ x.op.toNat = 99 ∨ x.op.toNat = 44 := by
  unfold arity at hx2
  split at hx2
  ·omega
  ·split at hx2
   ·rename_i h3; simp [arith] at h3 ⊢; omega
   ·split at hx2 <;> omega
 have hnd : 58 ≤ x.op.toNat ∨ x.op.toNat < 48 := by
  rcases hop with h1 | h1 | h1 | h1 | h1
  ·simp [Sp.arith] at h1; omega
  ·omega
  ·omega
  ·omega
  ·omega
 obtain ⟨e1, e2, e3⟩ := toXN_not (x := x) hnd
 unfold itN
 rw [e1, e2]
 rcases hop with h1 | h1 | h1 | h1 | h1
 ·have hne : x.op.toNat ≠ 44 ∧ x.op.toNat ≠ 101 ∧ x.op.toNat ≠ 99 ∧ x.op.toNat ≠ 112 ∧ x.op.toNat ≠ 120 ∧ x.op.toNat ≠ 105 ∧ x.op.toNat ≠ 108 ∧ x.op.toNat ≠ 115 ∧ (x.op.toNat = 43 ∨ x.op.toNat = 45 ∨ x.op.toNat = 42 ∨ x.op.toNat = 60 ∨ x.op.toNat = 61 ∨ x.op.toNat = 47) := by
   simp [Sp.arith] at h1; omega
  obtain ⟨n1, n2, n3, n4, n5, n6, n8, n9, n7⟩ := hne
  rw [show twoV im (fun b' l' => nodV im inp f b' (d + 1) 0 l' s) d x u v l s = arithV x.op.toNat u.N v.N l s from by unfold twoV; rw [if_neg n1, if_neg n2, if_neg n3, if_neg n4]]
  have hf : fitsT im.classes [ta, tc] [105, 105] = true := by
   simp [nodeT, askT, h1, n2, n5, n1, n6, hx111] at hnt
   simpa using hnt.1
  obtain ⟨q1, q2⟩ := fits2 hf
  obtain ⟨a, rfl, a1, a2⟩ := (hu.sub hW.cls hn4 hs.ht (t' := 105) q1 (by decide)).int (by decide)
  obtain ⟨b, rfl, b1, b2⟩ := (hv'.sub hW.cls hn4 hs.ht (t' := 105) q2 (by decide)).int (by decide)
  exact edo_rest h (.i a) (.i b) pl x.op.toNat x.b pn pc _ pa _ n1 n8 n9 n3 (fun X hX => do_a (h.grown hX) x.op.toNat n7 a b a1 a2 b1 b2 pl x.b pn pc _ pa)
 ·rw [h1, show twoV im (fun b' l' => nodV im inp f b' (d + 1) 0 l' s) d x u v l s = .ok (if u = v then .i 1 else .i 0) l s from by unfold twoV; rw [if_neg (by omega), if_pos h1]]
  simp [nodeT, askT, giveT, Sp.arith, h1] at hnt
  have hi : ∀ {t : UInt8} {u : V}, VT im.classes s.heap t u → isR t = true → (∃ n, u = .i n) → False := fun hv hr ⟨n, hn⟩ => by
   subst hn
   rcases hv.ref hr with h | ⟨_, _, h, _⟩ <;> cases h
  exact edo_rest h u v pl 101 x.b pn pc _ pa _ (by decide) (by decide) (by decide) (by decide) (fun X hX => do_e (h.grown hX) u v (xO_eq (hi hu hnt.1.1) (hi hv' hnt.1.2)) pl x.b pn pc _ pa)
 ·have hxa := hx.cls (by omega)
  have hxb := hx.fld (by omega)
  simp [nodeT, askT, giveT, Sp.arith, h1] at hnt
  obtain ⟨hf, _⟩ := hnt
  obtain ⟨hC, hC2⟩ := clsT_C (a := x.a) (by omega)
  obtain ⟨q1, q2⟩ := fits2 (by simpa using hf)
  have hu2 := hu.sub hW.cls hn4 hs.ht (t' := clsT x.a) q1 (by have := isC_iff.1 hC; omega)
  rcases hu2.ref (isR_of_C hC) with rfl | ⟨k, ob, rfl, hk, _, hun⟩
  ·rw [h1, show twoV im (fun b' l' => nodV im inp f b' (d + 1) 0 l' s) d x .z v l s = .bad 6 s.out from by unfold twoV; simp [h1]]
   exact edo_rest h .z v pl 112 x.b pn pc _ pa _ (by decide) (by decide) (by decide) (by decide) (fun X hX => do_pz (h.grown hX) h4 v pl x.b pn pc _ pa)
  ·rw [hC2] at hun
   obtain ⟨g1, g2⟩ := field_at hR hs hxa hxb hk hun
   rw [h1, show twoV im (fun b' l' => nodV im inp f b' (d + 1) 0 l' s) d x (.o k) v l s = .ok (.i 0) l (s.put k x.b v) from by unfold twoV; simp [h1]]
   exact edo_rest h (.o k) v pl 112 x.b pn pc _ pa _ (by decide) (by decide) (by decide) (by decide) (fun X hX => do_po (h.grown hX) h4 hk v pl x.b pn pc _ pa g1)
 ·have hxa := hx.cls (by omega)
  have hxb := hx.sig h1
  simp [nodeT, askT, giveT, Sp.arith, h1] at hnt
  obtain ⟨hf, _⟩ := hnt
  obtain ⟨hC, hC2⟩ := clsT_C (a := x.a) (by omega)
  obtain ⟨q1, q2⟩ := fits2 (by simpa using hf)
  have hu2 := hu.sub hW.cls hn4 hs.ht (t' := clsT x.a) q1 (by have := isC_iff.1 hC; omega)
  have hv2 := hv'.sub hW.cls hn4 hs.ht (t' := argT im.sigs x.b) q2 (isTy_45 (arg_ty hR hxb).1)
  rw [h1, show twoV im (fun b' l' => nodV im inp f b' (d + 1) 0 l' s) d x u v l s = callV im inp f d x u v l s from by unfold twoV callV; rw [if_neg (by omega), if_neg (by omega), if_pos h1]; cases u <;> rfl]
  exact edo_c h u v pl x.b pn pc _ pa _ (fun X hX => ecall_any IH (h.grown hX) (hF.grown hX) hT hR hs hsf hd x hxa hxb (hlk h1) u v hu2 hv2 pl pn pc _ pa)
 ·rw [h1, show twoV im (fun b' l' => nodV im inp f b' (d + 1) 0 l' s) d x u v l s = .ok v l s from by unfold twoV; rw [if_pos h1]]
  exact edo_comma h hF u v pl x.b pn pc _ pa
end
end Go.Proofs.YtpfkkmacakjmbaaGreatDoor
