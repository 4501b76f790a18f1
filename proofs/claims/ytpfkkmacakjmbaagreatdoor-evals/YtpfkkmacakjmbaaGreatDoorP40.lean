import Derived.Test.YtpfkkmacakjmbaaGreatDoorP39
import Derived.Test.YtpfkkmacakjmbaaGreatDoorP01
import Derived.Test.YtpfkkmacakjmbaaGreatDoorP27
import Derived.Test.YtpfkkmacakjmbaaGreatDoorP28
import Derived.Test.YtpfkkmacakjmbaaGreatDoorP33
set_option maxRecDepth 100000
set_option maxHeartbeats 6400000
namespace Go.Proofs.YtpfkkmacakjmbaaGreatDoor
open Go Go.RowKit Sp
set_option linter.unusedSimpArgs false
set_option linter.unusedVariables false
attribute [local go_sem ↓] Go.wp_at_zero Go.wp_at_succ
structure FrS (P : Nat → Prop) (w0 w : World) (im : Img) (b : Bod) (bf d : Nat) (X : XBod) (vl vi : Value) (bl : Nat) : Prop where
 fr : FrB w bf d X vl vi bl
 pf : P bf
 bd : BodF w0 im.sigs b X vl vi
theorem NB.drew {w X : World} (h : NB w X) : NB w X.drew := ⟨h.but.trans (But.drew _ _), fun k a b => h.nb k a b⟩
section
variable {P : Nat → Prop} {w0 w w1 X : World} {be bw tx bl : Nat} {inp : ByteArray} {s : Ev} {lv vo vb : Value} {l : List V} {gs : List Nat} {fv : List Value} {im : Img} {b : Bod} {bf d : Nat} {Xb : XBod} {vl vi : Value}
theorem FrS.but (h : FrS P w0 w im b bf d Xb vl vi bl) (hB : But (FrQ P w0) w w1) : FrS P w0 w1 im b bf d Xb vl vi bl := ⟨h.fr.but hB (fun hf => hf.2 h.pf), h.pf, h.bd⟩
theorem FrS.grown (h : FrS P w0 w im b bf d Xb vl vi bl) (hN : NB w X) : FrS (PQ P w X) w0 X im b bf d Xb vl vi bl := ⟨h.fr.but hN.but (fun h => h), Or.inl h.pf, h.bd⟩
theorem FrS.cells (h : FrS P w0 w im b bf d Xb vl vi bl) : w.cell? ⟨bf, 0, none⟩ = some (.int .i64 d) ∧ w.cell? ⟨bf, 1, none⟩ = some (.int .u8 Xb.cls.toNat) ∧ w.cell? ⟨bf, 2, none⟩ = some (.int .i64 Xb.meth) ∧ w.cell? ⟨bf, 3, none⟩ = some (.int .u8 Xb.ans.toNat) ∧ w.cell? ⟨bf, 4, none⟩ = some vl ∧ w.cell? ⟨bf, 5, none⟩ = some vi ∧ w.cell? ⟨bf, 6, none⟩ = some (.pointer (some ⟨bl, 0, none⟩)) ∧ bf < w.heap.size := by
 have hf := h.fr
 unfold FrB at hf
 exact ⟨by rw [cell_of_row w bf 0 _ _ (0, 0) hf]; rfl, by rw [cell_of_row w bf 1 _ _ (0, 0) hf]; rfl, by rw [cell_of_row w bf 2 _ _ (0, 0) hf]; rfl, by rw [cell_of_row w bf 3 _ _ (0, 0) hf]; rfl, by rw [cell_of_row w bf 4 _ _ (0, 0) hf]; rfl, by rw [cell_of_row w bf 5 _ _ (0, 0) hf]; rfl, by rw [cell_of_row w bf 6 _ _ (0, 0) hf]; rfl, lt_of_block hf⟩
theorem ReV.pass {r : R} {en : Ending} (hN : NB w X) (h0 : w0.heap.size ≤ w.heap.size) (h : ReV (PQ P w X) w0 X be bw tx inp bl lv r en w1) :
  ∃ K N e : Int, en = .returned (.tuple #[.agg #[.int .i32 K, .int .i64 N], .int .i64 e]) ∧ ∀ r0, w.heap.size ≤ r0 → ResX X r0 → ResX w1 r0 ∧ ReV P w0 w be bw tx inp bl lv r (.returned (.tuple #[.agg #[.int .i32 K, .int .i64 N], .int .i64 e])) ((w1.setCell ⟨r0, 0, none⟩ (.int .i32 K)).setCell ⟨r0, 1, none⟩ (.int .i64 N)) := by
 obtain ⟨hB, vo, vb, gs, fv, h⟩ := h
 cases r with
 | ok u l s =>
  obtain ⟨rfl, hs⟩ := h
  refine ⟨xN u, xO u, 0, rfl, fun r0 hr hx => ?_⟩
  obtain ⟨a, b, c⟩ := StQ.fin hN h0 hs hB hr hx (xN u) (xO u)
  exact ⟨a, b, vo, vb, gs, fv, rfl, c⟩
 | bad e o =>
  obtain ⟨rfl, s, l, ho, hs⟩ := h
  refine ⟨0, 0, faultN e, rfl, fun r0 hr hx => ?_⟩
  obtain ⟨a, b, c⟩ := StQ.fin hN h0 hs hB hr hx 0 0
  exact ⟨a, b, vo, vb, gs, fv, rfl, s, l, ho, c⟩
structure DoW (w W : World) (pl op n pn pc : Nat) (c : UInt8) (pa : Option Addr) (u v : V) : Prop where
 nb : NB w W
 b0 : W.heap[w.heap.size]? = some (.cells #[.int .i64 pl, .int .u8 op, .int .u8 c.toNat, .int .i64 n, .slice pa pn pc] 219)
 b1 : W.heap[w.heap.size + 1]? = some (.cells #[.int .i32 (xN u), .int .i64 (xO u)] 168)
 b2 : W.heap[w.heap.size + 1 + 1]? = some (.cells #[.int .i32 (xN v), .int .i64 (xO v)] 168)
 b3 : W.heap[w.heap.size + 1 + 1 + 1]? = some (.cells #[.int .i32 0, .int .i64 0] 168)
 sz : W.heap.size = w.heap.size + 1 + 1 + 1 + 1
theorem doW {pl op n pn pc : Nat} {c : UInt8} {pa : Option Addr} {u v : V} : DoW w ((((w.alloc (.cells #[.int .i64 pl, .int .u8 op, .int .u8 c.toNat, .int .i64 n, .slice pa pn pc] 219)).alloc (.cells #[.int .i32 (xN u), .int .i64 (xO u)] 168)).alloc (.cells #[.int .i32 (xN v), .int .i64 (xO v)] 168)).alloc (.cells #[.int .i32 0, .int .i64 0] 168)) pl op n pn pc c pa u v := by
 refine ⟨nbDo, ?_, ?_, ?_, heap_alloc_at (by simp) _, by simp⟩
 ·exact ((((But.alloc (fun _ => False) _ _).trans (But.alloc _ _ _)).trans (But.alloc _ _ _)).block _ (by simp) (fun h => h)).trans (heap_alloc_new w _)
 ·exact (((But.alloc (fun _ => False) _ _).trans (But.alloc _ _ _)).block _ (by simp) (fun h => h)).trans (heap_alloc_at (by simp) _)
 ·exact ((But.alloc (fun _ => False) _ _).block _ (by simp) (fun h => h)).trans (heap_alloc_at (by simp) _)
section
variable {W : World} {pl op n pn pc : Nat} {c : UInt8} {pa : Option Addr} {u v : V}
theorem DoW.item (h : DoW w W pl op n pn pc c pa u v) : W.cell? ⟨w.heap.size, 0, none⟩ = some (.int .i64 pl) ∧ W.cell? ⟨w.heap.size, 1, none⟩ = some (.int .u8 op) ∧ W.cell? ⟨w.heap.size, 2, none⟩ = some (.int .u8 c.toNat) ∧ W.cell? ⟨w.heap.size, 3, none⟩ = some (.int .i64 n) ∧ W.cell? ⟨w.heap.size, 4, none⟩ = some (.slice pa pn pc) :=
 ⟨by rw [cell_of_row W _ 0 _ _ (0, 0) h.b0]; rfl, by rw [cell_of_row W _ 1 _ _ (0, 0) h.b0]; rfl, by rw [cell_of_row W _ 2 _ _ (0, 0) h.b0]; rfl, by rw [cell_of_row W _ 3 _ _ (0, 0) h.b0]; rfl, by rw [cell_of_row W _ 4 _ _ (0, 0) h.b0]; rfl⟩
theorem DoW.vals (h : DoW w W pl op n pn pc c pa u v) : W.cell? ⟨w.heap.size + 1, 0, none⟩ = some (.int .i32 (xN u)) ∧ W.cell? ⟨w.heap.size + 1, 1, none⟩ = some (.int .i64 (xO u)) ∧ W.cell? ⟨w.heap.size + 1 + 1, 0, none⟩ = some (.int .i32 (xN v)) ∧ W.cell? ⟨w.heap.size + 1 + 1, 1, none⟩ = some (.int .i64 (xO v)) :=
 ⟨by rw [cell_of_row W _ 0 _ _ (0, 0) h.b1]; rfl, by rw [cell_of_row W _ 1 _ _ (0, 0) h.b1]; rfl, by rw [cell_of_row W _ 0 _ _ (0, 0) h.b2]; rfl, by rw [cell_of_row W _ 1 _ _ (0, 0) h.b2]; rfl⟩
end
theorem edo_rest (h : StQ P w0 w be bw tx inp s bl lv l vo vb gs fv) (u v : V) (pl op n pn pc : Nat) (c : UInt8) (pa : Option Addr) (r : R) (n1 : op ≠ 44) (n2 : op ≠ 108) (n3 : op ≠ 115) (n4 : op ≠ 99)
  (HD : ∀ X, NB w X → Calls Tryz.prog 197 #[.pointer (some ⟨bw, 0, none⟩), .agg #[.int .i64 pl, .int .u8 op, .int .u8 c.toNat, .int .i64 n, .slice pa pn pc], xAgg u, xAgg v] X (ReV (PQ P w X) w0 X be bw tx inp bl lv r)) :
  Calls Tryz.prog 156 #[.pointer (some ⟨be, 0, none⟩), .pointer (some ⟨bf, 0, none⟩), .agg #[.int .i64 pl, .int .u8 op, .int .u8 c.toNat, .int .i64 n, .slice pa pn pc], xAgg u, xAgg v] w (ReV P w0 w be bw tx inp bl lv r) := by
 have HC := hid HD
 have h0 := h.old.size
 have e1 := h.ev.c1
 have hel := h.ev.lt
 have t1 : ((op : Int) == 44) = false := tsf (k := 44) n1
 have t2 : ((op : Int) == 108) = false := tsf (k := 108) n2
 have t3 : ((op : Int) == 115) = false := tsf (k := 115) n3
 have t4 : ((op : Int) == 99) = false := tsf (k := 99) n4
 have HDW := hid (doW (w := w) (pl := pl) (op := op) (n := n) (pn := pn) (pc := pc) (c := c) (pa := pa) (u := u) (v := v))
 clear HD n1 n2 n3 n4
 unfold xAgg at *
 go_enter Tryz.func156, Tryz.ntmps156
 go_wp2_with fail
 revert HDW
 generalize ((((w.alloc (.cells #[.int .i64 pl, .int .u8 op, .int .u8 c.toNat, .int .i64 n, .slice pa pn pc] 219)).alloc (.cells #[.int .i32 (xN u), .int .i64 (xO u)] 168)).alloc (.cells #[.int .i32 (xN v), .int .i64 (xO v)] 168)).alloc (.cells #[.int .i32 0, .int .i64 0] 168)) = W
 intro HDW
 have hD := HDW.out
 obtain ⟨i0, i1, i2, i3, i4⟩ := hD.item
 obtain ⟨v0, v1, v2, v3⟩ := hD.vals
 have hsz := hD.sz
 have hN := hD.nb
 have e1W := (hN.but.cell (p := ⟨be, 1, none⟩) hel (fun h => h)).trans e1
 have hrX : ResX W (w.heap.size + 1 + 1 + 1) := ⟨0, 0, hD.b3⟩
 have hbeP := h.k1
 clear HDW hD h e1
 have hS0 : But (fun _ => False) W W.drew := But.drew _ _
 have m0 : w.heap.size < W.heap.size := by omega
 have m1 : w.heap.size + 1 < W.heap.size := by omega
 have m2 : w.heap.size + 1 + 1 < W.heap.size := by omega
 have m3 : be < W.heap.size := by omega
 refine wpTx_begin (But (fun _ => False) W) 7 (by kernel_rfl) ?_
 have fSA := hid (fun wS (h : (But (fun _ => False) W) wS) => (And.intro ((h.cell (p := ⟨be, 1, none⟩) m3 (fun h => h)).trans e1W) (And.intro ((h.cell (p := ⟨w.heap.size, 0, none⟩) m0 (fun h => h)).trans i0) (And.intro ((h.cell (p := ⟨w.heap.size, 1, none⟩) m0 (fun h => h)).trans i1) (And.intro ((h.cell (p := ⟨w.heap.size, 2, none⟩) m0 (fun h => h)).trans i2) (And.intro ((h.cell (p := ⟨w.heap.size, 3, none⟩) m0 (fun h => h)).trans i3) (And.intro ((h.cell (p := ⟨w.heap.size, 4, none⟩) m0 (fun h => h)).trans i4) (And.intro ((h.cell (p := ⟨w.heap.size + 1, 0, none⟩) m1 (fun h => h)).trans v0) (And.intro ((h.cell (p := ⟨w.heap.size + 1, 1, none⟩) m1 (fun h => h)).trans v1) (And.intro ((h.cell (p := ⟨w.heap.size + 1 + 1, 0, none⟩) m2 (fun h => h)).trans v2) ((h.cell (p := ⟨w.heap.size + 1 + 1, 1, none⟩) m2 (fun h => h)).trans v3)))))))))))
 iterate 7 (refine wpTx_takeT (v := ?_) rfl (by kernel_rfl) (fun _ _ _ h => h) rfl hS0 ?_ ?_; rotate_left; (focus (intro wS h; obtain ⟨q0, q1, q2, q3, q4, q5, q6, q7, q8, q9⟩ := fSA.out wS h; clear h; go_simp; try rfl)); dsimp only [Act.put]; try simp only [puts])
 clear fSA
 refine wpTx_step rfl (by kernel_rfl) ?_
 intro KS hKS
 go_simp
 refine (HC.out _ (hN.drew)).mono ?_
 intro en w1 hre
 obtain ⟨K, N, e, rfl, hfin⟩ := ReV.pass hN.drew h0 hre
 refine hKS.out _ _ (fun h => absurd h (by decide)) ?_
 clear hKS KS
 iterate 2 (refine wpTx_takeW (v := ?_) rfl (by kernel_rfl) (fun _ _ _ h => h) rfl ?_ ?_; rotate_left; (focus (intro wS; go_simp; try rfl)); dsimp only [Act.put]; try simp only [puts])
 obtain ⟨hr1, hfi⟩ := hfin (w.heap.size + 1 + 1 + 1) (by omega) (hrX.but hS0 (fun h => h))
 obtain ⟨K9, N9, r0, r1, z0, z1, hrl⟩ := hr1.parts
 have HF := hid hfi
 clear hfi hfin hre HC i0 i1 i2 i3 i4 v0 v1 v2 v3 e1W hS0
 refine wpTx_step rfl (by kernel_rfl) ?_
 intro KS hKS
 go_simp
 refine hKS.out _ _ (fun h => absurd h (by decide)) ?_
 clear hKS KS
 refine wpTx_step rfl (by kernel_rfl) ?_
 intro KS hKS
 go_simp
 refine hKS.out _ _ (fun h => absurd h (by decide)) ?_
 clear hKS KS
 refine wpTx_done rfl (by kernel_rfl) ?_
 go_wp2_with fail
 exact retX Tryz.results156 rfl rfl rfl (hr1.put _ _) HF.out
theorem edo_comma (h : StQ P w0 w be bw tx inp s bl lv l vo vb gs fv) (hF : FrS P w0 w im b bf d Xb vl vi bl) (u v : V) (pl n pn pc : Nat) (c : UInt8) (pa : Option Addr) :
  Calls Tryz.prog 156 #[.pointer (some ⟨be, 0, none⟩), .pointer (some ⟨bf, 0, none⟩), .agg #[.int .i64 pl, .int .u8 44, .int .u8 c.toNat, .int .i64 n, .slice pa pn pc], xAgg u, xAgg v] w (ReV P w0 w be bw tx inp bl lv (.ok v l s)) := by
 have HH := hid h
 clear h hF
 unfold xAgg at *
 go_enter Tryz.func156, Tryz.ntmps156
 go_wp2_with fail
 exact retX Tryz.results156 rfl rfl rfl (heap_alloc_at (by simp) _) ⟨nbDo.but.mono (fun _ _ h => h.elim), vo, vb, gs, fv, rfl, HH.out.new nbDo.but⟩
theorem edo_l (h : StQ P w0 w be bw tx inp s bl lv l vo vb gs fv) (hF : FrS P w0 w im b bf d Xb vl vi bl) (u v : V) (pl n pn pc : Nat) (c : UInt8) (pa : Option Addr) (q : V) (hq : l[n]? = some q) :
  Calls Tryz.prog 156 #[.pointer (some ⟨be, 0, none⟩), .pointer (some ⟨bf, 0, none⟩), .agg #[.int .i64 pl, .int .u8 108, .int .u8 c.toNat, .int .i64 n, .slice pa pn pc], xAgg u, xAgg v] w (ReV P w0 w be bw tx inp bl lv (.ok q l s)) := by
 have HDW := hid (doW (w := w) (pl := pl) (op := 108) (n := n) (pn := pn) (pc := pc) (c := c) (pa := pa) (u := u) (v := v))
 rw [show ((108 : Nat) : Int) = 108 from rfl] at HDW
 obtain ⟨_, _, _, _, _, _, c6, hbf⟩ := hF.cells
 have HC := hid (fun X (hX : But (fun _ => False) w X) => get_any (h.new hX) n q hq)
 have HH := hid h
 clear h hF hq
 unfold xAgg at *
 go_enter Tryz.func156, Tryz.ntmps156
 go_wp2_with fail
 revert HDW
 generalize ((((w.alloc (.cells #[.int .i64 pl, .int .u8 108, .int .u8 c.toNat, .int .i64 n, .slice pa pn pc] 219)).alloc (.cells #[.int .i32 (xN u), .int .i64 (xO u)] 168)).alloc (.cells #[.int .i32 (xN v), .int .i64 (xO v)] 168)).alloc (.cells #[.int .i32 0, .int .i64 0] 168)) = W
 intro HDW
 have hD := HDW.out
 obtain ⟨i0, i1, i2, i3, i4⟩ := hD.item
 have hsz := hD.sz
 have hN := hD.nb
 have c6W := (hN.but.cell (p := ⟨bf, 6, none⟩) hbf (fun h => h)).trans c6
 have hrX : ResX W (w.heap.size + 1 + 1 + 1) := ⟨0, 0, hD.b3⟩
 clear HDW hD c6 i0 i1 i2 i4
 have hS0 : But (fun _ => False) W W.drew := But.drew _ _
 have m0 : w.heap.size < W.heap.size := by omega
 have m3 : bf < W.heap.size := by omega
 refine wpTx_begin (But (fun _ => False) W) 6 (by kernel_rfl) ?_
 have fSA := hid (fun wS (h : (But (fun _ => False) W) wS) => (And.intro ((h.cell (p := ⟨bf, 6, none⟩) m3 (fun h => h)).trans c6W) ((h.cell (p := ⟨w.heap.size, 3, none⟩) m0 (fun h => h)).trans i3)))
 iterate 6 (refine wpTx_takeT (v := ?_) rfl (by kernel_rfl) (fun _ _ _ h => h) rfl hS0 ?_ ?_; rotate_left; (focus (intro wS h; obtain ⟨q0, q1⟩ := fSA.out wS h; clear h; go_simp; try rfl)); dsimp only [Act.put]; try simp only [puts])
 clear fSA
 refine wpTx_step rfl (by kernel_rfl) ?_
 intro KS hKS
 go_simp
 refine (HC.out _ (hN.but.trans hS0)).mono ?_
 rintro en w1 ⟨rfl, hB1⟩
 refine hKS.out _ _ (fun h => absurd h (by decide)) ?_
 clear hKS KS HC
 have HF := hid (fun a b => HH.out.fin0 hN (hS0.trans hB1) (r := w.heap.size + 1 + 1 + 1) (by omega) hrX a b)
 obtain ⟨K9, N9, r0, r1, z0, z1, hrl⟩ := (HF.out 0 0).1.parts
 have hr1 := (HF.out 0 0).1
 clear HH i3 c6W hS0
 refine wpTx_step rfl (by kernel_rfl) ?_
 intro KS hKS
 go_simp
 refine hKS.out _ _ (fun h => absurd h (by decide)) ?_
 clear hKS KS
 refine wpTx_step rfl (by kernel_rfl) ?_
 intro KS hKS
 go_simp
 refine hKS.out _ _ (fun h => absurd h (by decide)) ?_
 clear hKS KS
 refine wpTx_done rfl (by kernel_rfl) ?_
 go_wp2_with fail
 exact retX Tryz.results156 rfl rfl rfl (hr1.put _ _) ⟨(HF.out _ _).2.1, _, _, _, _, rfl, (HF.out _ _).2.2⟩
theorem edo_s (h : StQ P w0 w be bw tx inp s bl lv l vo vb gs fv) (hF : FrS P w0 w im b bf d Xb vl vi bl) (u v : V) (pl n pn pc : Nat) (c : UInt8) (pa : Option Addr) (hn : n < l.length) :
  Calls Tryz.prog 156 #[.pointer (some ⟨be, 0, none⟩), .pointer (some ⟨bf, 0, none⟩), .agg #[.int .i64 pl, .int .u8 115, .int .u8 c.toNat, .int .i64 n, .slice pa pn pc], xAgg u, xAgg v] w (ReV P w0 w be bw tx inp bl lv (.ok (.i 0) (l.set n u) s)) := by
 have HDW := hid (doW (w := w) (pl := pl) (op := 115) (n := n) (pn := pn) (pc := pc) (c := c) (pa := pa) (u := u) (v := v))
 rw [show ((115 : Nat) : Int) = 115 from rfl] at HDW
 obtain ⟨_, _, _, _, _, _, c6, hbf⟩ := hF.cells
 have HC := hid (fun X (hX : NB w X) => set_any (h.grown hX) n u hn)
 have h0 := h.old.size
 clear h hF hn
 unfold xAgg at *
 go_enter Tryz.func156, Tryz.ntmps156
 go_wp2_with fail
 revert HDW
 generalize ((((w.alloc (.cells #[.int .i64 pl, .int .u8 115, .int .u8 c.toNat, .int .i64 n, .slice pa pn pc] 219)).alloc (.cells #[.int .i32 (xN u), .int .i64 (xO u)] 168)).alloc (.cells #[.int .i32 (xN v), .int .i64 (xO v)] 168)).alloc (.cells #[.int .i32 0, .int .i64 0] 168)) = W
 intro HDW
 have hD := HDW.out
 obtain ⟨i0, i1, i2, i3, i4⟩ := hD.item
 obtain ⟨v0, v1, v2, v3⟩ := hD.vals
 have hsz := hD.sz
 have hN := hD.nb
 have c6W := (hN.but.cell (p := ⟨bf, 6, none⟩) hbf (fun h => h)).trans c6
 have hrX : ResX W (w.heap.size + 1 + 1 + 1) := ⟨0, 0, hD.b3⟩
 clear HDW hD c6 i0 i1 i2 i4 v2 v3
 have hS0 : But (fun _ => False) W W.drew := But.drew _ _
 have m0 : w.heap.size < W.heap.size := by omega
 have m1 : w.heap.size + 1 < W.heap.size := by omega
 have m3 : bf < W.heap.size := by omega
 refine wpTx_begin (But (fun _ => False) W) 7 (by kernel_rfl) ?_
 have fSA := hid (fun wS (h : (But (fun _ => False) W) wS) => (And.intro ((h.cell (p := ⟨bf, 6, none⟩) m3 (fun h => h)).trans c6W) (And.intro ((h.cell (p := ⟨w.heap.size, 3, none⟩) m0 (fun h => h)).trans i3) (And.intro ((h.cell (p := ⟨w.heap.size + 1, 0, none⟩) m1 (fun h => h)).trans v0) ((h.cell (p := ⟨w.heap.size + 1, 1, none⟩) m1 (fun h => h)).trans v1)))))
 iterate 7 (refine wpTx_takeT (v := ?_) rfl (by kernel_rfl) (fun _ _ _ h => h) rfl hS0 ?_ ?_; rotate_left; (focus (intro wS h; obtain ⟨q0, q1, q2, q3⟩ := fSA.out wS h; clear h; go_simp; try rfl)); dsimp only [Act.put]; try simp only [puts])
 clear fSA
 refine wpTx_step rfl (by kernel_rfl) ?_
 intro KS hKS
 go_simp
 refine (HC.out _ hN.drew).mono ?_
 rintro en w1 ⟨rfl, hB1, hs1⟩
 refine hKS.out _ _ (fun h => absurd h (by decide)) ?_
 clear hKS KS HC
 refine wpTx_done rfl (by kernel_rfl) ?_
 have HF := hid (fun a b => StQ.fin hN.drew h0 hs1 hB1 (r := w.heap.size + 1 + 1 + 1) (by omega) (hrX.but hS0 (fun h => h)) a b)
 obtain ⟨K9, N9, r0, r1, z0, z1, hrl⟩ := (HF.out 0 0).1.parts
 have hr1 := (HF.out 0 0).1
 clear i3 c6W hS0 v0 v1 hs1 hB1
 go_wp2_with fail
 exact retX Tryz.results156 rfl rfl rfl (hr1.put _ _) ⟨(HF.out _ _).2.1, _, _, _, _, rfl, (HF.out _ _).2.2⟩
theorem edo_c (h : StQ P w0 w be bw tx inp s bl lv l vo vb gs fv) (u v : V) (pl n pn pc : Nat) (c : UInt8) (pa : Option Addr) (r : R)
  (HD : ∀ X, NB w X → Calls Tryz.prog 208 #[.pointer (some ⟨be, 0, none⟩), .pointer (some ⟨bf, 0, none⟩), .agg #[.int .i64 pl, .int .u8 99, .int .u8 c.toNat, .int .i64 n, .slice pa pn pc], xAgg u, xAgg v] X (ReV (PQ P w X) w0 X be bw tx inp bl lv r)) :
  Calls Tryz.prog 156 #[.pointer (some ⟨be, 0, none⟩), .pointer (some ⟨bf, 0, none⟩), .agg #[.int .i64 pl, .int .u8 99, .int .u8 c.toNat, .int .i64 n, .slice pa pn pc], xAgg u, xAgg v] w (ReV P w0 w be bw tx inp bl lv r) := by
 have HDW := hid (doW (w := w) (pl := pl) (op := 99) (n := n) (pn := pn) (pc := pc) (c := c) (pa := pa) (u := u) (v := v))
 rw [show ((99 : Nat) : Int) = 99 from rfl] at HDW
 have HC := hid HD
 have h0 := h.old.size
 clear h HD
 unfold xAgg at *
 go_enter Tryz.func156, Tryz.ntmps156
 go_wp2_with fail
 revert HDW
 generalize ((((w.alloc (.cells #[.int .i64 pl, .int .u8 99, .int .u8 c.toNat, .int .i64 n, .slice pa pn pc] 219)).alloc (.cells #[.int .i32 (xN u), .int .i64 (xO u)] 168)).alloc (.cells #[.int .i32 (xN v), .int .i64 (xO v)] 168)).alloc (.cells #[.int .i32 0, .int .i64 0] 168)) = W
 intro HDW
 have hD := HDW.out
 have hsz := hD.sz
 have hN := hD.nb
 have hrX : ResX W (w.heap.size + 1 + 1 + 1) := ⟨0, 0, hD.b3⟩
 refine (HC.out _ hN).mono ?_
 intro en w1 hre
 obtain ⟨K, N, e, rfl, hfin⟩ := ReV.pass hN h0 hre
 obtain ⟨hr1, hfi⟩ := hfin (w.heap.size + 1 + 1 + 1) (by omega) hrX
 obtain ⟨K9, N9, r0, r1, z0, z1, hrl⟩ := hr1.parts
 have HF := hid hfi
 clear hfi hfin hre HC HDW hD
 go_wp2_with fail
 exact retX Tryz.results156 rfl rfl rfl (hr1.put _ _) HF.out
end
section
variable {P : Nat → Prop} {w0 w : World} {be bw tx bl : Nat} {inp : ByteArray} {s : Ev} {lv vo vb : Value} {l : List V} {gs : List Nat} {fv : List Value}
theorem StQ.add (h : StQ P w0 w be bw tx inp s bl lv l vo vb gs fv) {k : Nat} {c : Array Value} {fz : Nat × Nat} (hk : w.heap[k]? = some (.cells c 234 fz)) : StQ (fun j => P j ∨ j = k) w0 w be bw tx inp s bl lv l vo vb gs fv := by
 refine ⟨h.old, h.ev, h.wd, h.out, h.ob, h.lg, h.lf, h.obs, h.nd, h.lb, h.lo, fun j hj => ⟨(h.own j hj).1, fun hp => ?_⟩, fun j hj => ?_, h.sl, h.sf⟩
 ·rcases hp with hp | rfl
  ·exact (h.own j hj).2 hp
  ·rcases hj with rfl | rfl | rfl | hj | hj | hj | hj | ⟨v, hv, hj⟩
   ·exact off_type h.ev hk (by decide) rfl
   ·exact off_type h.wd hk (by decide) rfl
   ·exact off_type h.lb hk (by decide) rfl
   ·exact owns_offE h.out hk (by decide) hj
   ·exact owns_offE h.ob hk (by decide) hj
   ·exact owns_offE h.lo hk (by decide) hj
   ·obtain ⟨c', v', ho⟩ := h.mg hj; exact off_type ho hk (by decide) rfl
   ·obtain ⟨n', xs, ho⟩ := h.mv hv; exact owns_offE ho hk (by decide) hj
 ·rcases hj with hj | rfl
  ·exact h.pl j hj
  ·exact ⟨lt_of_block hk, fun c' fz' e => by rw [hk] at e; injection e with e; injection e with _ h2; exact absurd h2 (by decide)⟩
end
def NodeQ (im : Img) (inp : ByteArray) (w0 : World) (be bw tx f : Nat) : Prop :=
 ∀ (b : Bod) (d i : Nat) (l : List V) (s : Ev) (t : UInt8) (F B : Nat) (P : Nat → Prop) (w : World) (bl : Nat) (lv vo vb : Value) (gs : List Nat) (fv : List Value) (bf : Nat) (X : XBod) (vl vi : Value), b ∈ im.bodies → d ≤ 12 → typN im.classes im.sigs b.locals b.code F i = some t → LT im.classes s.heap b.locals l → StT im B s → s.left ≤ f → StQ P w0 w be bw tx inp s bl lv l vo vb gs fv → FrS P w0 w im b bf d X vl vi bl →
  Calls Tryz.prog 93 #[.pointer (some ⟨be, 0, none⟩), .pointer (some ⟨bf, 0, none⟩), .int .i64 i] w (ReV P w0 w be bw tx inp bl lv (nodV im inp f b d i l s))
def backV (l : List V) : R → R
 | .bad e o => .bad e o
 | .ok r _ s => .ok r l s
theorem localsV_set {b : Bod} (h : 2 ≤ b.locals.length) (u v : V) : ((b.locals.map plainV).set 0 u).set 1 v = localsV b [u, v] := by
 match hb : b.locals, h with
 | x :: y :: t, _ => simp [localsV, hb]
theorem bodyN {w0 : World} {tx : Nat} {im : Img} {bs : List XBod} (hW : WfIS im) (hB : BdsN w0 0 im.sigs bs im.bodies) (m c : Nat) (hc : c < im.classes.length) : bodyF (im.classes.map toX) bs m (im.classes.map toX).length (UInt8.ofNat (65 + c)) = findF im.classes im.bodies m 5 c := by
 have := hW.nc
 rw [List.length_map, bodyF_heads hB.heads, bodyF_findF hW.cls hW.nc (fun b hb => SideOfN (hW.bod b hb) hW.nc) m im.classes.length 5 c hc hc (by omega)]
section
variable {P : Nat → Prop} {w0 w : World} {be bw tx bl : Nat} {inp : ByteArray} {s : Ev} {lv vo vb : Value} {l : List V} {gs : List Nat} {fv : List Value} {im : Img} {b : Bod} {bf d : Nat} {Xb : XBod} {vl vi : Value}
theorem ecall_bad (h : StQ P w0 w be bw tx inp s bl lv l vo vb gs fv) (hF : FrS P w0 w im b bf d Xb vl vi bl) (u v : V) (pl n pn pc : Nat) (c : UInt8) (pa : Option Addr) (e : Nat) (he : (faultN e != 0) = true)
  (HC' : ∀ X, But (fun _ => False) w X → Calls Tryz.prog 193 #[.pointer (some ⟨bw, 0, none⟩), xAgg u, .int .i64 n, .int .i64 d] X fun en w' => But (fun _ => False) X w' ∧ en = .returned (.tuple #[.int .i64 (-1), .int .i64 (faultN e)])) :
  Calls Tryz.prog 208 #[.pointer (some ⟨be, 0, none⟩), .pointer (some ⟨bf, 0, none⟩), .agg #[.int .i64 pl, .int .u8 99, .int .u8 c.toNat, .int .i64 n, .slice pa pn pc], xAgg u, xAgg v] w (ReV P w0 w be bw tx inp bl lv (.bad e s.out)) := by
 have HDW := hid (doW (w := w) (pl := pl) (op := 99) (n := n) (pn := pn) (pc := pc) (c := c) (pa := pa) (u := u) (v := v))
 rw [show ((99 : Nat) : Int) = 99 from rfl] at HDW
 obtain ⟨a0, _, _, _, _, _, _, hbf⟩ := hF.cells
 have e1 := h.ev.c1
 have hel := h.ev.lt
 have HC := hid HC'
 have HH := hid h
 have HFr := hid hF
 clear h hF HC'
 unfold xAgg at *
 go_enter Tryz.func208, Tryz.ntmps208
 go_wp2_with fail
 revert HDW
 generalize ((((w.alloc (.cells #[.int .i64 pl, .int .u8 99, .int .u8 c.toNat, .int .i64 n, .slice pa pn pc] 219)).alloc (.cells #[.int .i32 (xN u), .int .i64 (xO u)] 168)).alloc (.cells #[.int .i32 (xN v), .int .i64 (xO v)] 168)).alloc (.cells #[.int .i32 0, .int .i64 0] 168)) = W
 intro HDW
 have hD := HDW.out
 obtain ⟨i0, i1, i2, i3, i4⟩ := hD.item
 obtain ⟨v0, v1, v2, v3⟩ := hD.vals
 have hsz := hD.sz
 have hN := hD.nb
 have e1W := (hN.but.cell (p := ⟨be, 1, none⟩) hel (fun h => h)).trans e1
 have a0W := (hN.but.cell (p := ⟨bf, 0, none⟩) hbf (fun h => h)).trans a0
 have hrX : ResX W (w.heap.size + 1 + 1 + 1) := ⟨0, 0, hD.b3⟩
 clear HDW e1 a0 i0 i1 i2 i4 v2 v3
 have hS0 : But (fun _ => False) W W.drew := But.drew _ _
 have m0 : w.heap.size < W.heap.size := by omega
 have m1 : w.heap.size + 1 < W.heap.size := by omega
 have m2 : be < W.heap.size := by omega
 have m3 : bf < W.heap.size := by omega
 refine wpTx_begin (But (fun _ => False) W) 11 (by kernel_rfl) ?_
 have fSA := hid (fun wS (h : (But (fun _ => False) W) wS) => (And.intro ((h.cell (p := ⟨be, 1, none⟩) m2 (fun h => h)).trans e1W) (And.intro ((h.cell (p := ⟨bf, 0, none⟩) m3 (fun h => h)).trans a0W) (And.intro ((h.cell (p := ⟨w.heap.size, 3, none⟩) m0 (fun h => h)).trans i3) (And.intro ((h.cell (p := ⟨w.heap.size + 1, 0, none⟩) m1 (fun h => h)).trans v0) ((h.cell (p := ⟨w.heap.size + 1, 1, none⟩) m1 (fun h => h)).trans v1))))))
 iterate 11 (refine wpTx_takeT (v := ?_) rfl (by kernel_rfl) (fun _ _ _ h => h) rfl hS0 ?_ ?_; rotate_left; (focus (intro wS h; obtain ⟨q0, q1, q2, q3, q4⟩ := fSA.out wS h; clear h; go_simp; try rfl)); dsimp only [Act.put]; try simp only [puts])
 clear fSA
 refine wpTx_step rfl (by kernel_rfl) ?_
 intro KS hKS
 go_simp
 refine (HC.out _ (hN.but.trans hS0)).mono ?_
 rintro en w1 ⟨hB1, rfl⟩
 refine hKS.out _ _ (fun h => absurd h (by decide)) ?_
 clear hKS KS HC
 iterate 5 (refine wpTx_takeW (v := ?_) rfl (by kernel_rfl) (fun _ _ _ h => h) rfl ?_ ?_; rotate_left; (focus (intro wS; go_simp; try rfl)); dsimp only [Act.put]; try simp only [puts])
 refine wpTx_done rfl (by kernel_rfl) ?_
 have hBW1 := hS0.trans hB1
 clear hS0 hB1 i3 v0 v1 e1W
 have HF := hid (fun a b => HH.out.fin0 hN hBW1 (r := w.heap.size + 1 + 1 + 1) (by omega) hrX a b)
 have hr1 := (HF.out 0 0).1
 obtain ⟨K9, N9, r0, r1, z0, z1, hrl⟩ := hr1.parts
 clear HH HFr hD a0W
 go_wp2_with fail
 exact retX Tryz.results208 rfl rfl rfl (hr1.put _ _) ⟨(HF.out _ _).2.1, _, _, _, _, rfl, s, l, rfl, (HF.out _ _).2.2⟩
theorem ecall_go {B f q : Nat} {t : UInt8} {F : Nat} (IH : NodeQ im inp w0 be bw tx f) (hT : TextN w0 tx im) (hs : StT im B s) (hsf : s.left ≤ f) (hd : d < 12) (cb : Bod) (hbm : cb ∈ im.bodies) (hq : im.bodies[q]? = some cb) (hnb : im.bodies.length ≤ 7) (hlo : cb.locals.length ≤ 5) (hl2 : 2 ≤ cb.locals.length) (hty : typN im.classes im.sigs cb.locals cb.code F 0 = some t) (u v : V) (hLT : LT im.classes s.heap cb.locals (localsV cb [u, v])) (h : StQ P w0 w be bw tx inp s bl lv l vo vb gs fv) (hF : FrS P w0 w im b bf d Xb vl vi bl) (pl n pn pc : Nat) (c : UInt8) (pa : Option Addr)
  (HC' : ∀ X, But (fun _ => False) w X → Calls Tryz.prog 193 #[.pointer (some ⟨bw, 0, none⟩), xAgg u, .int .i64 n, .int .i64 d] X fun en w' => But (fun _ => False) X w' ∧ en = .returned (.tuple #[.int .i64 q, .int .i64 0])) :
  Calls Tryz.prog 208 #[.pointer (some ⟨be, 0, none⟩), .pointer (some ⟨bf, 0, none⟩), .agg #[.int .i64 pl, .int .u8 99, .int .u8 c.toNat, .int .i64 n, .slice pa pn pc], xAgg u, xAgg v] w (ReV P w0 w be bw tx inp bl lv (backV l (nodV im inp f cb (d + 1) 0 (localsV cb [u, v]) s))) := by
 have HDW := hid (doW (w := w) (pl := pl) (op := 99) (n := n) (pn := pn) (pc := pc) (c := c) (pa := pa) (u := u) (v := v))
 rw [show ((99 : Nat) : Int) = 99 from rfl] at HDW
 obtain ⟨a0, _, _, _, _, _, _, hbf⟩ := hF.cells
 have e1 := h.ev.c1
 have hel := h.ev.lt
 have HC := hid HC'
 have HH := hid h
 have HFr := hid hF
 clear h hF HC'
 unfold xAgg at *
 go_enter Tryz.func208, Tryz.ntmps208
 go_wp2_with fail
 revert HDW
 generalize ((((w.alloc (.cells #[.int .i64 pl, .int .u8 99, .int .u8 c.toNat, .int .i64 n, .slice pa pn pc] 219)).alloc (.cells #[.int .i32 (xN u), .int .i64 (xO u)] 168)).alloc (.cells #[.int .i32 (xN v), .int .i64 (xO v)] 168)).alloc (.cells #[.int .i32 0, .int .i64 0] 168)) = W
 intro HDW
 have hD := HDW.out
 obtain ⟨i0, i1, i2, i3, i4⟩ := hD.item
 obtain ⟨v0, v1, v2, v3⟩ := hD.vals
 have hsz := hD.sz
 have hN := hD.nb
 have e1W := (hN.but.cell (p := ⟨be, 1, none⟩) hel (fun h => h)).trans e1
 have a0W := (hN.but.cell (p := ⟨bf, 0, none⟩) hbf (fun h => h)).trans a0
 have hrX : ResX W (w.heap.size + 1 + 1 + 1) := ⟨0, 0, hD.b3⟩
 clear HDW e1 a0 i0 i1 i2 i4 v2 v3
 have hS0 : But (fun _ => False) W W.drew := But.drew _ _
 have m0 : w.heap.size < W.heap.size := by omega
 have m1 : w.heap.size + 1 < W.heap.size := by omega
 have m2 : be < W.heap.size := by omega
 have m3 : bf < W.heap.size := by omega
 refine wpTx_begin (But (fun _ => False) W) 11 (by kernel_rfl) ?_
 have fSA := hid (fun wS (h : (But (fun _ => False) W) wS) => (And.intro ((h.cell (p := ⟨be, 1, none⟩) m2 (fun h => h)).trans e1W) (And.intro ((h.cell (p := ⟨bf, 0, none⟩) m3 (fun h => h)).trans a0W) (And.intro ((h.cell (p := ⟨w.heap.size, 3, none⟩) m0 (fun h => h)).trans i3) (And.intro ((h.cell (p := ⟨w.heap.size + 1, 0, none⟩) m1 (fun h => h)).trans v0) ((h.cell (p := ⟨w.heap.size + 1, 1, none⟩) m1 (fun h => h)).trans v1))))))
 iterate 11 (refine wpTx_takeT (v := ?_) rfl (by kernel_rfl) (fun _ _ _ h => h) rfl hS0 ?_ ?_; rotate_left; (focus (intro wS h; obtain ⟨q0, q1, q2, q3, q4⟩ := fSA.out wS h; clear h; go_simp; try rfl)); dsimp only [Act.put]; try simp only [puts])
 clear fSA
 refine wpTx_step rfl (by kernel_rfl) ?_
 intro KS hKS
 go_simp
 refine (HC.out _ (hN.but.trans hS0)).mono ?_
 rintro en w1 ⟨hB1, rfl⟩
 refine hKS.out _ _ (fun h => absurd h (by decide)) ?_
 clear hKS KS HC
 iterate 5 (refine wpTx_takeW (v := ?_) rfl (by kernel_rfl) (fun _ _ _ h => h) rfl ?_ ?_; rotate_left; (focus (intro wS; go_simp; try rfl)); dsimp only [Act.put]; try simp only [puts])
 refine wpTx_done rfl (by kernel_rfl) ?_
 have hBW1 := hS0.trans hB1
 clear hS0 hB1 i3 v0 v1 e1W
 have hh1 := (HH.out.grown hN).new hBW1
 have hFr1 := (HFr.out.grown hN).but (hBW1.mono (fun _ _ h => h.elim))
 have HNF := hid (newFrame_any hh1 im hT q (d + 1) cb hq hlo (by omega))
 have a0W1 := (hBW1.cell (p := ⟨bf, 0, none⟩) m3 (fun h => h)).trans a0W
 have m31 : bf < w1.heap.size := Nat.lt_of_lt_of_le m3 hBW1.size
 have hdI : (d : Int) < 12 := by omega
 rw [show ((d + 1 : Nat) : Int) = (d : Int) + 1 from by simp] at HNF
 clear a0W
 go_wp2_with fail
 refine HNF.out.mono ?_
 rintro en w2 ⟨bf2, bl2, lv2, X2, vl2, vi2, rfl, hB2, hFB, hBF, hlb, hlo2, hbl2, hbf2⟩
 have h2 := hh1.enter (l' := cb.locals.map plainV) hB2 hlb (by simpa using hlo2) hbl2
 have h3 := h2.add hFB
 obtain ⟨P2, hP2⟩ : ∃ P2 : Nat → Prop, (fun j => (PQ P w W j ∨ LocP bl lv j) ∨ j = bf2) = P2 := ⟨_, rfl⟩
 rw [hP2] at h3
 have p1 : ∀ k, PQ P w W k ∨ LocP bl lv k → P2 k := fun k hk => by rw [← hP2]; exact Or.inl hk
 have p2 : P2 bf2 := by rw [← hP2]; exact Or.inr rfl
 have g1 := ((hBW1.trans hB2).block _ m1 (fun h => h)).trans hD.b1
 have g2 := ((hBW1.trans hB2).block _ (by omega) (fun h => h)).trans hD.b2
 have pg1 : P2 (w.heap.size + 1) := p1 _ (Or.inl (Or.inr ⟨by omega, m1⟩))
 have pg2 : P2 (w.heap.size + 1 + 1) := p1 _ (Or.inl (Or.inr ⟨by omega, by omega⟩))
 have hFS : FrS P2 w0 w2 im cb bf2 (d + 1) X2 vl2 vi2 bl2 := ⟨hFB, p2, hBF⟩
 have HQ := hid (And.intro hh1 (And.intro hB2 hBW1))
 clear h2 hh1 hFr1 HNF a0W1 m31 hP2 hFB hBF hlb hlo2 hbl2 hbf2 HFr hD hq hB2 hBW1
 have HS := hid (fun X (hX : But (fun _ => False) w2 X) => set_any (h3.new hX) 0 u (by simp; omega))
 obtain ⟨_, _, _, _, _, _, y6, y7⟩ := hFS.cells
 obtain ⟨x0, x1, x2⟩ : w2.cell? ⟨w.heap.size + 1, 0, none⟩ = some (.int .i32 (xN u)) ∧ w2.cell? ⟨w.heap.size + 1, 1, none⟩ = some (.int .i64 (xO u)) ∧ w.heap.size + 1 < w2.heap.size := ⟨by rw [cell_of_row w2 _ 0 _ _ (0, 0) g1]; rfl, by rw [cell_of_row w2 _ 1 _ _ (0, 0) g1]; rfl, lt_of_block g1⟩
 unfold xAgg at HS
 clear h3
 go_wp2_with fail
 have hS0 : But (fun _ => False) w2 w2.drew := But.drew _ _
 refine wpTx_begin (But (fun _ => False) w2) 5 (by kernel_rfl) ?_
 have fSB := hid (fun wS (h : (But (fun _ => False) w2) wS) => (And.intro ((h.cell (p := ⟨bf2, 6, none⟩) y7 (fun h => h)).trans y6) (And.intro ((h.cell (p := ⟨w.heap.size + 1, 0, none⟩) x2 (fun h => h)).trans x0) ((h.cell (p := ⟨w.heap.size + 1, 1, none⟩) x2 (fun h => h)).trans x1))))
 iterate 5 (refine wpTx_takeT (v := ?_) rfl (by kernel_rfl) (fun _ _ _ h => h) rfl hS0 ?_ ?_; rotate_left; (focus (intro wS h; obtain ⟨q0, q1, q2⟩ := fSB.out wS h; clear h; go_simp; try rfl)); dsimp only [Act.put]; try simp only [puts])
 clear fSB
 refine wpTx_step rfl (by kernel_rfl) ?_
 intro KS hKS
 go_simp
 refine (HS.out _ hS0).mono ?_
 rintro en w3 ⟨rfl, hB3, h3⟩
 refine hKS.out _ _ (fun h => absurd h (by decide)) ?_
 clear hKS KS HS
 refine wpTx_done rfl (by kernel_rfl) ?_
 have hB3' : But (FrQ P2 w0) w2 w3 := (hS0.mono (fun _ _ h => h.elim)).trans hB3
 have hFS3 := hFS.but hB3'
 have g3 := (hB3'.block _ (lt_of_block g2) (fun h => h.2 pg2)).trans g2
 clear hS0 hB3 g1 g2 x0 x1 x2 y6 y7 hFS
 have HS := hid (fun X (hX : But (fun _ => False) w3 X) => set_any (h3.new hX) 1 v (by simp; omega))
 obtain ⟨_, _, _, _, _, _, y6, y7⟩ := hFS3.cells
 obtain ⟨x0, x1, x2⟩ : w3.cell? ⟨w.heap.size + 1 + 1, 0, none⟩ = some (.int .i32 (xN v)) ∧ w3.cell? ⟨w.heap.size + 1 + 1, 1, none⟩ = some (.int .i64 (xO v)) ∧ w.heap.size + 1 + 1 < w3.heap.size := ⟨by rw [cell_of_row w3 _ 0 _ _ (0, 0) g3]; rfl, by rw [cell_of_row w3 _ 1 _ _ (0, 0) g3]; rfl, lt_of_block g3⟩
 unfold xAgg at HS
 clear h3
 go_wp2_with fail
 have hS0 : But (fun _ => False) w3 w3.drew := But.drew _ _
 refine wpTx_begin (But (fun _ => False) w3) 5 (by kernel_rfl) ?_
 have fSC := hid (fun wS (h : (But (fun _ => False) w3) wS) => (And.intro ((h.cell (p := ⟨bf2, 6, none⟩) y7 (fun h => h)).trans y6) (And.intro ((h.cell (p := ⟨w.heap.size + 1 + 1, 0, none⟩) x2 (fun h => h)).trans x0) ((h.cell (p := ⟨w.heap.size + 1 + 1, 1, none⟩) x2 (fun h => h)).trans x1))))
 iterate 5 (refine wpTx_takeT (v := ?_) rfl (by kernel_rfl) (fun _ _ _ h => h) rfl hS0 ?_ ?_; rotate_left; (focus (intro wS h; obtain ⟨q0, q1, q2⟩ := fSC.out wS h; clear h; go_simp; try rfl)); dsimp only [Act.put]; try simp only [puts])
 clear fSC
 refine wpTx_step rfl (by kernel_rfl) ?_
 intro KS hKS
 go_simp
 refine (HS.out _ hS0).mono ?_
 rintro en w4 ⟨rfl, hB4, h4⟩
 refine hKS.out _ _ (fun h => absurd h (by decide)) ?_
 clear hKS KS HS
 refine wpTx_done rfl (by kernel_rfl) ?_
 have hB4' : But (FrQ P2 w0) w3 w4 := (hS0.mono (fun _ _ h => h.elim)).trans hB4
 have hFS4 := hFS3.but hB4'
 rw [localsV_set hl2] at h4
 have HC := hid (IH cb (d + 1) 0 _ s t F B P2 w4 bl2 lv2 vo vb gs fv bf2 X2 vl2 vi2 hbm (by omega) hty hLT hs hsf h4 hFS4)
 clear hS0 hB4 g3 x0 x1 x2 y6 y7 hFS3 hFS4 h4
 go_wp2_with fail
 refine HC.out.mono ?_
 intro en w5 hre
 have hre2 : ReV (PQ P w W) w0 W be bw tx inp bl lv (backV l (nodV im inp f cb (d + 1) 0 (localsV cb [u, v]) s)) en w5 := by
  obtain ⟨hh1, hB2, hBW1⟩ := HQ.out
  obtain ⟨hB5, vo5, vb5, gs5, fv5, hre⟩ := hre
  have hBB : But (FrQ P2 w0) w1 w5 := (((hB2.mono (fun _ _ h => h.elim)).trans hB3').trans hB4').trans hB5
  have hBP : But (FrQ (PQ P w W) w0) W w5 := (hBW1.mono (fun _ _ h => h.elim)).trans (hBB.mono (fun k _ hf => ⟨hf.1, fun hp => hf.2 (p1 k (Or.inl hp))⟩))
  refine ⟨hBP, vo5, vb5, gs5, fv5, ?_⟩
  cases hn : nodV im inp f cb (d + 1) 0 (localsV cb [u, v]) s with
  | ok r l5 s5 =>
   rw [hn] at hre
   exact ⟨hre.1, hh1.leave hre.2 hBB p1⟩
  | bad e o =>
   rw [hn] at hre
   obtain ⟨a1, s5, l5, a2, a3⟩ := hre
   exact ⟨a1, s5, l, a2, hh1.leave a3 hBB p1⟩
 obtain ⟨K, N, e, rfl, hfin⟩ := ReV.pass hN HH.out.old.size hre2
 obtain ⟨hr1, hfi⟩ := hfin (w.heap.size + 1 + 1 + 1) (by omega) hrX
 obtain ⟨K9, N9, r0, r1, z0, z1, hrl⟩ := hr1.parts
 have HF := hid hfi
 clear hfi hfin hre hre2 HC HQ hB3' hB4' IH hT hs hLT hty
 go_wp2_with fail
 exact retX Tryz.results208 rfl rfl rfl (hr1.put _ _) HF.out
end
end Go.Proofs.YtpfkkmacakjmbaaGreatDoor
