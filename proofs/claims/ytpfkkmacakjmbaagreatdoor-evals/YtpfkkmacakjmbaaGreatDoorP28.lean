import Derived.Test.YtpfkkmacakjmbaaGreatDoorP15
import Derived.Test.YtpfkkmacakjmbaaGreatDoorP27
set_option maxRecDepth 100000
set_option maxHeartbeats 6400000
namespace Go.Proofs.YtpfkkmacakjmbaaGreatDoor
open Go Go.RowKit Sp
set_option linter.unusedSimpArgs false
set_option linter.unusedVariables false
attribute [local go_sem ↓] Go.wp_at_zero Go.wp_at_succ
theorem retX1 {fn : Func} {Rr : Ending → World → Prop} {a : Act} {w : World} {c r : Nat} {K N : Int} (hf : fn.results = #[.cell c 168]) (hd : a.defers = []) (hc : a.tmps.getD c undef = .pointer (some ⟨r, 0, none⟩))
  (h0 : w.heap[r]? = some (.cells #[.int .i32 K, .int .i64 N] 168)) (hR : Rr (.returned (.agg #[.int .i32 K, .int .i64 N])) w) : bodyPost Tryz.prog fn Rr .ret a w := by
 have r0 : w.cell? ⟨r, 0, none⟩ = some (.int .i32 K) := by rw [cell_of_row w r 0 _ _ (0, 0) h0]; rfl
 have r1 : w.cell? ⟨r, 1, none⟩ = some (.int .i64 N) := by rw [cell_of_row w r 1 _ _ (0, 0) h0]; rfl
 refine bodyPost_ret (v := .agg #[.int .i32 K, .int .i64 N]) ?_ hd hR
 have hc' : a.tmps[c]?.getD undef = .pointer (some ⟨r, 0, none⟩) := by simpa using hc
 simp [results, hf, hc', go_sem, r0, r1]
section
variable {P : Nat → Prop} {w0 w : World} {be bw tx bl : Nat} {inp : ByteArray} {s : Ev} {lv vo vb : Value} {l : List V} {gs : List Nat} {fv : List Value}
theorem get_any (h : StQ P w0 w be bw tx inp s bl lv l vo vb gs fv) (j : Nat) (u : V) (hu : l[j]? = some u) :
  Calls Tryz.prog 196 #[.pointer (some ⟨bl, 0, none⟩), .int .i64 j] w fun en w' => en = .returned (xAgg u) ∧ But (fun _ => False) w w' := by
 have hj := (List.getElem?_eq_some_iff.1 hu).1
 obtain ⟨al, capl, rfl⟩ := owns_len h.lo
 obtain ⟨g, rfl, hg1, hg2, hcell⟩ := owns_two h.lo (by omega)
 have q0 : w.cell? ⟨g, j * 2, none⟩ = some (.int .i32 (xN u)) := hcell _ _ (xvalCells_at (k := 0) hu (by omega))
 have q1 : w.cell? ⟨g, j * 2 + 1, none⟩ = some (.int .i64 (xO u)) := hcell _ _ (xvalCells_at (k := 1) hu (by omega))
 have hb := h.lb
 have b0 : w.cell? ⟨bl, 0, none⟩ = some (.slice (some ⟨g, 0, none⟩) l.length capl) := by rw [cell_of_row w bl 0 _ _ (0, 0) hb]; rfl
 have hbl := lt_of_block hb
 have hjI : ¬ ((l.length : Int) ≤ (j : Int)) := by omega
 have hjJ : ((j : Int)) < (l.length : Int) := by omega
 have hj0 : ¬ ((j : Int) < 0) := by omega
 clear hcell hu hb
 generalize l.length = nl at *
 go_enter Tryz.func196, Tryz.ntmps196
 go_wp2_with fail
 exact retX1 Tryz.results196 rfl rfl (heap_alloc_at rfl _) ⟨rfl, But.alloc _ _ _⟩
theorem set_any (h : StQ P w0 w be bw tx inp s bl lv l vo vb gs fv) (j : Nat) (u : V) (hj : j < l.length) :
  Calls Tryz.prog 194 #[.pointer (some ⟨bl, 0, none⟩), .int .i64 j, xAgg u] w fun en w' => en = .returned (.tuple #[]) ∧ But (fun k => w0.heap.size ≤ k ∧ ¬ P k) w w' ∧ StQ P w0 w' be bw tx inp s bl lv (l.set j u) vo vb gs fv := by
 unfold xAgg
 obtain ⟨al, capl, rfl⟩ := owns_len h.lo
 obtain ⟨g, rfl, hg1, hg2, hcell⟩ := owns_two h.lo (by omega)
 obtain ⟨u', hu⟩ : ∃ u', l[j]? = some u' := ⟨_, List.getElem?_eq_getElem hj⟩
 have q0 : w.cell? ⟨g, j * 2, none⟩ = some (.int .i32 (xN u')) := hcell _ _ (xvalCells_at (k := 0) hu (by omega))
 have q1 : w.cell? ⟨g, j * 2 + 1, none⟩ = some (.int .i64 (xO u')) := hcell _ _ (xvalCells_at (k := 1) hu (by omega))
 obtain ⟨cur, hcur⟩ := owns_type h.lo (g := g) rfl
 have z0 := frozen_of_row w g (j * 2) _ _ hcur
 have z1 := frozen_of_row w g (j * 2 + 1) _ _ hcur
 have hb := h.lb
 have b0 : w.cell? ⟨bl, 0, none⟩ = some (.slice (some ⟨g, 0, none⟩) l.length capl) := by rw [cell_of_row w bl 0 _ _ (0, 0) hb]; rfl
 have hbl := lt_of_block hb
 have hfr := (h.k6 (g := g) rfl)
 have hjJ : ((j : Int)) < (l.length : Int) := by omega
 have hj0 : 0 ≤ (j : Int) := by omega
 clear hcell hu hb hcur
 generalize l.length = nl at *
 go_enter Tryz.func194, Tryz.ntmps194
 go_wp2_with fail
 have hBW : But (fun _ => False) w (w.alloc (.cells #[.int .i32 (xN u), .int .i64 (xO u)] 168)) := But.alloc _ _ _
 have hgW := heap_alloc_new w (.cells #[.int .i32 (xN u), .int .i64 (xO u)] 168)
 revert hBW hgW
 generalize (w.alloc (.cells #[.int .i32 (xN u), .int .i64 (xO u)] 168)) = W
 intro hBW hgW
 have hS0 : But (fun _ => False) W W.drew := But.drew _ _
 have y0 : W.cell? ⟨w.heap.size, 0, none⟩ = some (.int .i32 (xN u)) := by rw [cell_of_row W _ 0 _ _ (0, 0) hgW]; rfl
 have y1 : W.cell? ⟨w.heap.size, 1, none⟩ = some (.int .i64 (xO u)) := by rw [cell_of_row W _ 1 _ _ (0, 0) hgW]; rfl
 have b1 := (hBW.cell (p := ⟨bl, 0, none⟩) hbl (fun h => h)).trans b0
 have m1 := lt_of_block hgW
 have m2 : bl < W.heap.size := by omega
 have hBd := hBW.trans hS0
 have p0 := (hBd.cell (p := ⟨g, j * 2, none⟩) hg1 (fun h => h)).trans q0
 have p1 := (hBd.cell (p := ⟨g, j * 2 + 1, none⟩) hg1 (fun h => h)).trans q1
 have p2 := (hBd.frozen (p := ⟨g, j * 2, none⟩) hg1 (fun h => h)).trans z0
 have p3 := (hBd.frozen (p := ⟨g, j * 2 + 1, none⟩) hg1 (fun h => h)).trans z1
 have HP := hid (And.intro p0 (And.intro p1 (And.intro p2 p3)))
 clear p0 p1 p2 p3 q0 q1 z0 z1 b0
 refine wpTx_begin (But (fun _ => False) W) 7 (by kernel_rfl) ?_
 have fSA := hid (fun wS (h : (But (fun _ => False) W) wS) => (And.intro ((h.cell (p := ⟨bl, 0, none⟩) m2 (fun h => h)).trans b1) (And.intro ((h.cell (p := ⟨w.heap.size, 0, none⟩) m1 (fun h => h)).trans y0) ((h.cell (p := ⟨w.heap.size, 1, none⟩) m1 (fun h => h)).trans y1))))
 iterate 7 (refine wpTx_take (v := ?_) rfl (by kernel_rfl) (fun _ _ _ h => h) rfl hS0 ?_ ?_; rotate_left; (focus (intro wS h; obtain ⟨q0, q1, q2⟩ := fSA.out wS h; clear h; go_simp; try rfl)); dsimp only [Act.put]; try simp only [puts])
 try clear fSA
 obtain ⟨p0, p1, p2, p3⟩ := HP.out
 have HS := hid (fun X (hX : But (fun _ => False) w X) => (h.new hX).setL (g := g) rfl j u)
 clear y0 y1 b1 hS0 HP
 generalize W.drew = wd at *
 refine wpTx_step rfl (by kernel_rfl) ?_
 intro KS hKS
 go_simp
 refine hKS.out _ _ (fun h => absurd h (by decide)) ?_
 clear hKS KS
 refine wpTx_done rfl (by kernel_rfl) ?_
 go_end0
 exact ⟨rfl, (hBd.mono (fun _ _ h => h.elim)).trans ((But.setCell wd (a := ⟨g, j * 2, none⟩) (F := fun k => w0.heap.size ≤ k ∧ ¬ P k) hfr _).trans (But.setCell _ (a := ⟨g, j * 2 + 1, none⟩) hfr _)), HS.out wd hBd⟩
/-- The object that a reference names. -/
theorem objectOf_any (h : StQ P w0 w be bw tx inp s bl lv l vo vb gs fv) (u : V) (hu : (∃ n, u = .i n) ∨ u = .z ∨ ∃ k, u = .o k ∧ k < s.heap.length) (h4 : s.heap.length ≤ 4000) :
  Calls Tryz.prog 245 #[.pointer (some ⟨bw, 0, none⟩), xAgg u] w fun en w' => But (fun _ => False) w w' ∧ en = .returned (.pointer (match u with | .o k => (gs[k]?).map (fun g => ⟨g, 0, none⟩) | _ => none)) := by
 unfold xAgg
 have hbl := h.wd.lt
 have hz : ∀ (hx : xO u = 0) (hm : ∀ k, u ≠ .o k), Calls Tryz.prog 245 #[.pointer (some ⟨bw, 0, none⟩), .agg #[.int .i32 (xN u), .int .i64 (xO u)]] w fun en w' => But (fun _ => False) w w' ∧ en = .returned (.pointer none) := fun hx hm => by
  rw [hx]
  clear hx hm hu h
  go_enter Tryz.func245, Tryz.ntmps245
  go_wp2_with fail
  go_quiet (fail)
  go_wp2_with fail
  go_ret
  exact ⟨(But.alloc _ _ _).trans (But.drewN _ _ _), rfl⟩
 rcases hu with ⟨n, rfl⟩ | rfl | ⟨k, rfl, hk⟩
 ·exact hz rfl (fun k h => by cases h)
 ·exact hz rfl (fun k h => by cases h)
 ·clear hz
  obtain ⟨o, g, v, h1, h2, h3, h4', h5⟩ := h.obj hk
  simp only [h2, Option.map_some, xN, xO]
  have c4 := h.wd.c4
  obtain ⟨ab, capb, rfl⟩ := owns_len h.ob
  obtain ⟨gb, rfl, hg1, hg2, hcell⟩ := owns_two h.ob (by omega)
  have q0 : w.cell? ⟨gb, k, none⟩ = some (.pointer (some ⟨g, 0, none⟩)) := hcell _ _ (by simp [ptrCells, h2])
  have hkI : ¬ ((k : Int) + 1 ≤ 0) := by omega
  have hkJ : ¬ ((s.heap.length : Int) < (k : Int) + 1) := by omega
  have hkK : (k : Int) < (s.heap.length : Int) := by omega
  clear hcell h1 h2 h3 h5
  generalize s.heap.length = nh at *
  have d1 : decide ((k : Int) + 1 ≤ 0) = false := decide_eq_false hkI
  have d2 : decide ((nh : Int) < (k : Int) + 1) = false := decide_eq_false hkJ
  have e4 : ∀ ob, (w.alloc ob).cell? ⟨bw, 4, none⟩ = some (.slice (some ⟨gb, 0, none⟩) nh capb) := fun ob => ((But.alloc (fun _ => False) w ob).cell (p := ⟨bw, 4, none⟩) hbl (fun h => h)).trans c4
  go_enter Tryz.func245, Tryz.ntmps245
  go_wp2_with fail
  go_quiet (fail)
  go_wp2_with fail
  have e5 : ∀ ob, (w.alloc ob).cell? ⟨gb, k, none⟩ = some (.pointer (some ⟨g, 0, none⟩)) := fun ob => ((But.alloc (fun _ => False) w ob).cell (p := ⟨gb, k, none⟩) hg1 (fun h => h)).trans q0
  have hwk := wrapI (k : Int) (by omega) (by omega)
  have hwk2 := wrapI ((k : Int) + 1 - 1) (by omega) (by omega)
  go_quiet (fail)
  go_wp2_with fail
  go_ret
  exact ⟨((But.alloc _ _ _).trans (But.drewN _ _ _)).trans (But.drewN _ _ _), rfl⟩
end
section
variable {P : Nat → Prop} {w0 w : World} {be bw tx bl : Nat} {inp : ByteArray} {s : Ev} {lv vo vb : Value} {l : List V} {gs : List Nat} {fv : List Value}
theorem objectOf_z (h : StQ P w0 w be bw tx inp s bl lv l vo vb gs fv) (h4 : s.heap.length ≤ 4000) :
  Calls Tryz.prog 245 #[.pointer (some ⟨bw, 0, none⟩), .agg #[.int .i32 0, .int .i64 0]] w fun en w' => But (fun _ => False) w w' ∧ en = .returned (.pointer none) := objectOf_any h .z (Or.inr (Or.inl rfl)) h4
theorem objectOf_o (h : StQ P w0 w be bw tx inp s bl lv l vo vb gs fv) (h4 : s.heap.length ≤ 4000) {k g : Nat} (hk : k < s.heap.length) (hg : gs[k]? = some g) :
  Calls Tryz.prog 245 #[.pointer (some ⟨bw, 0, none⟩), .agg #[.int .i32 0, .int .i64 ((k : Int) + 1)]] w fun en w' => But (fun _ => False) w w' ∧ en = .returned (.pointer (some ⟨g, 0, none⟩)) := by
 have := objectOf_any h (.o k) (Or.inr (Or.inr ⟨k, rfl, hk⟩)) h4
 simp only [hg, Option.map_some] at this
 exact this
theorem class_z (h : StQ P w0 w be bw tx inp s bl lv l vo vb gs fv) (h4 : s.heap.length ≤ 4000) :
  Calls Tryz.prog 228 #[.pointer (some ⟨bw, 0, none⟩), .agg #[.int .i32 0, .int .i64 0]] w fun en w' => But (fun _ => False) w w' ∧ en = .returned (.int .u8 45) := by
 have HO := hid (fun X (hX : But (fun _ => False) w X) => objectOf_z (h.new hX) h4)
 clear h
 go_enter Tryz.func228, Tryz.ntmps228
 go_wp2_with fail
 refine (HO.out _ (But.alloc _ _ _)).mono ?_
 rintro en w1 ⟨hB1, rfl⟩
 go_wp2_with fail
 go_ret
 exact ⟨(But.alloc _ _ _).trans hB1, rfl⟩
theorem class_o (h : StQ P w0 w be bw tx inp s bl lv l vo vb gs fv) (h4 : s.heap.length ≤ 4000) {k : Nat} {o : Ob} (hk : s.heap[k]? = some o) :
  Calls Tryz.prog 228 #[.pointer (some ⟨bw, 0, none⟩), .agg #[.int .i32 0, .int .i64 ((k : Int) + 1)]] w fun en w' => But (fun _ => False) w w' ∧ en = .returned (.int .u8 (65 + o.cls : Nat)) := by
 have hkl := (List.getElem?_eq_some_iff.1 hk).1
 obtain ⟨o', g, v, h1, h2, h3, h4', h5⟩ := h.obj hkl
 rw [hk] at h1
 cases h1
 have HO := hid (fun X (hX : But (fun _ => False) w X) => objectOf_o (h.new hX) h4 hkl h2)
 have hgl := lt_of_block h4'
 clear h hk h2 h3 h5
 go_enter Tryz.func228, Tryz.ntmps228
 go_wp2_with fail
 refine (HO.out _ (But.alloc _ _ _)).mono ?_
 rintro en w1 ⟨hB1, rfl⟩
 have hBw : But (fun _ => False) w w1 := (But.alloc _ _ _).trans hB1
 have hx := (hBw.block g hgl (fun h => h)).trans h4'
 have x0 : w1.cell? ⟨g, 0, none⟩ = some (.int .u8 (65 + o.cls : Nat)) := by rw [cell_of_row w1 _ 0 _ _ (0, 0) hx]; rfl
 clear HO hB1 h4'
 go_wp2_with fail
 go_ret
 exact ⟨hBw, rfl⟩
theorem field_z (h : StQ P w0 w be bw tx inp s bl lv l vo vb gs fv) (h4 : s.heap.length ≤ 4000) (j : Nat) :
  Calls Tryz.prog 237 #[.pointer (some ⟨bw, 0, none⟩), .agg #[.int .i32 0, .int .i64 0], .int .i64 j] w fun en w' => But (fun _ => False) w w' ∧ en = .returned (.tuple #[.agg #[.int .i32 0, .int .i64 0], .int .i64 2]) := by
 have HO := hid (fun X (hX : But (fun _ => False) w X) => objectOf_z (h.new hX) h4)
 clear h
 go_enter Tryz.func237, Tryz.ntmps237
 go_wp2_with fail
 refine (HO.out _ ((But.alloc _ _ _).trans (But.alloc _ _ _))).mono ?_
 rintro en w1 ⟨hB1, rfl⟩
 have hr1 : ResX w1 (w.heap.size + 1) := ResX.but ⟨0, 0, heap_alloc_at (by simp) _⟩ hB1 (fun h => h)
 have hBw : But (fun _ => False) w w1 := ((But.alloc _ _ _).trans (But.alloc _ _ _)).trans hB1
 obtain ⟨K9, N9, r0, r1, f0, f1, hrl⟩ := hr1.parts
 clear hB1 HO
 go_wp2_with fail
 exact retX Tryz.results237 rfl rfl rfl (hr1.put _ _) ⟨hBw.next (but_put _ _ _ _) (fun k hk e => by have e : k = w.heap.size + 1 := e; omega), rfl⟩
theorem field_o (h : StQ P w0 w be bw tx inp s bl lv l vo vb gs fv) (h4 : s.heap.length ≤ 4000) {k : Nat} {o : Ob} (hk : s.heap[k]? = some o) (j : Nat) (u : V) (hu : o.fs[j]? = some u) :
  Calls Tryz.prog 237 #[.pointer (some ⟨bw, 0, none⟩), .agg #[.int .i32 0, .int .i64 ((k : Int) + 1)], .int .i64 j] w fun en w' => But (fun _ => False) w w' ∧ en = .returned (.tuple #[xAgg u, .int .i64 0]) := by
 have hkl := (List.getElem?_eq_some_iff.1 hk).1
 have hjl := (List.getElem?_eq_some_iff.1 hu).1
 obtain ⟨o', g, v, h1, h2, h3, h4', h5⟩ := h.obj hkl
 rw [hk] at h1
 cases h1
 have HO := hid (fun X (hX : But (fun _ => False) w X) => objectOf_o (h.new hX) h4 hkl h2)
 have hgl := lt_of_block h4'
 obtain ⟨af, cf, rfl⟩ := owns_len h5
 obtain ⟨gf, rfl, hgf, hgf2, hcell⟩ := owns_two h5 (by omega)
 have q0 : w.cell? ⟨gf, j * 2, none⟩ = some (.int .i32 (xN u)) := hcell _ _ (xvalCells_at (k := 0) hu (by omega))
 have q1 : w.cell? ⟨gf, j * 2 + 1, none⟩ = some (.int .i64 (xO u)) := hcell _ _ (xvalCells_at (k := 1) hu (by omega))
 have hj0 : ¬ ((j : Int) < 0) := by omega
 have hjI : ¬ ((o.fs.length : Int) ≤ (j : Int)) := by omega
 have hjJ : (j : Int) < (o.fs.length : Int) := by omega
 clear h hk h2 h3 h5 hu hcell
 unfold xAgg
 generalize o.fs.length = nf at *
 go_enter Tryz.func237, Tryz.ntmps237
 go_wp2_with fail
 refine (HO.out _ ((But.alloc _ _ _).trans (But.alloc _ _ _))).mono ?_
 rintro en w1 ⟨hB1, rfl⟩
 have hr1 : ResX w1 (w.heap.size + 1) := ResX.but ⟨0, 0, heap_alloc_at (by simp) _⟩ hB1 (fun h => h)
 have hBw : But (fun _ => False) w w1 := ((But.alloc _ _ _).trans (But.alloc _ _ _)).trans hB1
 have hx := (hBw.block g hgl (fun h => h)).trans h4'
 have x1 : w1.cell? ⟨g, 1, none⟩ = some (.slice (some ⟨gf, 0, none⟩) nf cf) := by rw [cell_of_row w1 _ 1 _ _ (0, 0) hx]; rfl
 have p0 := (hBw.cell (p := ⟨gf, j * 2, none⟩) hgf (fun h => h)).trans q0
 have p1 := (hBw.cell (p := ⟨gf, j * 2 + 1, none⟩) hgf (fun h => h)).trans q1
 obtain ⟨K9, N9, r0, r1, f0, f1, hrl⟩ := hr1.parts
 clear hB1 HO q0 q1 h4' hx
 go_wp2_with fail
 exact retX Tryz.results237 rfl rfl rfl (hr1.put _ _) ⟨hBw.next (but_put _ _ _ _) (fun k hk e => by have e : k = w.heap.size + 1 := e; omega), rfl⟩
end
abbrev FrQ (P : Nat → Prop) (w0 : World) (k : Nat) : Prop := w0.heap.size ≤ k ∧ ¬ P k
section
variable {P : Nat → Prop} {w0 w : World} {be bw tx bl : Nat} {inp : ByteArray} {s : Ev} {lv vo vb : Value} {l : List V} {gs : List Nat} {fv : List Value}
theorem setField_z (h : StQ P w0 w be bw tx inp s bl lv l vo vb gs fv) (h4 : s.heap.length ≤ 4000) (j : Nat) (u : V) :
  Calls Tryz.prog 238 #[.pointer (some ⟨bw, 0, none⟩), .agg #[.int .i32 0, .int .i64 0], .int .i64 j, xAgg u] w fun en w' => But (fun _ => False) w w' ∧ en = .returned (.int .i64 2) := by
 have HO := hid (fun X (hX : But (fun _ => False) w X) => objectOf_z (h.new hX) h4)
 clear h
 unfold xAgg
 go_enter Tryz.func238, Tryz.ntmps238
 go_wp2_with fail
 refine (HO.out _ ((But.alloc _ _ _).trans (But.alloc _ _ _))).mono ?_
 rintro en w1 ⟨hB1, rfl⟩
 go_wp2_with fail
 go_ret
 exact ⟨((But.alloc _ _ _).trans (But.alloc _ _ _)).trans hB1, rfl⟩
theorem setField_o (h : StQ P w0 w be bw tx inp s bl lv l vo vb gs fv) (h4 : s.heap.length ≤ 4000) {k : Nat} {o : Ob} (hk : s.heap[k]? = some o) (j : Nat) (u : V) (hj : j < o.fs.length) :
  Calls Tryz.prog 238 #[.pointer (some ⟨bw, 0, none⟩), .agg #[.int .i32 0, .int .i64 ((k : Int) + 1)], .int .i64 j, xAgg u] w fun en w' => But (FrQ P w0) w w' ∧ en = .returned (.int .i64 0) ∧ StQ P w0 w' be bw tx inp (s.put k j u) bl lv l vo vb gs fv := by
 have hkl := (List.getElem?_eq_some_iff.1 hk).1
 obtain ⟨u', hu⟩ : ∃ u', o.fs[j]? = some u' := ⟨_, List.getElem?_eq_getElem hj⟩
 obtain ⟨o', g, v, h1, h2, h3, h4', h5⟩ := h.obj hkl
 rw [hk] at h1
 cases h1
 have HO := hid (fun X (hX : But (fun _ => False) w X) => objectOf_o (h.new hX) h4 hkl h2)
 have hgl := lt_of_block h4'
 obtain ⟨af, cf, rfl⟩ := owns_len h5
 obtain ⟨gf, rfl, hgf, hgf2, hcell⟩ := owns_two h5 (by omega)
 have q0 : w.cell? ⟨gf, j * 2, none⟩ = some (.int .i32 (xN u')) := hcell _ _ (xvalCells_at (k := 0) hu (by omega))
 have q1 : w.cell? ⟨gf, j * 2 + 1, none⟩ = some (.int .i64 (xO u')) := hcell _ _ (xvalCells_at (k := 1) hu (by omega))
 obtain ⟨cur, hcur⟩ := owns_type h5 (g := gf) rfl
 have z0 := frozen_of_row w gf (j * 2) _ _ hcur
 have z1 := frozen_of_row w gf (j * 2 + 1) _ _ hcur
 have hfr : FrQ P w0 gf := h.k8 (List.mem_of_getElem? h3) (g := gf) rfl
 have HS := hid (fun X (hX : But (fun _ => False) w X) => (h.new hX).setF hk h2 h3 (g := gf) rfl j u)
 have hj0 : 0 ≤ (j : Int) := by omega
 have hjJ : (j : Int) < (o.fs.length : Int) := by omega
 clear h hk h2 h3 h5 hu hcell hcur
 unfold xAgg
 generalize o.fs.length = nf at *
 go_enter Tryz.func238, Tryz.ntmps238
 go_wp2_with fail
 refine (HO.out _ ((But.alloc _ _ _).trans (But.alloc _ _ _))).mono ?_
 rintro en w1 ⟨hB1, rfl⟩
 have hBw : But (fun _ => False) w w1 := ((But.alloc _ _ _).trans (But.alloc _ _ _)).trans hB1
 have hgV := (hB1.block (w.heap.size + 1) (by simp) (fun h => h)).trans (heap_alloc_at (by simp) (.cells #[.int .i32 (xN u), .int .i64 (xO u)] 168))
 have hx := (hBw.block g hgl (fun h => h)).trans h4'
 have x1 : w1.cell? ⟨g, 1, none⟩ = some (.slice (some ⟨gf, 0, none⟩) nf cf) := by rw [cell_of_row w1 _ 1 _ _ (0, 0) hx]; rfl
 have v0 : w1.cell? ⟨w.heap.size + 1, 0, none⟩ = some (.int .i32 (xN u)) := by rw [cell_of_row w1 _ 0 _ _ (0, 0) hgV]; rfl
 have v1 : w1.cell? ⟨w.heap.size + 1, 1, none⟩ = some (.int .i64 (xO u)) := by rw [cell_of_row w1 _ 1 _ _ (0, 0) hgV]; rfl
 have m1 := lt_of_block hgV
 have m2 := lt_of_block hx
 have hgf1 := Nat.lt_of_lt_of_le hgf hBw.size
 have p0 := (hBw.cell (p := ⟨gf, j * 2, none⟩) hgf (fun h => h)).trans q0
 have p1 := (hBw.cell (p := ⟨gf, j * 2 + 1, none⟩) hgf (fun h => h)).trans q1
 have p2 := (hBw.frozen (p := ⟨gf, j * 2, none⟩) hgf (fun h => h)).trans z0
 have p3 := (hBw.frozen (p := ⟨gf, j * 2 + 1, none⟩) hgf (fun h => h)).trans z1
 clear hB1 HO q0 q1 z0 z1 h4' hx hgV
 go_wp2_with fail
 have HP := hid (And.intro p0 (And.intro p1 (And.intro p2 p3)))
 clear p0 p1 p2 p3
 have hS0 : But (fun _ => False) w1 w1.drew := But.drew _ _
 refine wpTx_begin (But (fun _ => False) w1) 7 (by kernel_rfl) ?_
 have fSA := hid (fun wS (h : (But (fun _ => False) w1) wS) => (And.intro ((h.cell (p := ⟨g, 1, none⟩) m2 (fun h => h)).trans x1) (And.intro ((h.cell (p := ⟨w.heap.size + 1, 0, none⟩) m1 (fun h => h)).trans v0) ((h.cell (p := ⟨w.heap.size + 1, 1, none⟩) m1 (fun h => h)).trans v1))))
 iterate 7 (refine wpTx_take (v := ?_) rfl (by kernel_rfl) (fun _ _ _ h => h) rfl hS0 ?_ ?_; rotate_left; (focus (intro wS h; obtain ⟨q0, q1, q2⟩ := fSA.out wS h; clear h; go_simp; try rfl)); dsimp only [Act.put]; try simp only [puts])
 try clear fSA
 obtain ⟨p0, p1, p2, p3⟩ := HP.out
 have t0 := (hS0.cell (p := ⟨gf, j * 2, none⟩) hgf1 (fun h => h)).trans p0
 have t1 := (hS0.cell (p := ⟨gf, j * 2 + 1, none⟩) hgf1 (fun h => h)).trans p1
 have t2 := (hS0.frozen (p := ⟨gf, j * 2, none⟩) hgf1 (fun h => h)).trans p2
 have t3 := (hS0.frozen (p := ⟨gf, j * 2 + 1, none⟩) hgf1 (fun h => h)).trans p3
 have hBd := hBw.trans hS0
 clear x1 v0 v1 hS0 HP p0 p1 p2 p3
 generalize w1.drew = wd at *
 refine wpTx_step rfl (by kernel_rfl) ?_
 intro KS hKS
 go_simp
 refine hKS.out _ _ (fun h => absurd h (by decide)) ?_
 clear hKS KS
 refine wpTx_done rfl (by kernel_rfl) ?_
 go_wp2_with fail
 go_ret
 exact ⟨(hBd.mono (fun _ _ h => h.elim)).trans ((But.setCell wd (a := ⟨gf, j * 2, none⟩) (F := FrQ P w0) hfr _).trans (But.setCell _ (a := ⟨gf, j * 2 + 1, none⟩) hfr _)), rfl, HS.out wd hBd⟩
theorem cast_z (h : StQ P w0 w be bw tx inp s bl lv l vo vb gs fv) (h4 : s.heap.length ≤ 4000) (c : UInt8) :
  Calls Tryz.prog 239 #[.pointer (some ⟨bw, 0, none⟩), .agg #[.int .i32 0, .int .i64 0], .int .u8 c.toNat] w fun en w' => But (fun _ => False) w w' ∧ en = .returned (.tuple #[.agg #[.int .i32 0, .int .i64 0], .int .i64 0]) := by
 have HO := hid (fun X (hX : But (fun _ => False) w X) => objectOf_z (h.new hX) h4)
 clear h
 go_enter Tryz.func239, Tryz.ntmps239
 go_wp2_with fail
 refine (HO.out _ ((But.alloc _ _ _).trans (But.alloc _ _ _))).mono ?_
 rintro en w1 ⟨hB1, rfl⟩
 have hgV := (hB1.block w.heap.size (by simp; omega) (fun h => h)).trans (((But.alloc (fun _ => False) _ _).block _ (by simp) (fun h => h)).trans (heap_alloc_new w (.cells #[.int .i32 0, .int .i64 0] 168)))
 have v0 : w1.cell? ⟨w.heap.size, 0, none⟩ = some (.int .i32 0) := by rw [cell_of_row w1 _ 0 _ _ (0, 0) hgV]; rfl
 have v1 : w1.cell? ⟨w.heap.size, 1, none⟩ = some (.int .i64 0) := by rw [cell_of_row w1 _ 1 _ _ (0, 0) hgV]; rfl
 have hr1 : ResX w1 (w.heap.size + 1) := ResX.but ⟨0, 0, heap_alloc_at (by simp) _⟩ hB1 (fun h => h)
 have hBw : But (fun _ => False) w w1 := ((But.alloc _ _ _).trans (But.alloc _ _ _)).trans hB1
 obtain ⟨K9, N9, r0, r1, f0, f1, hrl⟩ := hr1.parts
 have hl0 := lt_of_block hgV
 clear hB1 HO hgV
 go_wp2_with fail
 go_quiet (fail)
 go_wp2_with fail
 exact retX Tryz.results239 rfl rfl rfl ((hr1.but (But.drewN (fun _ => False) _ _) (fun h => h)).put _ _) ⟨(hBw.trans (But.drewN _ _ _)).next (but_put _ _ _ _) (fun k hk e => by have e : k = w.heap.size + 1 := e; omega), rfl⟩
theorem cast_o (h : StQ P w0 w be bw tx inp s bl lv l vo vb gs fv) (h4 : s.heap.length ≤ 4000) {k : Nat} {o : Ob} (hk : s.heap[k]? = some o) (cs : List XCls) (hn : cs.length ≤ 100) (hT : TxC w0 tx cs) (a c : UInt8) (ha : a.toNat = 65 + o.cls) :
  Calls Tryz.prog 239 #[.pointer (some ⟨bw, 0, none⟩), .agg #[.int .i32 0, .int .i64 ((k : Int) + 1)], .int .u8 c.toNat] w fun en w' => But (fun _ => False) w w' ∧ en = .returned (if comesX cs c cs.length a = true then .tuple #[.agg #[.int .i32 0, .int .i64 ((k : Int) + 1)], .int .i64 0] else .tuple #[.agg #[.int .i32 0, .int .i64 0], .int .i64 4]) := by
 have hkl := (List.getElem?_eq_some_iff.1 hk).1
 obtain ⟨o', g, v, h1, h2, h3, h4', h5⟩ := h.obj hkl
 rw [hk] at h1
 cases h1
 have HO := hid (fun X (hX : But (fun _ => False) w X) => objectOf_o (h.new hX) h4 hkl h2)
 have hgl := lt_of_block h4'
 have hbl := h.wd.lt
 have HK := hid h.wd
 have HC := hid (fun X (hX : But (fun _ => False) w X) => xcomes_any tx cs a c X hn (hT.but (h.old.trans hX)))
 obtain ⟨r, hr⟩ : ∃ r, comesX cs c cs.length a = r := ⟨_, rfl⟩
 rw [hr] at HC ⊢
 rw [← ha] at h4'
 clear h hk h2 h3 h5 hr ha
 go_enter Tryz.func239, Tryz.ntmps239
 go_wp2_with fail
 refine (HO.out _ ((But.alloc _ _ _).trans (But.alloc _ _ _))).mono ?_
 rintro en w1 ⟨hB1, rfl⟩
 have hgV := (hB1.block w.heap.size (by simp; omega) (fun h => h)).trans (((But.alloc (fun _ => False) _ _).block _ (by simp) (fun h => h)).trans (heap_alloc_new w (.cells #[.int .i32 0, .int .i64 ((k : Int) + 1)] 168)))
 have v0 : w1.cell? ⟨w.heap.size, 0, none⟩ = some (.int .i32 0) := by rw [cell_of_row w1 _ 0 _ _ (0, 0) hgV]; rfl
 have v1 : w1.cell? ⟨w.heap.size, 1, none⟩ = some (.int .i64 ((k : Int) + 1)) := by rw [cell_of_row w1 _ 1 _ _ (0, 0) hgV]; rfl
 have hr1 : ResX w1 (w.heap.size + 1) := ResX.but ⟨0, 0, heap_alloc_at (by simp) _⟩ hB1 (fun h => h)
 have hBw : But (fun _ => False) w w1 := ((But.alloc _ _ _).trans (But.alloc _ _ _)).trans hB1
 have hx := (hBw.block g hgl (fun h => h)).trans h4'
 have x0 : w1.cell? ⟨g, 0, none⟩ = some (.int .u8 a.toNat) := by rw [cell_of_row w1 _ 0 _ _ (0, 0) hx]; rfl
 have c0 := (HK.out.but hBw (fun h => h)).c0
 obtain ⟨K9, N9, r0, r1, f0, f1, hrl⟩ := hr1.parts
 have hl0 := lt_of_block hgV
 clear hB1 HO hgV HK hx h4'
 have HC2 := hid (fun n => HC.out (w1.drewN n) (hBw.trans (But.drewN _ _ _)))
 clear HC
 go_wp2_with fail
 go_quiet (exact Calls.quiet_of_same (HC2.out _))
 cases r with
 | true =>
  go_wp2_with fail
  exact retX Tryz.results239 rfl rfl rfl ((hr1.but (But.drewN (fun _ => False) _ _) (fun h => h)).put _ _) ⟨(hBw.trans (But.drewN _ _ _)).next (but_put _ _ _ _) (fun k hk e => by have e : k = w.heap.size + 1 := e; omega), rfl⟩
 | false =>
  go_wp2_with fail
  exact retX Tryz.results239 rfl rfl rfl ((hr1.but (But.drewN (fun _ => False) _ _) (fun h => h)).put _ _) ⟨(hBw.trans (But.drewN _ _ _)).next (but_put _ _ _ _) (fun k hk e => by have e : k = w.heap.size + 1 := e; omega), rfl⟩
end
theorem info_val : (Tryz.prog.info? 168).map (fun i => (i.zero, i.size, i.bytes)) = some (some (.agg #[.int .i32 0, .int .i64 0]), 2, 16) := by kernel_rfl
def zeroV (n : Nat) : List Value := (List.replicate n [Value.int .i32 0, .int .i64 0]).flatten
theorem made_val (n : Nat) : madeCells #[.int .i32 0, .int .i64 0] (n * 2) = (zeroV n).toArray := by
 apply Array.ext
 ·rw [size_madeCells]; simp [zeroV]
 ·intro k h1 h2
  rw [size_madeCells] at h1
  have hk : k < n * 2 := by simpa using h1
  have key : ∀ (n k : Nat), k < n * 2 → (zeroV n)[k]? = some (if k % 2 = 0 then Value.int .i32 0 else .int .i64 0) := by
   intro n
   induction n with
   | zero => intro k h; omega
   | succ n ih =>
    intro k h
    match k, h with
    | 0, _ => simp [zeroV, List.replicate_succ]
    | 1, _ => simp [zeroV, List.replicate_succ]
    | k + 2, h =>
     have := ih k (by omega)
     simp only [zeroV, List.replicate_succ, List.flatten_cons, List.cons_append, List.nil_append, List.getElem?_cons_succ] at this ⊢
     rw [this]
     simp [Nat.add_mod]
  have := key n k hk
  have h2' : (zeroV n)[k]? = some ((zeroV n).toArray[k]) := by simp
  rw [h2'] at this
  have e := Option.some.inj this
  rw [e]
  rcases Nat.mod_two_eq_zero_or_one k with hm | hm <;> simp [madeCells, hm]
theorem make_val (n : Nat) (hn : n ≤ 1000) (w : World) : (Instr.makeSlice 213 (.int .i64 (n : Int)) (.int .i64 (n : Int))).run Tryz.prog w = .ok (.slice (some ⟨w.heap.size, 0, none⟩) n n) (w.alloc (.cells (zeroV n).toArray 168)) := by
 have hinf := info_val
 cases hi : Tryz.prog.info? 168 with
 | none => rw [hi] at hinf; cases hinf
 | some i =>
  rw [hi] at hinf
  simp only [Option.map_some, Option.some.injEq, Prod.mk.injEq] at hinf
  obtain ⟨hz, hs, hb⟩ := hinf
  have := run_make (P := Tryz.prog) w 213 168 i _ (by kernel_rfl) hi hz .i64 .i64 n n (by omega) (by omega) (by rw [hb]; omega) (by omega)
  rw [this, hs]
  simp only [Int.toNat_natCast, Value.cells]
  rw [made_val]
theorem zero_plain (ts : List UInt8) : zeroV ts.length = xvalCells (ts.map plainV) := by
 induction ts with
 | nil => rfl
 | cons t ts ih =>
  obtain ⟨h1, h2⟩ := xplain t
  simp only [zeroV, xvalCells] at ih
  simp [zeroV, List.replicate_succ, xvalCells, xCells, h1, h2, ih]
theorem made_row {w : World} {g base : Nat} {ts : List UInt8} (hb : base ≤ g) (hg : w.heap[g]? = some (.cells (zeroV ts.length).toArray 168)) (hl : ts.length ≤ 1000) : w.ownsRow base 168 2 (.slice (some ⟨g, 0, none⟩) ts.length ts.length) ts.length (xvalCells (ts.map plainV)) := by
 have hz := zero_plain ts
 have hn : (zeroV ts.length).length = ts.length * 2 := by rw [hz, xvalCells_len]; simp
 refine ⟨by rw [xvalCells_len]; simp, Or.inr ⟨g, ts.length, (zeroV ts.length).toArray, rfl, hb, hg, Nat.le_refl _, by unfold maxLen; omega, by simpa using hn, ?_⟩⟩
 rw [← hz]
 simp only
 rw [List.take_of_length_le (by omega)]
section
variable {P : Nat → Prop} {w0 w : World} {be bw tx bl : Nat} {inp : ByteArray} {s : Ev} {lv vo vb : Value} {l : List V} {gs : List Nat} {fv : List Value}
theorem StQ.res {X : World} (h : StQ P w0 w be bw tx inp s bl lv l vo vb gs fv) (hB : But (fun _ => False) w X) {r : Nat} (hr : w.heap.size ≤ r) (a b : Value) : StQ P w0 ((X.setCell ⟨r, 0, none⟩ a).setCell ⟨r, 1, none⟩ b) be bw tx inp s bl lv l vo vb gs fv :=
 (h.new hB).but (but_put X r a b) (fun k e => by have e : k = r := e; have := h.old.size; omega) (fun k hk e => by have e : k = r := e; have := h.lt hk; omega) (fun k hk e => by have e : k = r := e; have := (h.pl k hk).1; omega)
theorem nextByte_any (h : StQ P w0 w be bw tx inp s bl lv l vo vb gs fv) (h40 : inp.size ≤ 40) :
  Calls Tryz.prog 232 #[.pointer (some ⟨bw, 0, none⟩)] w fun en w' => But (FrQ P w0) w w' ∧ en = .returned (xAgg (.i (nextV inp s.read))) ∧ StQ P w0 w' be bw tx inp { s with read := s.read + 1 } bl lv l vo vb gs fv := by
 unfold xAgg
 simp only [xN, xO]
 have hbl := h.wd.lt
 have c1 := h.wd.c1
 have c2 := h.wd.c2
 have z2 := h.wd.fz 2
 by_cases hr : s.read < inp.size
 ·have e : min s.read inp.size = s.read := by omega
  rw [e] at c2
  have d1 : decide ((s.read : Int) < 0) = false := decide_eq_false (by omega)
  have d2 : decide ((inp.size : Int) ≤ (s.read : Int)) = false := decide_eq_false (by omega)
  have hI : (s.read : Int) < (inp.size : Int) := by omega
  have hNV : nextV inp s.read = (inp[s.read].toNat : Int) := by unfold nextV; rw [dif_pos hr]
  rw [hNV]
  have HS := hid h
  have HH := hid h
  have hlt := inp[s.read].toNat_lt
  have hk2 := h.k2
  clear e hNV h
  go_enter Tryz.func232, Tryz.ntmps232
  go_wp2_with fail
  go_quiet (fail)
  go_wp2_with fail
  have hBX : But (fun _ => False) w ((w.alloc (.cells #[.int .i32 0, .int .i64 0] 168)).drewN nq) := (But.alloc _ _ _).trans (But.drewN _ _ _)
  have hr1 : ResX ((w.alloc (.cells #[.int .i32 0, .int .i64 0] 168)).drewN nq) w.heap.size := ⟨0, 0, heap_alloc_new _ _⟩
  revert hBX hr1
  generalize ((w.alloc (.cells #[.int .i32 0, .int .i64 0] 168)).drewN nq) = X
  intro hBX hr1
  have e1 := (hBX.cell (p := ⟨bw, 1, none⟩) hbl (fun h => h)).trans c1
  have e2 := (hBX.cell (p := ⟨bw, 2, none⟩) hbl (fun h => h)).trans c2
  have e3 := (hBX.frozen (p := ⟨bw, 2, none⟩) hbl (fun h => h)).trans z2
  have hblX := Nat.lt_of_lt_of_le hbl hBX.size
  clear nq
  go_quiet (fail)
  have hBY := hBX.trans (But.drewN (fun _ => False) X nq)
  have hr2 := hr1.but (But.drewN (fun _ => False) X nq) (fun h => h)
  have HS2 := hid ((HS.out.new hBY).readd (n := s.read + 1) (by omega))
  have q2 := (hBY.cell (p := ⟨bw, 2, none⟩) hbl (fun h => h)).trans c2
  have q3 := (hBY.frozen (p := ⟨bw, 2, none⟩) hbl (fun h => h)).trans z2
  clear e1 e2 e3 hr1 HS
  revert hBY hr2 HS2 q2 q3
  generalize X.drewN nq = Y
  intro hBY hr2 HS2 q2 q3
  have hblY := Nat.lt_of_lt_of_le hbl hBY.size
  obtain ⟨K9, N9, r0, r1, f0, f1, hrl⟩ := hr2.parts
  have hne : ¬ bw = w.heap.size := by omega
  have HS3 := HS2.out
  rw [show ((s.read + 1 : Nat) : Int) = (s.read : Int) + 1 from by simp] at HS3
  go_wp2_with fail
  have hBZ : But (FrQ P w0) w (Y.setCell ⟨bw, 2, none⟩ (.int .i64 ((s.read : Int) + 1))) := (hBY.mono (fun _ _ h => h.elim)).trans (But.setCell Y (a := ⟨bw, 2, none⟩) (F := FrQ P w0) hk2 _)
  exact retX1 Tryz.results232 rfl rfl ((hr2.but (But.setB _ _ _ _) (fun e => hne e.symm)).put _ _) ⟨hBZ.next (but_put _ _ _ _) (fun k hk e => by have e : k = w.heap.size := e; omega), rfl,
   HS3.but (but_put _ _ _ _) (fun k e => by have e : k = w.heap.size := e; have := HH.out.old.size; omega) (fun k hk e => by have e : k = w.heap.size := e; have := HH.out.lt hk; omega) (fun k hk e => by have e : k = w.heap.size := e; have := (HH.out.pl k hk).1; omega)⟩
 ·have e : min s.read inp.size = inp.size := by omega
  rw [e] at c2
  have d1 : decide ((inp.size : Int) < 0) = false := decide_eq_false (by omega)
  have d2 : decide ((inp.size : Int) ≤ (inp.size : Int)) = true := decide_eq_true (by omega)
  have hNV : nextV inp s.read = -1 := by unfold nextV; rw [dif_neg hr]
  rw [hNV]
  have HS := hid (h.unread (by omega))
  clear e hNV h
  go_enter Tryz.func232, Tryz.ntmps232
  go_wp2_with fail
  go_quiet (fail)
  go_wp2_with fail
  have hBX : But (fun _ => False) w ((w.alloc (.cells #[.int .i32 0, .int .i64 0] 168)).drewN nq) := (But.alloc _ _ _).trans (But.drewN _ _ _)
  have hr1 : ResX ((w.alloc (.cells #[.int .i32 0, .int .i64 0] 168)).drewN nq) w.heap.size := ⟨0, 0, heap_alloc_new _ _⟩
  exact retX1 Tryz.results232 rfl rfl (hr1.put _ _) ⟨(hBX.mono (fun _ _ h => h.elim)).next (but_put _ _ _ _) (fun k hk e => by have e : k = w.heap.size := e; omega), rfl, HS.out.res hBX (Nat.le_refl _) _ _⟩
theorem newLocals_any (b : UInt8) (m : Int) (a : UInt8) (lo : List UInt8) (al : Option Addr) (capl : Nat) (ai : Option Addr) (ni ci : Nat) (w : World) (hl : lo.length ≤ 5) :
  Calls Tryz.prog 138 #[.agg #[.int .u8 b.toNat, .int .i64 m, .int .u8 a.toNat, .slice al lo.length capl, .slice ai ni ci]] w fun en w' => ∃ (bl : Nat) (lv : Value), en = .returned (.pointer (some ⟨bl, 0, none⟩)) ∧ But (fun _ => False) w w' ∧ w'.heap[bl]? = some (.cells #[lv] 280) ∧ w'.ownsRow w.heap.size 168 2 lv lo.length (xvalCells (lo.map plainV)) ∧ w.heap.size ≤ bl := by
 have hmk := make_val lo.length (by omega)
 go_enter Tryz.func138, Tryz.ntmps138
 go_wp2_with fail
 go_ret
 refine ⟨w.heap.size + 1 + 1, .slice (some ⟨w.heap.size + 1, 0, none⟩) lo.length lo.length, rfl, ((But.alloc _ _ _).trans (But.alloc _ _ _)).trans (But.alloc _ _ _), heap_alloc_at (by simp) _, ?_, by omega⟩
 refine made_row (by omega) (((But.alloc (fun _ => False) _ _).block _ (by simp) (fun h => h)).trans (heap_alloc_at (by simp) _)) (by omega)
end
end Go.Proofs.YtpfkkmacakjmbaaGreatDoor
