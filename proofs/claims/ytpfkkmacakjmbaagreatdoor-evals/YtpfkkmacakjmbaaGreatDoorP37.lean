import Derived.Test.YtpfkkmacakjmbaaGreatDoorP36
import Derived.Test.YtpfkkmacakjmbaaGreatDoorP35
set_option maxRecDepth 100000
set_option maxHeartbeats 6400000
namespace Go.Proofs.YtpfkkmacakjmbaaGreatDoor
open Go Go.RowKit Sp
set_option linter.unusedSimpArgs false
set_option linter.unusedVariables false
section
variable {P : Nat → Prop} {w0 w w' : World} {be bw tx bl : Nat} {inp : ByteArray} {s : Ev} {lv vo vb : Value} {l : List V} {gs : List Nat} {fv : List Value}
structure Stand (P : Nat → Prop) (w0 w' : World) (be bw tx : Nat) (inp : ByteArray) (s : Ev) (bl : Nat) (lv : Value) (l : List V) (vo vb : Value) (gs : List Nat) (fv : List Value) (t : TypeId) : Prop where
 old : But (fun _ => False) w0 w'
 ev : t ≠ 164 → XeB w' be tx bw s.left
 wd : t ≠ 211 → XwB w' bw tx inp (min s.read inp.size : Nat) vo vb
 out : t ≠ 5 → w'.ownsRow w0.heap.size 5 1 vo s.out.length (Lib.byteCells s.out)
 ob : t ≠ 315 → w'.ownsRow w0.heap.size 315 1 vb s.heap.length (ptrCells gs)
 obj : t ≠ 318 → ∀ (k : Nat) o g v, s.heap[k]? = some o → gs[k]? = some g → fv[k]? = some v → XoB w' g (65 + o.cls) v
 fld : t ≠ 168 → ∀ (k : Nat) o g v, s.heap[k]? = some o → gs[k]? = some g → fv[k]? = some v → w'.ownsRow w0.heap.size 168 2 v o.fs.length (xvalCells o.fs)
 lb : t ≠ 280 → w'.heap[bl]? = some (.cells #[lv] 280)
 lo : t ≠ 168 → w'.ownsRow w0.heap.size 168 2 lv l.length (xvalCells l)
 pl : ∀ k, P k → k < w'.heap.size ∧ ∀ c fz, w'.heap[k]? ≠ some (.cells c 5 fz)
theorem StQ.stand (h : StQ P w0 w be bw tx inp s bl lv l vo vb gs fv) {g : Nat} {c : Array Value} {t : TypeId} {fr : Nat × Nat} (hg : w.heap[g]? = some (.cells c t fr)) (hg0 : w0.heap.size ≤ g) (hgp : ¬ P g) (hB : But (· = g) w w') : Stand P w0 w' be bw tx inp s bl lv l vo vb gs fv t := by
 refine ⟨h.old.next hB (fun k hk e => by have e : k = g := e; omega), fun ht => h.ev.but hB (off_type h.ev hg ht), fun ht => h.wd.but hB (off_type h.wd hg ht), fun ht => owns_but h.out hB (fun k hk e => owns_offE h.out hg (Ne.symm ht) (e ▸ hk)), fun ht => owns_but h.ob hB (fun k hk e => owns_offE h.ob hg (Ne.symm ht) (e ▸ hk)), fun ht k o q v a b d => ?_, fun ht k o q v a b d => ?_, fun ht => (hB.block bl (lt_of_block h.lb) (off_type h.lb hg ht)).trans h.lb, fun ht => owns_but h.lo hB (fun k hk e => owns_offE h.lo hg (Ne.symm ht) (e ▸ hk)), fun k hk => ?_⟩
 ·have x := (h.obs k o q v a b d).1
  exact (hB.block q (lt_of_block x) (off_type x hg ht)).trans x
 ·have y := (h.obs k o q v a b d).2
  exact owns_but y hB (fun j hj e => owns_offE y hg (Ne.symm ht) (e ▸ hj))
 ·obtain ⟨a, b⟩ := h.pl k hk
  refine ⟨Nat.lt_of_lt_of_le a hB.size, fun c fz e => ?_⟩
  rw [hB.block k a (fun e => hgp (e ▸ hk))] at e
  exact b c fz e
theorem StQ.fuel (h : StQ P w0 w be bw tx inp s bl lv l vo vb gs fv) (n : Nat) : StQ P w0 (w.setCell ⟨be, 2, none⟩ (.int .i64 n)) be bw tx inp { s with left := n } bl lv l vo vb gs fv := by
 have a := h.stand h.ev h.k1.1 h.k1.2 (But.setB w be 2 (.int .i64 n))
 exact ⟨a.old, h.ev.set2 _, a.wd (by decide), a.out (by decide), a.ob (by decide), h.lg, h.lf, fun k o g v x y z => ⟨a.obj (by decide) k o g v x y z, a.fld (by decide) k o g v x y z⟩, h.nd, a.lb (by decide), a.lo (by decide), h.own, a.pl, h.sl, h.sf⟩
theorem StQ.readd (h : StQ P w0 w be bw tx inp s bl lv l vo vb gs fv) {n : Nat} (hn : n = min (s.read + 1) inp.size) : StQ P w0 (w.setCell ⟨bw, 2, none⟩ (.int .i64 n)) be bw tx inp { s with read := s.read + 1 } bl lv l vo vb gs fv := by
 have a := h.stand h.wd h.k2.1 h.k2.2 (But.setB w bw 2 (.int .i64 n))
 refine ⟨a.old, a.ev (by decide), ?_, a.out (by decide), a.ob (by decide), h.lg, h.lf, fun k o g v x y z => ⟨a.obj (by decide) k o g v x y z, a.fld (by decide) k o g v x y z⟩, h.nd, a.lb (by decide), a.lo (by decide), h.own, a.pl, h.sl, h.sf⟩
 have := h.wd.set2 (n : Int)
 rw [hn] at this ⊢
 exact this
theorem StQ.unread (h : StQ P w0 w be bw tx inp s bl lv l vo vb gs fv) (hn : inp.size ≤ s.read) : StQ P w0 w be bw tx inp { s with read := s.read + 1 } bl lv l vo vb gs fv :=
 ⟨h.old, h.ev, by have := h.wd; rw [show min s.read inp.size = min (s.read + 1) inp.size from by omega] at this; exact this, h.out, h.ob, h.lg, h.lf, h.obs, h.nd, h.lb, h.lo, h.own, h.pl, h.sl, h.sf⟩
theorem StQ.setL (h : StQ P w0 w be bw tx inp s bl lv l vo vb gs fv) {g : Nat} (hg : lv.ownBlock = some g) (j : Nat) (u : V) : StQ P w0 ((w.setCell ⟨g, j * 2, none⟩ (.int .i32 (xN u))).setCell ⟨g, j * 2 + 1, none⟩ (.int .i64 (xO u))) be bw tx inp s bl lv (l.set j u) vo vb gs fv := by
 have hB : But (· = g) w ((w.setCell ⟨g, j * 2, none⟩ (.int .i32 (xN u))).setCell ⟨g, j * 2 + 1, none⟩ (.int .i64 (xO u))) := (But.setB _ _ _ _).trans (But.setB _ _ _ _)
 obtain ⟨cur, hcur⟩ := owns_type h.lo hg
 have a := h.stand hcur (h.k6 hg).1 (h.k6 hg).2 hB
 refine ⟨a.old, a.ev (by decide), a.wd (by decide), a.out (by decide), a.ob (by decide), h.lg, h.lf, fun k o q v x y z => ⟨a.obj (by decide) k o q v x y z, owns_but (h.obs k o q v x y z).2 hB (fun i hi e => h.sl v (List.mem_of_getElem? z) i hi (e ▸ hg))⟩, h.nd, a.lb (by decide), ?_, h.own, a.pl, h.sl, h.sf⟩
 rw [List.length_set]
 exact xowns_put u h.lo hg
theorem StQ.setF (h : StQ P w0 w be bw tx inp s bl lv l vo vb gs fv) {k g q : Nat} {o : Ob} {v : Value} (hk : s.heap[k]? = some o) (hq : gs[k]? = some q) (hv : fv[k]? = some v) (hg : v.ownBlock = some g) (j : Nat) (u : V) : StQ P w0 ((w.setCell ⟨g, j * 2, none⟩ (.int .i32 (xN u))).setCell ⟨g, j * 2 + 1, none⟩ (.int .i64 (xO u))) be bw tx inp (s.put k j u) bl lv l vo vb gs fv := by
 have hB : But (· = g) w ((w.setCell ⟨g, j * 2, none⟩ (.int .i32 (xN u))).setCell ⟨g, j * 2 + 1, none⟩ (.int .i64 (xO u))) := (But.setB _ _ _ _).trans (But.setB _ _ _ _)
 have hr := (h.obs k o q v hk hq hv).2
 have hm := List.mem_of_getElem? hv
 obtain ⟨cur, hcur⟩ := owns_type hr hg
 have a := h.stand hcur (h.k8 hm hg).1 (h.k8 hm hg).2 hB
 have e1 : (s.put k j u).heap = s.heap.set k ⟨o.cls, o.fs.set j u⟩ := by simp [Ev.put, (Ev.at hk).1, (Ev.at hk).2]
 refine ⟨a.old, a.ev (by decide), a.wd (by decide), a.out (by decide), ?_, by rw [e1]; simpa using h.lg, by rw [e1]; simpa using h.lf, ?_, h.nd, a.lb (by decide), owns_but h.lo hB (fun i hi e => h.sl v hm g hg (e ▸ hi)), h.own, a.pl, h.sl, h.sf⟩
 ·rw [e1, List.length_set]
  exact a.ob (by decide)
 ·intro i o' q' v' hi hqi hvi
  rw [e1, List.getElem?_set] at hi
  split at hi
  ·rename_i he
   subst he
   rw [hv] at hvi
   rw [hq] at hqi
   cases hvi
   cases hqi
   split at hi
   ·cases hi
    refine ⟨a.obj (by decide) k o q v hk hq hv, ?_⟩
    simp only [List.length_set]
    exact xowns_put u hr hg
   ·cases hi
  ·rename_i he
   exact ⟨a.obj (by decide) i o' q' v' hi hqi hvi, owns_but (h.obs i o' q' v' hi hqi hvi).2 hB (fun i' hi' e => he (h.sf k i v v' g hv hvi hg (e ▸ hi')))⟩
theorem StQ.tmp {F : Nat → Prop} (h : StQ P w0 w be bw tx inp s bl lv l vo vb gs fv) (hB : But F w w') (hF : ∀ k, F k → P k ∧ w0.heap.size ≤ k) (ht : ∀ k, F k → ∀ c fz, w'.heap[k]? ≠ some (.cells c 5 fz)) : StQ P w0 w' be bw tx inp s bl lv l vo vb gs fv := by
 have h1 : ∀ k, OwnQ be bw bl vo vb lv gs fv k → ¬ F k := fun k hk hf => (h.own k hk).2 (hF k hf).1
 have a := (h.less (Q := fun _ => False) (fun _ h => h.elim)).but hB (fun k hf => (hF k hf).2) h1 (fun _ h => h.elim)
 refine ⟨a.old, a.ev, a.wd, a.out, a.ob, a.lg, a.lf, a.obs, a.nd, a.lb, a.lo, h.own, fun k hk => ?_, a.sl, a.sf⟩
 obtain ⟨x, y⟩ := h.pl k hk
 refine ⟨Nat.lt_of_lt_of_le x hB.size, fun c fz e => ?_⟩
 by_cases hf : F k
 ·exact ht k hf c fz e
 ·rw [hB.block k x hf] at e
  exact y c fz e
end
end Go.Proofs.YtpfkkmacakjmbaaGreatDoor
namespace Go.Proofs.YtpfkkmacakjmbaaGreatDoor
open Go Go.RowKit Sp
set_option linter.unusedSimpArgs false
set_option linter.unusedVariables false
attribute [local go_sem ↓] Go.wp_at_zero Go.wp_at_succ
theorem retX1 {fn : Func} {Rr : Ending → World → Prop} {a : Act} {w : World} {c r : Nat} {K N : Int} (hf : fn.results = #[.cell c 168]) (hd : a.defers = []) (hc : a.tmps.getD c undef = .pointer (some ⟨r, 0, none⟩))
  (h0 : w.heap[r]? = some (.cells #[.int .i32 K, .int .i64 N] 168)) (hR : Rr (.returned (.agg #[.int .i32 K, .int .i64 N])) w) : bodyPost Tryz.prog fn Rr .ret a w := by
 have r0 : w.cell? ⟨r, 0, none⟩ = some (.int .i32 K) := by rw [cell_of_row w r 0 _ _ (0, 0) h0]; rfl
 have r1 : w.cell? ⟨r, 1, none⟩ = some (.int .i64 N) := by rw [cell_of_row w r 1 _ _ (0, 0) h0]; rfl
 refine bodyPost_ret (v := .agg #[.int .i32 K, .int .i64 N]) ?_ hd hR
 have hc' : a.tmps[c]?.getD undef = .pointer (some ⟨r, 0, none⟩) := by simpa using hc
 simp [results, hf, hc', go_sem, r0, r1]
section
variable {P : Nat → Prop} {w0 w : World} {be bw tx bl : Nat} {inp : ByteArray} {s : Ev} {lv vo vb : Value} {l : List V} {gs : List Nat} {fv : List Value}
theorem get_any (h : StQ P w0 w be bw tx inp s bl lv l vo vb gs fv) (j : Nat) (u : V) (hu : l[j]? = some u) :
  Calls Tryz.prog 196 #[.pointer (some ⟨bl, 0, none⟩), .int .i64 j] w fun en w' => en = .returned (xAgg u) ∧ But (fun _ => False) w w' := by
 have hj := (List.getElem?_eq_some_iff.1 hu).1
 obtain ⟨al, capl, rfl⟩ := owns_len h.lo
 obtain ⟨g, rfl, hg1, hg2, hcell⟩ := owns_two h.lo (by omega)
 have q0 : w.cell? ⟨g, j * 2, none⟩ = some (.int .i32 (xN u)) := hcell _ _ (xvalCells_at (k := 0) hu (by omega))
 have q1 : w.cell? ⟨g, j * 2 + 1, none⟩ = some (.int .i64 (xO u)) := hcell _ _ (xvalCells_at (k := 1) hu (by omega))
 have hb := h.lb
 have b0 : w.cell? ⟨bl, 0, none⟩ = some (.slice (some ⟨g, 0, none⟩) l.length capl) := by rw [cell_of_row w bl 0 _ _ (0, 0) hb]; rfl
 have hbl := lt_of_block hb
 have hjI : ¬ ((l.length : Int) ≤ (j : Int)) := by omega
 have hjJ : ((j : Int)) < (l.length : Int) := by omega
 have hj0 : ¬ ((j : Int) < 0) := by omega
 clear hcell hu hb
 generalize l.length = nl at *
 go_enter Tryz.func196, Tryz.ntmps196
 go_wp2_with fail
 exact retX1 Tryz.results196 rfl rfl (heap_alloc_at rfl _) ⟨rfl, But.alloc _ _ _⟩
theorem set_any (h : StQ P w0 w be bw tx inp s bl lv l vo vb gs fv) (j : Nat) (u : V) (hj : j < l.length) :
  Calls Tryz.prog 194 #[.pointer (some ⟨bl, 0, none⟩), .int .i64 j, xAgg u] w fun en w' => en = .returned (.tuple #[]) ∧ But (fun k => w0.heap.size ≤ k ∧ ¬ P k) w w' ∧ StQ P w0 w' be bw tx inp s bl lv (l.set j u) vo vb gs fv := by
 unfold xAgg
 obtain ⟨al, capl, rfl⟩ := owns_len h.lo
 obtain ⟨g, rfl, hg1, hg2, hcell⟩ := owns_two h.lo (by omega)
 obtain ⟨u', hu⟩ : ∃ u', l[j]? = some u' := ⟨_, List.getElem?_eq_getElem hj⟩
 have q0 : w.cell? ⟨g, j * 2, none⟩ = some (.int .i32 (xN u')) := hcell _ _ (xvalCells_at (k := 0) hu (by omega))
 have q1 : w.cell? ⟨g, j * 2 + 1, none⟩ = some (.int .i64 (xO u')) := hcell _ _ (xvalCells_at (k := 1) hu (by omega))
 obtain ⟨cur, hcur⟩ := owns_type h.lo (g := g) rfl
 have z0 := frozen_of_row w g (j * 2) _ _ hcur
 have z1 := frozen_of_row w g (j * 2 + 1) _ _ hcur
 have hb := h.lb
 have b0 : w.cell? ⟨bl, 0, none⟩ = some (.slice (some ⟨g, 0, none⟩) l.length capl) := by rw [cell_of_row w bl 0 _ _ (0, 0) hb]; rfl
 have hbl := lt_of_block hb
 have hfr := (h.k6 (g := g) rfl)
 have hjJ : ((j : Int)) < (l.length : Int) := by omega
 have hj0 : 0 ≤ (j : Int) := by omega
 clear hcell hu hb hcur
 generalize l.length = nl at *
 go_enter Tryz.func194, Tryz.ntmps194
 go_wp2_with fail
 have hBW : But (fun _ => False) w (w.alloc (.cells #[.int .i32 (xN u), .int .i64 (xO u)] 168)) := But.alloc _ _ _
 have hgW := heap_alloc_new w (.cells #[.int .i32 (xN u), .int .i64 (xO u)] 168)
 revert hBW hgW
 generalize (w.alloc (.cells #[.int .i32 (xN u), .int .i64 (xO u)] 168)) = W
 intro hBW hgW
 have hS0 : But (fun _ => False) W W.drew := But.drew _ _
 have y0 : W.cell? ⟨w.heap.size, 0, none⟩ = some (.int .i32 (xN u)) := by rw [cell_of_row W _ 0 _ _ (0, 0) hgW]; rfl
 have y1 : W.cell? ⟨w.heap.size, 1, none⟩ = some (.int .i64 (xO u)) := by rw [cell_of_row W _ 1 _ _ (0, 0) hgW]; rfl
 have b1 := (hBW.cell (p := ⟨bl, 0, none⟩) hbl (fun h => h)).trans b0
 have m1 := lt_of_block hgW
 have m2 : bl < W.heap.size := by omega
 have hBd := hBW.trans hS0
 have p0 := (hBd.cell (p := ⟨g, j * 2, none⟩) hg1 (fun h => h)).trans q0
 have p1 := (hBd.cell (p := ⟨g, j * 2 + 1, none⟩) hg1 (fun h => h)).trans q1
 have p2 := (hBd.frozen (p := ⟨g, j * 2, none⟩) hg1 (fun h => h)).trans z0
 have p3 := (hBd.frozen (p := ⟨g, j * 2 + 1, none⟩) hg1 (fun h => h)).trans z1
 have HP := hid (And.intro p0 (And.intro p1 (And.intro p2 p3)))
 clear p0 p1 p2 p3 q0 q1 z0 z1 b0
 refine wpTx_begin (But (fun _ => False) W) 7 (by kernel_rfl) ?_
 have fSA := hid (fun wS (h : (But (fun _ => False) W) wS) => (And.intro ((h.cell (p := ⟨bl, 0, none⟩) m2 (fun h => h)).trans b1) (And.intro ((h.cell (p := ⟨w.heap.size, 0, none⟩) m1 (fun h => h)).trans y0) ((h.cell (p := ⟨w.heap.size, 1, none⟩) m1 (fun h => h)).trans y1))))
 iterate 7 (refine wpTx_take (v := ?_) rfl (by kernel_rfl) (fun _ _ _ h => h) rfl hS0 ?_ ?_; rotate_left; (focus (intro wS h; obtain ⟨q0, q1, q2⟩ := fSA.out wS h; clear h; go_simp; try rfl)); dsimp only [Act.put]; try simp only [puts])
 try clear fSA
 obtain ⟨p0, p1, p2, p3⟩ := HP.out
 have HS := hid (fun X (hX : But (fun _ => False) w X) => (h.new hX).setL (g := g) rfl j u)
 clear y0 y1 b1 hS0 HP
 generalize W.drew = wd at *
 refine wpTx_step rfl (by kernel_rfl) ?_
 intro KS hKS
 go_simp
 refine hKS.out _ _ (fun h => absurd h (by decide)) ?_
 clear hKS KS
 refine wpTx_done rfl (by kernel_rfl) ?_
 go_end0
 exact ⟨rfl, (hBd.mono (fun _ _ h => h.elim)).trans ((But.setCell wd (a := ⟨g, j * 2, none⟩) (F := fun k => w0.heap.size ≤ k ∧ ¬ P k) hfr _).trans (But.setCell _ (a := ⟨g, j * 2 + 1, none⟩) hfr _)), HS.out wd hBd⟩
/-- The object that a reference names. -/
theorem objectOf_any (h : StQ P w0 w be bw tx inp s bl lv l vo vb gs fv) (u : V) (hu : (∃ n, u = .i n) ∨ u = .z ∨ ∃ k, u = .o k ∧ k < s.heap.length) (h4 : s.heap.length ≤ 4000) :
  Calls Tryz.prog 245 #[.pointer (some ⟨bw, 0, none⟩), xAgg u] w fun en w' => But (fun _ => False) w w' ∧ en = .returned (.pointer (match u with | .o k => (gs[k]?).map (fun g => ⟨g, 0, none⟩) | _ => none)) := by
 unfold xAgg
 have hbl := h.wd.lt
 have hz : ∀ (hx : xO u = 0) (hm : ∀ k, u ≠ .o k), Calls Tryz.prog 245 #[.pointer (some ⟨bw, 0, none⟩), .agg #[.int .i32 (xN u), .int .i64 (xO u)]] w fun en w' => But (fun _ => False) w w' ∧ en = .returned (.pointer none) := fun hx hm => by
  rw [hx]
  clear hx hm hu h
  go_enter Tryz.func245, Tryz.ntmps245
  go_wp2_with fail
  go_quiet (fail)
  go_wp2_with fail
  go_ret
  exact ⟨(But.alloc _ _ _).trans (But.drewN _ _ _), rfl⟩
 rcases hu with ⟨n, rfl⟩ | rfl | ⟨k, rfl, hk⟩
 ·exact hz rfl (fun k h => by cases h)
 ·exact hz rfl (fun k h => by cases h)
 ·clear hz
  obtain ⟨o, g, v, h1, h2, h3, h4', h5⟩ := h.obj hk
  simp only [h2, Option.map_some, xN, xO]
  have c4 := h.wd.c4
  obtain ⟨ab, capb, rfl⟩ := owns_len h.ob
  obtain ⟨gb, rfl, hg1, hg2, hcell⟩ := owns_two h.ob (by omega)
  have q0 : w.cell? ⟨gb, k, none⟩ = some (.pointer (some ⟨g, 0, none⟩)) := hcell _ _ (by simp [ptrCells, h2])
  have hkI : ¬ ((k : Int) + 1 ≤ 0) := by omega
  have hkJ : ¬ ((s.heap.length : Int) < (k : Int) + 1) := by omega
  have hkK : (k : Int) < (s.heap.length : Int) := by omega
  clear hcell h1 h2 h3 h5
  generalize s.heap.length = nh at *
  have d1 : decide ((k : Int) + 1 ≤ 0) = false := decide_eq_false hkI
  have d2 : decide ((nh : Int) < (k : Int) + 1) = false := decide_eq_false hkJ
  have e4 : ∀ ob, (w.alloc ob).cell? ⟨bw, 4, none⟩ = some (.slice (some ⟨gb, 0, none⟩) nh capb) := fun ob => ((But.alloc (fun _ => False) w ob).cell (p := ⟨bw, 4, none⟩) hbl (fun h => h)).trans c4
  go_enter Tryz.func245, Tryz.ntmps245
  go_wp2_with fail
  go_quiet (fail)
  go_wp2_with fail
  have e5 : ∀ ob, (w.alloc ob).cell? ⟨gb, k, none⟩ = some (.pointer (some ⟨g, 0, none⟩)) := fun ob => ((But.alloc (fun _ => False) w ob).cell (p := ⟨gb, k, none⟩) hg1 (fun h => h)).trans q0
  have hwk := wrapI (k : Int) (by omega) (by omega)
  have hwk2 := wrapI ((k : Int) + 1 - 1) (by omega) (by omega)
  go_quiet (fail)
  go_wp2_with fail
  go_ret
  exact ⟨((But.alloc _ _ _).trans (But.drewN _ _ _)).trans (But.drewN _ _ _), rfl⟩
end
section
variable {P : Nat → Prop} {w0 w : World} {be bw tx bl : Nat} {inp : ByteArray} {s : Ev} {lv vo vb : Value} {l : List V} {gs : List Nat} {fv : List Value}
theorem objectOf_z (h : StQ P w0 w be bw tx inp s bl lv l vo vb gs fv) (h4 : s.heap.length ≤ 4000) :
  Calls Tryz.prog 245 #[.pointer (some ⟨bw, 0, none⟩), .agg #[.int .i32 0, .int .i64 0]] w fun en w' => But (fun _ => False) w w' ∧ en = .returned (.pointer none) := objectOf_any h .z (Or.inr (Or.inl rfl)) h4
theorem objectOf_o (h : StQ P w0 w be bw tx inp s bl lv l vo vb gs fv) (h4 : s.heap.length ≤ 4000) {k g : Nat} (hk : k < s.heap.length) (hg : gs[k]? = some g) :
  Calls Tryz.prog 245 #[.pointer (some ⟨bw, 0, none⟩), .agg #[.int .i32 0, .int .i64 ((k : Int) + 1)]] w fun en w' => But (fun _ => False) w w' ∧ en = .returned (.pointer (some ⟨g, 0, none⟩)) := by
 have := objectOf_any h (.o k) (Or.inr (Or.inr ⟨k, rfl, hk⟩)) h4
 simp only [hg, Option.map_some] at this
 exact this
theorem class_z (h : StQ P w0 w be bw tx inp s bl lv l vo vb gs fv) (h4 : s.heap.length ≤ 4000) :
  Calls Tryz.prog 228 #[.pointer (some ⟨bw, 0, none⟩), .agg #[.int .i32 0, .int .i64 0]] w fun en w' => But (fun _ => False) w w' ∧ en = .returned (.int .u8 45) := by
 have HO := hid (fun X (hX : But (fun _ => False) w X) => objectOf_z (h.new hX) h4)
 clear h
 go_enter Tryz.func228, Tryz.ntmps228
 go_wp2_with fail
 refine (HO.out _ (But.alloc _ _ _)).mono ?_
 rintro en w1 ⟨hB1, rfl⟩
 go_wp2_with fail
 go_ret
 exact ⟨(But.alloc _ _ _).trans hB1, rfl⟩
theorem class_o (h : StQ P w0 w be bw tx inp s bl lv l vo vb gs fv) (h4 : s.heap.length ≤ 4000) {k : Nat} {o : Ob} (hk : s.heap[k]? = some o) :
  Calls Tryz.prog 228 #[.pointer (some ⟨bw, 0, none⟩), .agg #[.int .i32 0, .int .i64 ((k : Int) + 1)]] w fun en w' => But (fun _ => False) w w' ∧ en = .returned (.int .u8 (65 + o.cls : Nat)) := by
 have hkl := (List.getElem?_eq_some_iff.1 hk).1
 obtain ⟨o', g, v, h1, h2, h3, h4', h5⟩ := h.obj hkl
 rw [hk] at h1
 cases h1
 have HO := hid (fun X (hX : But (fun _ => False) w X) => objectOf_o (h.new hX) h4 hkl h2)
 have hgl := lt_of_block h4'
 clear h hk h2 h3 h5
 go_enter Tryz.func228, Tryz.ntmps228
 go_wp2_with fail
 refine (HO.out _ (But.alloc _ _ _)).mono ?_
 rintro en w1 ⟨hB1, rfl⟩
 have hBw : But (fun _ => False) w w1 := (But.alloc _ _ _).trans hB1
 have hx := (hBw.block g hgl (fun h => h)).trans h4'
 have x0 : w1.cell? ⟨g, 0, none⟩ = some (.int .u8 (65 + o.cls : Nat)) := by rw [cell_of_row w1 _ 0 _ _ (0, 0) hx]; rfl
 clear HO hB1 h4'
 go_wp2_with fail
 go_ret
 exact ⟨hBw, rfl⟩
theorem field_z (h : StQ P w0 w be bw tx inp s bl lv l vo vb gs fv) (h4 : s.heap.length ≤ 4000) (j : Nat) :
  Calls Tryz.prog 237 #[.pointer (some ⟨bw, 0, none⟩), .agg #[.int .i32 0, .int .i64 0], .int .i64 j] w fun en w' => But (fun _ => False) w w' ∧ en = .returned (.tuple #[.agg #[.int .i32 0, .int .i64 0], .int .i64 2]) := by
 have HO := hid (fun X (hX : But (fun _ => False) w X) => objectOf_z (h.new hX) h4)
 clear h
 go_enter Tryz.func237, Tryz.ntmps237
 go_wp2_with fail
 refine (HO.out _ ((But.alloc _ _ _).trans (But.alloc _ _ _))).mono ?_
 rintro en w1 ⟨hB1, rfl⟩
 have hr1 : ResX w1 (w.heap.size + 1) := ResX.but ⟨0, 0, heap_alloc_at (by simp) _⟩ hB1 (fun h => h)
 have hBw : But (fun _ => False) w w1 := ((But.alloc _ _ _).trans (But.alloc _ _ _)).trans hB1
 obtain ⟨K9, N9, r0, r1, f0, f1, hrl⟩ := hr1.parts
 clear hB1 HO
 go_wp2_with fail
 exact retX Tryz.results237 rfl rfl rfl (hr1.put _ _) ⟨hBw.next (but_put _ _ _ _) (fun k hk e => by have e : k = w.heap.size + 1 := e; omega), rfl⟩
theorem field_o (h : StQ P w0 w be bw tx inp s bl lv l vo vb gs fv) (h4 : s.heap.length ≤ 4000) {k : Nat} {o : Ob} (hk : s.heap[k]? = some o) (j : Nat) (u : V) (hu : o.fs[j]? = some u) :
  Calls Tryz.prog 237 #[.pointer (some ⟨bw, 0, none⟩), .agg #[.int .i32 0, .int .i64 ((k : Int) + 1)], .int .i64 j] w fun en w' => But (fun _ => False) w w' ∧ en = .returned (.tuple #[xAgg u, .int .i64 0]) := by
 have hkl := (List.getElem?_eq_some_iff.1 hk).1
 have hjl := (List.getElem?_eq_some_iff.1 hu).1
 obtain ⟨o', g, v, h1, h2, h3, h4', h5⟩ := h.obj hkl
 rw [hk] at h1
 cases h1
 have HO := hid (fun X (hX : But (fun _ => False) w X) => objectOf_o (h.new hX) h4 hkl h2)
 have hgl := lt_of_block h4'
 obtain ⟨af, cf, rfl⟩ := owns_len h5
 obtain ⟨gf, rfl, hgf, hgf2, hcell⟩ := owns_two h5 (by omega)
 have q0 : w.cell? ⟨gf, j * 2, none⟩ = some (.int .i32 (xN u)) := hcell _ _ (xvalCells_at (k := 0) hu (by omega))
 have q1 : w.cell? ⟨gf, j * 2 + 1, none⟩ = some (.int .i64 (xO u)) := hcell _ _ (xvalCells_at (k := 1) hu (by omega))
 have hj0 : ¬ ((j : Int) < 0) := by omega
 have hjI : ¬ ((o.fs.length : Int) ≤ (j : Int)) := by omega
 have hjJ : (j : Int) < (o.fs.length : Int) := by omega
 clear h hk h2 h3 h5 hu hcell
 unfold xAgg
 generalize o.fs.length = nf at *
 go_enter Tryz.func237, Tryz.ntmps237
 go_wp2_with fail
 refine (HO.out _ ((But.alloc _ _ _).trans (But.alloc _ _ _))).mono ?_
 rintro en w1 ⟨hB1, rfl⟩
 have hr1 : ResX w1 (w.heap.size + 1) := ResX.but ⟨0, 0, heap_alloc_at (by simp) _⟩ hB1 (fun h => h)
 have hBw : But (fun _ => False) w w1 := ((But.alloc _ _ _).trans (But.alloc _ _ _)).trans hB1
 have hx := (hBw.block g hgl (fun h => h)).trans h4'
 have x1 : w1.cell? ⟨g, 1, none⟩ = some (.slice (some ⟨gf, 0, none⟩) nf cf) := by rw [cell_of_row w1 _ 1 _ _ (0, 0) hx]; rfl
 have p0 := (hBw.cell (p := ⟨gf, j * 2, none⟩) hgf (fun h => h)).trans q0
 have p1 := (hBw.cell (p := ⟨gf, j * 2 + 1, none⟩) hgf (fun h => h)).trans q1
 obtain ⟨K9, N9, r0, r1, f0, f1, hrl⟩ := hr1.parts
 clear hB1 HO q0 q1 h4' hx
 go_wp2_with fail
 exact retX Tryz.results237 rfl rfl rfl (hr1.put _ _) ⟨hBw.next (but_put _ _ _ _) (fun k hk e => by have e : k = w.heap.size + 1 := e; omega), rfl⟩
end
section
variable {P : Nat → Prop} {w0 w : World} {be bw tx bl : Nat} {inp : ByteArray} {s : Ev} {lv vo vb : Value} {l : List V} {gs : List Nat} {fv : List Value}
theorem setField_z (h : StQ P w0 w be bw tx inp s bl lv l vo vb gs fv) (h4 : s.heap.length ≤ 4000) (j : Nat) (u : V) :
  Calls Tryz.prog 238 #[.pointer (some ⟨bw, 0, none⟩), .agg #[.int .i32 0, .int .i64 0], .int .i64 j, xAgg u] w fun en w' => But (fun _ => False) w w' ∧ en = .returned (.int .i64 2) := by
 have HO := hid (fun X (hX : But (fun _ => False) w X) => objectOf_z (h.new hX) h4)
 clear h
 unfold xAgg
 go_enter Tryz.func238, Tryz.ntmps238
 go_wp2_with fail
 refine (HO.out _ ((But.alloc _ _ _).trans (But.alloc _ _ _))).mono ?_
 rintro en w1 ⟨hB1, rfl⟩
 go_wp2_with fail
 go_ret
 exact ⟨((But.alloc _ _ _).trans (But.alloc _ _ _)).trans hB1, rfl⟩
theorem setField_o (h : StQ P w0 w be bw tx inp s bl lv l vo vb gs fv) (h4 : s.heap.length ≤ 4000) {k : Nat} {o : Ob} (hk : s.heap[k]? = some o) (j : Nat) (u : V) (hj : j < o.fs.length) :
  Calls Tryz.prog 238 #[.pointer (some ⟨bw, 0, none⟩), .agg #[.int .i32 0, .int .i64 ((k : Int) + 1)], .int .i64 j, xAgg u] w fun en w' => But (FrQ P w0) w w' ∧ en = .returned (.int .i64 0) ∧ StQ P w0 w' be bw tx inp (s.put k j u) bl lv l vo vb gs fv := by
 have hkl := (List.getElem?_eq_some_iff.1 hk).1
 obtain ⟨u', hu⟩ : ∃ u', o.fs[j]? = some u' := ⟨_, List.getElem?_eq_getElem hj⟩
 obtain ⟨o', g, v, h1, h2, h3, h4', h5⟩ := h.obj hkl
 rw [hk] at h1
 cases h1
 have HO := hid (fun X (hX : But (fun _ => False) w X) => objectOf_o (h.new hX) h4 hkl h2)
 have hgl := lt_of_block h4'
 obtain ⟨af, cf, rfl⟩ := owns_len h5
 obtain ⟨gf, rfl, hgf, hgf2, hcell⟩ := owns_two h5 (by omega)
 have q0 : w.cell? ⟨gf, j * 2, none⟩ = some (.int .i32 (xN u')) := hcell _ _ (xvalCells_at (k := 0) hu (by omega))
 have q1 : w.cell? ⟨gf, j * 2 + 1, none⟩ = some (.int .i64 (xO u')) := hcell _ _ (xvalCells_at (k := 1) hu (by omega))
 obtain ⟨cur, hcur⟩ := owns_type h5 (g := gf) rfl
 have z0 := frozen_of_row w gf (j * 2) _ _ hcur
 have z1 := frozen_of_row w gf (j * 2 + 1) _ _ hcur
 have hfr : FrQ P w0 gf := h.k8 (List.mem_of_getElem? h3) (g := gf) rfl
 have HS := hid (fun X (hX : But (fun _ => False) w X) => (h.new hX).setF hk h2 h3 (g := gf) rfl j u)
 have hj0 : 0 ≤ (j : Int) := by omega
 have hjJ : (j : Int) < (o.fs.length : Int) := by omega
 clear h hk h2 h3 h5 hu hcell hcur
 unfold xAgg
 generalize o.fs.length = nf at *
 go_enter Tryz.func238, Tryz.ntmps238
 go_wp2_with fail
 refine (HO.out _ ((But.alloc _ _ _).trans (But.alloc _ _ _))).mono ?_
 rintro en w1 ⟨hB1, rfl⟩
 have hBw : But (fun _ => False) w w1 := ((But.alloc _ _ _).trans (But.alloc _ _ _)).trans hB1
 have hgV := (hB1.block (w.heap.size + 1) (by simp) (fun h => h)).trans (heap_alloc_at (by simp) (.cells #[.int .i32 (xN u), .int .i64 (xO u)] 168))
 have hx := (hBw.block g hgl (fun h => h)).trans h4'
 have x1 : w1.cell? ⟨g, 1, none⟩ = some (.slice (some ⟨gf, 0, none⟩) nf cf) := by rw [cell_of_row w1 _ 1 _ _ (0, 0) hx]; rfl
 have v0 : w1.cell? ⟨w.heap.size + 1, 0, none⟩ = some (.int .i32 (xN u)) := by rw [cell_of_row w1 _ 0 _ _ (0, 0) hgV]; rfl
 have v1 : w1.cell? ⟨w.heap.size + 1, 1, none⟩ = some (.int .i64 (xO u)) := by rw [cell_of_row w1 _ 1 _ _ (0, 0) hgV]; rfl
 have m1 := lt_of_block hgV
 have m2 := lt_of_block hx
 have hgf1 := Nat.lt_of_lt_of_le hgf hBw.size
 have p0 := (hBw.cell (p := ⟨gf, j * 2, none⟩) hgf (fun h => h)).trans q0
 have p1 := (hBw.cell (p := ⟨gf, j * 2 + 1, none⟩) hgf (fun h => h)).trans q1
 have p2 := (hBw.frozen (p := ⟨gf, j * 2, none⟩) hgf (fun h => h)).trans z0
 have p3 := (hBw.frozen (p := ⟨gf, j * 2 + 1, none⟩) hgf (fun h => h)).trans z1
 clear hB1 HO q0 q1 z0 z1 h4' hx hgV
 go_wp2_with fail
 have HP := hid (And.intro p0 (And.intro p1 (And.intro p2 p3)))
 clear p0 p1 p2 p3
 have hS0 : But (fun _ => False) w1 w1.drew := But.drew _ _
 refine wpTx_begin (But (fun _ => False) w1) 7 (by kernel_rfl) ?_
 have fSA := hid (fun wS (h : (But (fun _ => False) w1) wS) => (And.intro ((h.cell (p := ⟨g, 1, none⟩) m2 (fun h => h)).trans x1) (And.intro ((h.cell (p := ⟨w.heap.size + 1, 0, none⟩) m1 (fun h => h)).trans v0) ((h.cell (p := ⟨w.heap.size + 1, 1, none⟩) m1 (fun h => h)).trans v1))))
 iterate 7 (refine wpTx_take (v := ?_) rfl (by kernel_rfl) (fun _ _ _ h => h) rfl hS0 ?_ ?_; rotate_left; (focus (intro wS h; obtain ⟨q0, q1, q2⟩ := fSA.out wS h; clear h; go_simp; try rfl)); dsimp only [Act.put]; try simp only [puts])
 try clear fSA
 obtain ⟨p0, p1, p2, p3⟩ := HP.out
 have t0 := (hS0.cell (p := ⟨gf, j * 2, none⟩) hgf1 (fun h => h)).trans p0
 have t1 := (hS0.cell (p := ⟨gf, j * 2 + 1, none⟩) hgf1 (fun h => h)).trans p1
 have t2 := (hS0.frozen (p := ⟨gf, j * 2, none⟩) hgf1 (fun h => h)).trans p2
 have t3 := (hS0.frozen (p := ⟨gf, j * 2 + 1, none⟩) hgf1 (fun h => h)).trans p3
 have hBd := hBw.trans hS0
 clear x1 v0 v1 hS0 HP p0 p1 p2 p3
 generalize w1.drew = wd at *
 refine wpTx_step rfl (by kernel_rfl) ?_
 intro KS hKS
 go_simp
 refine hKS.out _ _ (fun h => absurd h (by decide)) ?_
 clear hKS KS
 refine wpTx_done rfl (by kernel_rfl) ?_
 go_wp2_with fail
 go_ret
 exact ⟨(hBd.mono (fun _ _ h => h.elim)).trans ((But.setCell wd (a := ⟨gf, j * 2, none⟩) (F := FrQ P w0) hfr _).trans (But.setCell _ (a := ⟨gf, j * 2 + 1, none⟩) hfr _)), rfl, HS.out wd hBd⟩
theorem cast_z (h : StQ P w0 w be bw tx inp s bl lv l vo vb gs fv) (h4 : s.heap.length ≤ 4000) (c : UInt8) :
  Calls Tryz.prog 239 #[.pointer (some ⟨bw, 0, none⟩), .agg #[.int .i32 0, .int .i64 0], .int .u8 c.toNat] w fun en w' => But (fun _ => False) w w' ∧ en = .returned (.tuple #[.agg #[.int .i32 0, .int .i64 0], .int .i64 0]) := by
 have HO := hid (fun X (hX : But (fun _ => False) w X) => objectOf_z (h.new hX) h4)
 clear h
 go_enter Tryz.func239, Tryz.ntmps239
 go_wp2_with fail
 refine (HO.out _ ((But.alloc _ _ _).trans (But.alloc _ _ _))).mono ?_
 rintro en w1 ⟨hB1, rfl⟩
 have hgV := (hB1.block w.heap.size (by simp; omega) (fun h => h)).trans (((But.alloc (fun _ => False) _ _).block _ (by simp) (fun h => h)).trans (heap_alloc_new w (.cells #[.int .i32 0, .int .i64 0] 168)))
 have v0 : w1.cell? ⟨w.heap.size, 0, none⟩ = some (.int .i32 0) := by rw [cell_of_row w1 _ 0 _ _ (0, 0) hgV]; rfl
 have v1 : w1.cell? ⟨w.heap.size, 1, none⟩ = some (.int .i64 0) := by rw [cell_of_row w1 _ 1 _ _ (0, 0) hgV]; rfl
 have hr1 : ResX w1 (w.heap.size + 1) := ResX.but ⟨0, 0, heap_alloc_at (by simp) _⟩ hB1 (fun h => h)
 have hBw : But (fun _ => False) w w1 := ((But.alloc _ _ _).trans (But.alloc _ _ _)).trans hB1
 obtain ⟨K9, N9, r0, r1, f0, f1, hrl⟩ := hr1.parts
 have hl0 := lt_of_block hgV
 clear hB1 HO hgV
 go_wp2_with fail
 go_quiet (fail)
 go_wp2_with fail
 exact retX Tryz.results239 rfl rfl rfl ((hr1.but (But.drewN (fun _ => False) _ _) (fun h => h)).put _ _) ⟨(hBw.trans (But.drewN _ _ _)).next (but_put _ _ _ _) (fun k hk e => by have e : k = w.heap.size + 1 := e; omega), rfl⟩
theorem cast_o (h : StQ P w0 w be bw tx inp s bl lv l vo vb gs fv) (h4 : s.heap.length ≤ 4000) {k : Nat} {o : Ob} (hk : s.heap[k]? = some o) (cs : List XCls) (hn : cs.length ≤ 100) (hT : TxC w0 tx cs) (a c : UInt8) (ha : a.toNat = 65 + o.cls) :
  Calls Tryz.prog 239 #[.pointer (some ⟨bw, 0, none⟩), .agg #[.int .i32 0, .int .i64 ((k : Int) + 1)], .int .u8 c.toNat] w fun en w' => But (fun _ => False) w w' ∧ en = .returned (if comesX cs c cs.length a = true then .tuple #[.agg #[.int .i32 0, .int .i64 ((k : Int) + 1)], .int .i64 0] else .tuple #[.agg #[.int .i32 0, .int .i64 0], .int .i64 4]) := by
 have hkl := (List.getElem?_eq_some_iff.1 hk).1
 obtain ⟨o', g, v, h1, h2, h3, h4', h5⟩ := h.obj hkl
 rw [hk] at h1
 cases h1
 have HO := hid (fun X (hX : But (fun _ => False) w X) => objectOf_o (h.new hX) h4 hkl h2)
 have hgl := lt_of_block h4'
 have hbl := h.wd.lt
 have HK := hid h.wd
 have HC := hid (fun X (hX : But (fun _ => False) w X) => xcomes_any tx cs a c X hn (hT.but (h.old.trans hX)))
 obtain ⟨r, hr⟩ : ∃ r, comesX cs c cs.length a = r := ⟨_, rfl⟩
 rw [hr] at HC ⊢
 rw [← ha] at h4'
 clear h hk h2 h3 h5 hr ha
 go_enter Tryz.func239, Tryz.ntmps239
 go_wp2_with fail
 refine (HO.out _ ((But.alloc _ _ _).trans (But.alloc _ _ _))).mono ?_
 rintro en w1 ⟨hB1, rfl⟩
 have hgV := (hB1.block w.heap.size (by simp; omega) (fun h => h)).trans (((But.alloc (fun _ => False) _ _).block _ (by simp) (fun h => h)).trans (heap_alloc_new w (.cells #[.int .i32 0, .int .i64 ((k : Int) + 1)] 168)))
 have v0 : w1.cell? ⟨w.heap.size, 0, none⟩ = some (.int .i32 0) := by rw [cell_of_row w1 _ 0 _ _ (0, 0) hgV]; rfl
 have v1 : w1.cell? ⟨w.heap.size, 1, none⟩ = some (.int .i64 ((k : Int) + 1)) := by rw [cell_of_row w1 _ 1 _ _ (0, 0) hgV]; rfl
 have hr1 : ResX w1 (w.heap.size + 1) := ResX.but ⟨0, 0, heap_alloc_at (by simp) _⟩ hB1 (fun h => h)
 have hBw : But (fun _ => False) w w1 := ((But.alloc _ _ _).trans (But.alloc _ _ _)).trans hB1
 have hx := (hBw.block g hgl (fun h => h)).trans h4'
 have x0 : w1.cell? ⟨g, 0, none⟩ = some (.int .u8 a.toNat) := by rw [cell_of_row w1 _ 0 _ _ (0, 0) hx]; rfl
 have c0 := (HK.out.but hBw (fun h => h)).c0
 obtain ⟨K9, N9, r0, r1, f0, f1, hrl⟩ := hr1.parts
 have hl0 := lt_of_block hgV
 clear hB1 HO hgV HK hx h4'
 have HC2 := hid (fun n => HC.out (w1.drewN n) (hBw.trans (But.drewN _ _ _)))
 clear HC
 go_wp2_with fail
 go_quiet (exact Calls.quiet_of_same (HC2.out _))
 cases r with
 | true =>
  go_wp2_with fail
  exact retX Tryz.results239 rfl rfl rfl ((hr1.but (But.drewN (fun _ => False) _ _) (fun h => h)).put _ _) ⟨(hBw.trans (But.drewN _ _ _)).next (but_put _ _ _ _) (fun k hk e => by have e : k = w.heap.size + 1 := e; omega), rfl⟩
 | false =>
  go_wp2_with fail
  exact retX Tryz.results239 rfl rfl rfl ((hr1.but (But.drewN (fun _ => False) _ _) (fun h => h)).put _ _) ⟨(hBw.trans (But.drewN _ _ _)).next (but_put _ _ _ _) (fun k hk e => by have e : k = w.heap.size + 1 := e; omega), rfl⟩
end
end Go.Proofs.YtpfkkmacakjmbaaGreatDoor
