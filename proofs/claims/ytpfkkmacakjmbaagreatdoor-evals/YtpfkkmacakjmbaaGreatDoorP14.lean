import Derived.Test.YtpfkkmacakjmbaaGreatDoorP13
import Derived.Test.YtpfkkmacakjmbaaGreatDoorP11
import Derived.Test.YtpfkkmacakjmbaaGreatDoorP00
import Derived.Lib.AppendIntMem
import Derived.Lib.ItoaLen
import Derived.Shelf.Strconv.Itoa3
import Derived.Shelf.Strconv.AppendIntPublic10
import Derived.Test.YtpfkkmacakjmbaaGreatDoorProg
set_option maxRecDepth 100000
set_option maxHeartbeats 6400000
namespace Go.Proofs.YtpfkkmacakjmbaaGreatDoor
open Go Go.RowKit Sp
attribute [local go_sem ↓] Go.wp_at_zero Go.wp_at_succ
set_option linter.unusedSimpArgs false
set_option linter.unusedVariables false
theorem valCells_set (l : List V) (j : Nat) (u : V) : valCells (l.set j u) = ((valCells l).set (j * 2) (.int .u8 u.K)).set (j * 2 + 1) (.int .i64 u.N) := by
 induction l generalizing j with
 | nil => simp [valCells]
 | cons v l ih =>
  cases j with
  | zero => simp [valCells, vCells]
  | succ j =>
   have := ih j
   simp only [valCells] at this
   simp [valCells, vCells, Nat.succ_mul, this]
theorem owns_put {w : World} {base n g j : Nat} {v : Value} {l : List V} (u : V) (h : w.ownsRow base 135 2 v n (valCells l)) (hg : v.ownBlock = some g) :
  ((w.setCell ⟨g, j * 2, none⟩ (.int .u8 u.K)).setCell ⟨g, j * 2 + 1, none⟩ (.int .i64 u.N)).ownsRow base 135 2 v n (valCells (l.set j u)) := by
 have hlen := h.1
 rcases h.2 with ⟨rfl, _⟩ | ⟨g', cap, cur, rfl, hb, hh, hc1, hc2, hc3, hc4⟩
 ·cases hg
 ·simp [Value.ownBlock] at hg
  subst hg
  refine ⟨by rw [← hlen, valCells_len, valCells_len]; simp, Or.inr ⟨g', cap, (cur.setIfInBounds (j * 2) (.int .u8 u.K)).setIfInBounds (j * 2 + 1) (.int .i64 u.N), rfl, hb, ?_, hc1, hc2, by simpa using hc3, ?_⟩⟩
  ·exact heap_setCell_same _ g' _ _ _ _ (heap_setCell_same _ g' _ _ _ _ hh)
  ·rw [valCells_set, ← hc4]
   simp [List.take_set]
section
variable {P : Nat → Prop} {w0 w w' : World} {bw bi d : Nat} {inp : ByteArray} {s : Ev} {lv hv : Value} {l : List V} {fv : List Value}
theorem StX.hw (h : StX P w0 w bw bi inp d s lv l hv fv) : hv.ownBlock ≠ some bw := owns_offE h.hp h.wk (by decide)
theorem StX.lw (h : StX P w0 w bw bi inp d s lv l hv fv) : lv.ownBlock ≠ some bw := owns_offE h.lo h.wk (by decide)
theorem StX.fo (h : StX P w0 w bw bi inp d s lv l hv fv) {v : Value} (hv' : v ∈ fv) : ∃ (k : Nat) (ob : Ob), fv[k]? = some v ∧ s.heap[k]? = some ob ∧ w.ownsRow w0.heap.size 135 2 v ob.fs.length (valCells ob.fs) := by
 obtain ⟨k, hk, rfl⟩ := List.getElem_of_mem hv'
 have hk' : k < s.heap.length := by rw [← h.len]; exact hk
 exact ⟨k, s.heap[k], List.getElem?_eq_getElem hk, List.getElem?_eq_getElem hk', h.fl k _ _ (List.getElem?_eq_getElem hk') (List.getElem?_eq_getElem hk)⟩
theorem StX.fw (h : StX P w0 w bw bi inp d s lv l hv fv) {v : Value} (hv' : v ∈ fv) : v.ownBlock ≠ some bw := by
 obtain ⟨k, ob, _, _, h1⟩ := h.fo hv'
 exact owns_offE h1 h.wk (by decide)
theorem StX.fh (h : StX P w0 w bw bi inp d s lv l hv fv) {v : Value} (hv' : v ∈ fv) {g : Nat} (hg : v.ownBlock = some g) : hv.ownBlock ≠ some g := by
 obtain ⟨k, ob, _, _, h1⟩ := h.fo hv'
 exact owns_apartE h1 h.hp (by decide) hg
theorem StX.lh (h : StX P w0 w bw bi inp d s lv l hv fv) {g : Nat} (hg : lv.ownBlock = some g) : hv.ownBlock ≠ some g := owns_apartE h.lo h.hp (by decide) hg
theorem StX.blt (h : StX P w0 w bw bi inp d s lv l hv fv) : bw < w.heap.size := h.wk.lt
theorem StX.but {F : Nat → Prop} (h : StX P w0 w bw bi inp d s lv l hv fv) (hB : But F w w') (h0 : ∀ k, F k → w0.heap.size ≤ k) (h1 : ¬ F bw) (h2 : ∀ g, hv.ownBlock = some g → ¬ F g) (h3 : ∀ v ∈ fv, ∀ g, v.ownBlock = some g → ¬ F g) (h4 : ∀ g, lv.ownBlock = some g → ¬ F g) : StX P w0 w' bw bi inp d s lv l hv fv :=
 ⟨h.old.next hB (fun k hk hf => by have := h0 k hf; omega), h.wk.but hB h1, h.len, owns_but h.hp hB h2, fun k ob v hk hv => owns_but (h.fl k ob v hk hv) hB (h3 v (List.mem_of_getElem? hv)), owns_but h.lo hB h4, h.ge, fun k hk => by have := h.pl k hk; have := hB.size; omega, h.pw, h.ph, h.pf, h.po, h.sl, h.sf⟩
theorem StX.new (h : StX P w0 w bw bi inp d s lv l hv fv) (hB : But (fun _ => False) w w') : StX P w0 w' bw bi inp d s lv l hv fv := h.but hB (fun _ h => h.elim) (fun h => h) (fun _ _ h => h) (fun _ _ _ _ h => h) (fun _ _ h => h)
theorem StX.work {s' : Ev} {d' : Nat} (h : StX P w0 w bw bi inp d s lv l hv fv) (hB : But (· = bw) w w') (hs : s'.heap = s.heap) (hk : WkB w' bw bi hv inp s'.read s'.left d' s'.out 12) : StX P w0 w' bw bi inp d' s' lv l hv fv := by
 have hl : ∀ g, lv.ownBlock = some g → ¬ g = bw := fun g hg e => h.lw (e ▸ hg)
 have hh : ∀ g, hv.ownBlock = some g → ¬ g = bw := fun g hg e => h.hw (e ▸ hg)
 have hf : ∀ v ∈ fv, ∀ g, v.ownBlock = some g → ¬ g = bw := fun v hv g hg e => h.fw hv (e ▸ hg)
 exact ⟨h.old.next hB (fun k hk hf => by have := h.ge; omega), hk, by rw [hs]; exact h.len, by rw [hs]; exact owns_but h.hp hB hh, fun k ob v hk hv => by rw [hs] at hk; exact owns_but (h.fl k ob v hk hv) hB (hf v (List.mem_of_getElem? hv)), owns_but h.lo hB hl, h.ge, fun k hk => by have := h.pl k hk; have := hB.size; omega, h.pw, h.ph, h.pf, h.po, h.sl, h.sf⟩
theorem StX.setL (h : StX P w0 w bw bi inp d s lv l hv fv) {g : Nat} (hg : lv.ownBlock = some g) (j : Nat) (u : V) : StX P w0 ((w.setCell ⟨g, j * 2, none⟩ (.int .u8 u.K)).setCell ⟨g, j * 2 + 1, none⟩ (.int .i64 u.N)) bw bi inp d s lv (l.set j u) hv fv := by
 have hB : But (· = g) w ((w.setCell ⟨g, j * 2, none⟩ (.int .u8 u.K)).setCell ⟨g, j * 2 + 1, none⟩ (.int .i64 u.N)) := (But.setB _ _ _ _).trans (But.setB _ _ _ _)
 have hge := owns_ge h.lo g hg
 refine ⟨h.old.next hB (fun k hk hf => by omega), h.wk.but hB (fun e => h.lw (e ▸ hg)), h.len, owns_but h.hp hB (fun g' hg' e => h.lh hg (e ▸ hg')), fun k ob v hk hv => owns_but (h.fl k ob v hk hv) hB (fun g' hg' e => h.sl v (List.mem_of_getElem? hv) g' hg' (e ▸ hg)), ?_, h.ge, fun k hk => by have := h.pl k hk; have := hB.size; omega, h.pw, h.ph, h.pf, h.po, h.sl, h.sf⟩
 rw [List.length_set]
 exact owns_put u h.lo hg
theorem StX.setF (h : StX P w0 w bw bi inp d s lv l hv fv) {k g : Nat} {ob : Ob} {v : Value} (hk : s.heap[k]? = some ob) (hv' : fv[k]? = some v) (hg : v.ownBlock = some g) (j : Nat) (u : V) : StX P w0 ((w.setCell ⟨g, j * 2, none⟩ (.int .u8 u.K)).setCell ⟨g, j * 2 + 1, none⟩ (.int .i64 u.N)) bw bi inp d (s.put k j u) lv l hv fv := by
 have hB : But (· = g) w ((w.setCell ⟨g, j * 2, none⟩ (.int .u8 u.K)).setCell ⟨g, j * 2 + 1, none⟩ (.int .i64 u.N)) := (But.setB _ _ _ _).trans (But.setB _ _ _ _)
 have hm := List.mem_of_getElem? hv'
 have hr := h.fl k ob v hk hv'
 have hge := owns_ge hr g hg
 have e1 : (s.put k j u).heap = s.heap.set k ⟨ob.cls, ob.fs.set j u⟩ := by simp [Ev.put, (Ev.at hk).1, (Ev.at hk).2]
 refine ⟨h.old.next hB (fun k hk hf => by omega), h.wk.but hB (fun e => h.fw hm (e ▸ hg)), by rw [e1]; simpa using h.len, ?_, ?_, owns_but h.lo hB (fun g' hg' e => h.sl v hm g hg (e ▸ hg')), h.ge, fun k hk => by have := h.pl k hk; have := hB.size; omega, h.pw, h.ph, h.pf, h.po, h.sl, h.sf⟩
 ·rw [e1, obCells_set hk, List.length_set]
  exact owns_but h.hp hB (fun g' hg' e => h.fh hm hg (e ▸ hg'))
 ·intro i ob' v' hi hvi
  rw [e1, List.getElem?_set] at hi
  split at hi
  ·rename_i he
   subst he
   rw [hv'] at hvi
   cases hvi
   split at hi
   ·cases hi
    simp only [List.length_set]
    exact owns_put u hr hg
   ·cases hi
  ·rename_i he
   exact owns_but (h.fl i ob' v' hi hvi) hB (fun g' hg' e => he (h.sf k i v v' g hv' hvi hg (e ▸ hg')))
theorem StX.grow (h : StX P w0 w bw bi inp d s lv l hv fv) (hB : But (fun _ => False) w w') : StX (fun k => P k ∨ (w.heap.size ≤ k ∧ k < w'.heap.size)) w0 w' bw bi inp d s lv l hv fv := by
 have h1 := h.new hB
 have hlt := h.blt
 refine ⟨h1.old, h1.wk, h1.len, h1.hp, h1.fl, h1.lo, h1.ge, fun k hk => ?_, fun hk => ?_, fun g hg hk => ?_, fun v hv' g hg hk => ?_, fun g hg hk => ?_, h1.sl, h1.sf⟩
 ·rcases hk with hk | hk
  ·exact h1.pl k hk
  ·exact hk.2
 ·rcases hk with hk | hk
  ·exact h1.pw hk
  ·omega
 ·rcases hk with hk | hk
  ·exact h1.ph g hg hk
  ·have := owns_lt h.hp g hg; omega
 ·rcases hk with hk | hk
  ·exact h1.pf v hv' g hg hk
  ·obtain ⟨k, ob, _, _, ho⟩ := h.fo hv'
   have := owns_lt ho g hg
   omega
 ·rcases hk with hk | hk
  ·exact h1.po g hg hk
  ·have := owns_lt h.lo g hg; omega
theorem StX.tmp {F : Nat → Prop} (h : StX P w0 w bw bi inp d s lv l hv fv) (hB : But F w w') (hF : ∀ k, F k → P k ∧ w0.heap.size ≤ k) : StX P w0 w' bw bi inp d s lv l hv fv :=
 h.but hB (fun k hk => (hF k hk).2) (fun hk => h.pw (hF _ hk).1) (fun g hg hk => h.ph g hg (hF _ hk).1) (fun v hv g hg hk => h.pf v hv g hg (hF _ hk).1) (fun g hg hk => h.po g hg (hF _ hk).1)
theorem StX.less {Q : Nat → Prop} (h : StX P w0 w bw bi inp d s lv l hv fv) (hs : ∀ k, Q k → P k) : StX Q w0 w bw bi inp d s lv l hv fv :=
 ⟨h.old, h.wk, h.len, h.hp, h.fl, h.lo, h.ge, fun k hk => h.pl k (hs k hk), fun hk => h.pw (hs _ hk), fun g hg hk => h.ph g hg (hs _ hk), fun v hv g hg hk => h.pf v hv g hg (hs _ hk), fun g hg hk => h.po g hg (hs _ hk), h.sl, h.sf⟩
end
theorem StX.newOb {P : Nat → Prop} {w0 w w2 : World} {bw bi d base : Nat} {inp : ByteArray} {s : Ev} {lv hv hv' vf : Value} {l : List V} {fv : List Value} {ob : Ob} (h : StX P w0 w bw bi inp d s lv l hv fv) (hf : w.ownsRow base 135 2 vf ob.fs.length (valCells ob.fs)) (hb : w0.heap.size ≤ base)
  (hfn : ∀ g, vf.ownBlock = some g → ¬ P g ∧ lv.ownBlock ≠ some g ∧ ∀ v ∈ fv, v.ownBlock ≠ some g) (hB : But (fun k => hv.ownBlock = some k) w w2) (hown : w2.ownsRow w0.heap.size 265 2 hv' (s.heap.length + 1) (obCells s.heap fv ++ [.int .i64 ob.cls, vf])) (hP : ∀ g, hv'.ownBlock = some g → ¬ P g) :
  StX P w0 (w2.setCell ⟨bw, 1, none⟩ hv') bw bi inp d { s with heap := s.heap ++ [ob] } lv l hv' (fv ++ [vf]) := by
 have hk2 := h.wk.but hB h.hw
 have hS : But (· = bw) w2 (w2.setCell ⟨bw, 1, none⟩ hv') := But.setB _ _ _ _
 have hfw : vf.ownBlock ≠ some bw := owns_offE hf h.wk (by decide)
 have row : ∀ {v : Value} {b n : Nat} {xs : List Value}, w.ownsRow b 135 2 v n xs → (w2.setCell ⟨bw, 1, none⟩ hv').ownsRow b 135 2 v n xs := fun ho => owns_but (owns_but ho hB (fun g hg => owns_apartE ho h.hp (by decide) hg)) hS (fun g hg e => owns_offE ho h.wk (by decide) (e ▸ hg))
 refine ⟨(h.old.next hB (fun k hk hf => by have := owns_ge h.hp k hf; omega)).next hS (fun k hk e => by have := h.ge; omega), hk2.set1 hv', by simp [h.len], ?_, ?_, row h.lo, h.ge, fun k hk => by have := h.pl k hk; have := hB.size; rw [size_setCell]; omega, h.pw, hP, ?_, h.po, ?_, ?_⟩
 ·rw [List.length_append, obCells_snoc h.len]
  exact owns_but hown hS (fun g hg e => owns_offE hown hk2 (by decide) (e ▸ hg))
 ·intro k ob' v hk hv
  rcases Nat.lt_or_ge k s.heap.length with hl | hl
  ·rw [List.getElem?_append_left hl] at hk
   rw [List.getElem?_append_left (by rw [h.len]; exact hl)] at hv
   exact row (h.fl k ob' v hk hv)
  ·rw [List.getElem?_append_right hl] at hk
   rw [List.getElem?_append_right (by rw [h.len]; exact hl), h.len] at hv
   cases hq : k - s.heap.length with
   | zero =>
    rw [hq] at hk hv
    cases hk
    cases hv
    exact owns_mono (row hf) hb
   | succ q => rw [hq] at hk; simp at hk
 ·intro v hv g hg
  rcases List.mem_append.1 hv with hv | hv
  ·exact h.pf v hv g hg
  ·rw [List.mem_singleton] at hv; subst hv; exact (hfn g hg).1
 ·intro v hv g hg
  rcases List.mem_append.1 hv with hv | hv
  ·exact h.sl v hv g hg
  ·rw [List.mem_singleton] at hv; subst hv; exact (hfn g hg).2.1
 ·intro j k v v' g hj hk hg hg'
  have key : ∀ (i : Nat) u, (fv ++ [vf])[i]? = some u → (i < fv.length ∧ fv[i]? = some u) ∨ (i = fv.length ∧ u = vf) := fun i u hi => by
   rcases Nat.lt_or_ge i fv.length with hl | hl
   ·rw [List.getElem?_append_left hl] at hi; exact Or.inl ⟨hl, hi⟩
   ·rw [List.getElem?_append_right hl] at hi
    cases hq : i - fv.length with
    | zero => rw [hq] at hi; cases hi; exact Or.inr ⟨by omega, rfl⟩
    | succ q => rw [hq] at hi; simp at hi
  rcases key j v hj with ⟨h1, h2⟩ | ⟨h1, rfl⟩
  ·rcases key k v' hk with ⟨h3, h4⟩ | ⟨h3, rfl⟩
   ·exact h.sf j k v v' g h2 h4 hg hg'
   ·exact absurd hg ((hfn g hg').2.2 v (List.mem_of_getElem? h2))
  ·rcases key k v' hk with ⟨h3, h4⟩ | ⟨h3, rfl⟩
   ·exact absurd hg' ((hfn g hg).2.2 v' (List.mem_of_getElem? h4))
   ·omega
theorem StX.enter {P : Nat → Prop} {w0 w : World} {bw bi d base : Nat} {inp : ByteArray} {s : Ev} {lv hv vl : Value} {l l' : List V} {fv : List Value} (h : StX P w0 w bw bi inp d s lv l hv fv) (ho : w.ownsRow base 135 2 vl l'.length (valCells l')) (hb : w0.heap.size ≤ base) (hfn : ∀ g, vl.ownBlock = some g → ¬ P g ∧ lv.ownBlock ≠ some g ∧ ∀ v ∈ fv, v.ownBlock ≠ some g) :
  StX (fun k => P k ∨ lv.ownBlock = some k) w0 w bw bi inp d s vl l' hv fv := by
 refine ⟨h.old, h.wk, h.len, h.hp, h.fl, owns_mono ho hb, h.ge, fun k hk => ?_, fun hk => ?_, fun g hg hk => ?_, fun v hv' g hg hk => ?_, fun g hg hk => ?_, fun v hv' g hg hk => (hfn g hk).2.2 v hv' hg, h.sf⟩
 ·rcases hk with hk | hk
  ·exact h.pl k hk
  ·exact owns_lt h.lo k hk
 ·rcases hk with hk | hk
  ·exact h.pw hk
  ·exact h.lw hk
 ·rcases hk with hk | hk
  ·exact h.ph g hg hk
  ·exact h.lh hk hg
 ·rcases hk with hk | hk
  ·exact h.pf v hv' g hg hk
  ·exact h.sl v hv' g hg hk
 ·rcases hk with hk | hk
  ·exact (hfn g hg).1 hk
  ·exact (hfn g hg).2.1 hk
theorem StX.leave {P Q : Nat → Prop} {w0 w : World} {bw bi d : Nat} {inp : ByteArray} {s : Ev} {lv hv vl : Value} {l l' : List V} {fv : List Value} (h : StX Q w0 w bw bi inp d s vl l' hv fv) (hPQ : ∀ k, P k ∨ lv.ownBlock = some k → Q k) (ho : w.ownsRow w0.heap.size 135 2 lv l.length (valCells l)) (hp : ∀ g, lv.ownBlock = some g → ¬ P g) : StX P w0 w bw bi inp d s lv l hv fv :=
 ⟨h.old, h.wk, h.len, h.hp, h.fl, ho, h.ge, fun k hk => h.pl k (hPQ k (Or.inl hk)), fun hk => h.pw (hPQ _ (Or.inl hk)), fun g hg hk => h.ph g hg (hPQ _ (Or.inl hk)), fun v hv' g hg hk => h.pf v hv' g hg (hPQ _ (Or.inl hk)), hp, fun v hv' g hg hk => h.pf v hv' g hg (hPQ _ (Or.inr hk)), h.sf⟩
def ResB (w : World) (r : Nat) : Prop := ∃ K N : Int, w.heap[r]? = some (.cells #[.int .u8 K, .int .i64 N] 135)
theorem ResB.but {F : Nat → Prop} {w w' : World} {r : Nat} (h : ResB w r) (hb : But F w w') (hf : ¬ F r) : ResB w' r := by
 obtain ⟨K, N, h⟩ := h
 exact ⟨K, N, (hb.block r (lt_of_block h) hf).trans h⟩
theorem ResB.parts {w : World} {r : Nat} (h : ResB w r) : ∃ K N : Int, w.cell? ⟨r, 0, none⟩ = some (.int .u8 K) ∧ w.cell? ⟨r, 1, none⟩ = some (.int .i64 N) ∧ w.frozen? ⟨r, 0, none⟩ = false ∧ w.frozen? ⟨r, 1, none⟩ = false ∧ r < w.heap.size := by
 obtain ⟨K, N, h⟩ := h
 exact ⟨K, N, by rw [cell_of_row w r 0 _ _ (0, 0) h]; rfl, by rw [cell_of_row w r 1 _ _ (0, 0) h]; rfl, frozen_of_row w r 0 _ _ h, frozen_of_row w r 1 _ _ h, lt_of_block h⟩
theorem ResB.put {w : World} {r : Nat} (h : ResB w r) (K N : Int) : ((w.setCell ⟨r, 0, none⟩ (.int .u8 K)).setCell ⟨r, 1, none⟩ (.int .i64 N)).heap[r]? = some (.cells #[.int .u8 K, .int .i64 N] 135) := by
 obtain ⟨K', N', h⟩ := h
 exact heap_setCell_same _ r 1 _ _ _ (heap_setCell_same _ r 0 _ _ _ h)
theorem but_put (w : World) (r : Nat) (a b : Value) : But (· = r) w ((w.setCell ⟨r, 0, none⟩ a).setCell ⟨r, 1, none⟩ b) := (But.setB _ _ _ _).trans (But.setB _ _ _ _)
theorem ret_val {fn : Func} {Rr : Ending → World → Prop} {a : Act} {w : World} {c r : Nat} {K N : Int} (hf : fn.results = #[.cell c 135]) (hd : a.defers = []) (hc : a.tmps.getD c undef = .pointer (some ⟨r, 0, none⟩))
  (h0 : w.heap[r]? = some (.cells #[.int .u8 K, .int .i64 N] 135)) (hR : Rr (.returned (.agg #[.int .u8 K, .int .i64 N])) w) : bodyPost Tryz.prog fn Rr .ret a w := by
 have r0 : w.cell? ⟨r, 0, none⟩ = some (.int .u8 K) := by rw [cell_of_row w r 0 _ _ (0, 0) h0]; rfl
 have r1 : w.cell? ⟨r, 1, none⟩ = some (.int .i64 N) := by rw [cell_of_row w r 1 _ _ (0, 0) h0]; rfl
 refine bodyPost_ret (v := .agg #[.int .u8 K, .int .i64 N]) ?_ hd hR
 have hc' : a.tmps[c]?.getD undef = .pointer (some ⟨r, 0, none⟩) := by simpa using hc
 simp [results, hf, hc', go_sem, r0, r1]
end Go.Proofs.YtpfkkmacakjmbaaGreatDoor
namespace Go.Proofs.YtpfkkmacakjmbaaGreatDoor
open Go Go.RowKit Sp
set_option linter.unusedSimpArgs false
set_option linter.unusedVariables false
attribute [local go_sem ↓] Go.wp_at_zero Go.wp_at_succ
def xN : V → Int
 | .i n => n
 | _ => 0
def xO : V → Int
 | .o k => k + 1
 | _ => 0
def xAgg (v : V) : Value := .agg #[.int .i32 (xN v), .int .i64 (xO v)]
def xCells (v : V) : List Value := [.int .i32 (xN v), .int .i64 (xO v)]
def xvalCells (l : List V) : List Value := l.flatMap xCells
theorem xvalCells_len (l : List V) : (xvalCells l).length = l.length * 2 := by
 induction l with
 | nil => rfl
 | cons v l ih => simp [xvalCells, xCells] at ih ⊢; omega
theorem xvalCells_at {l : List V} {j k : Nat} {v : V} (h : l[j]? = some v) (hk : k < 2) : (xvalCells l)[j * 2 + k]? = (xCells v)[k]? := flat_at xCells 2 (fun _ => rfl) l j k v h hk
theorem xvalCells_set (l : List V) (j : Nat) (u : V) : xvalCells (l.set j u) = ((xvalCells l).set (j * 2) (.int .i32 (xN u))).set (j * 2 + 1) (.int .i64 (xO u)) := by
 induction l generalizing j with
 | nil => simp [xvalCells]
 | cons v l ih =>
  cases j with
  | zero => simp [xvalCells, xCells]
  | succ j =>
   have := ih j
   simp only [xvalCells] at this
   simp [xvalCells, xCells, Nat.succ_mul, this]
theorem xplain (t : UInt8) : xN (plainV t) = 0 ∧ xO (plainV t) = 0 := by unfold plainV; split <;> exact ⟨rfl, rfl⟩
def faultN (e : Nat) : Int := if e = 5 then 1 else if e = 6 then 2 else if e = 7 then 3 else if e = 8 then 4 else if e = 9 then 5 else if e = 10 then 6 else 0
theorem xtruth_any (b : Bool) (w : World) :
  Calls Tryz.prog 235 #[.bool b] w fun en w' => en = .returned (xAgg (if b = true then .i 1 else .i 0)) ∧ But (fun _ => False) w w' := by
 cases b
 ·go_enter Tryz.func235, Tryz.ntmps235
  go_wp2_with fail
  exact bodyPost_ret (v := xAgg (.i 0)) (by simp [results, Tryz.results235, go_sem, xAgg, xN, xO]) rfl ⟨rfl, But.alloc _ _ _⟩
 ·go_enter Tryz.func235, Tryz.ntmps235
  go_wp2_with fail
  exact bodyPost_ret (v := xAgg (.i 1)) (by simp [results, Tryz.results235, go_sem, xAgg, xN, xO]) rfl ⟨rfl, But.alloc _ _ _⟩
def calcV (op : Nat) (a b : Int) : Value := if op = 47 ∧ b = 0 then .tuple #[xAgg .z, .int .i64 3] else .tuple #[xAgg (.i (if op = 47 then w32 (Int.tdiv a b) else aluV op a b)), .int .i64 0]
theorem retX {fn : Func} {Rr : Ending → World → Prop} {a : Act} {w : World} {c f r : Nat} {K N e : Int} (hf : fn.results = #[.cell c 168, .tmp f]) (hd : a.defers = []) (hc : a.tmps.getD c undef = .pointer (some ⟨r, 0, none⟩)) (he : a.tmps.getD f undef = .int .i64 e)
  (h0 : w.heap[r]? = some (.cells #[.int .i32 K, .int .i64 N] 168)) (hR : Rr (.returned (.tuple #[.agg #[.int .i32 K, .int .i64 N], .int .i64 e])) w) : bodyPost Tryz.prog fn Rr .ret a w := by
 have r0 : w.cell? ⟨r, 0, none⟩ = some (.int .i32 K) := by rw [cell_of_row w r 0 _ _ (0, 0) h0]; rfl
 have r1 : w.cell? ⟨r, 1, none⟩ = some (.int .i64 N) := by rw [cell_of_row w r 1 _ _ (0, 0) h0]; rfl
 refine bodyPost_ret (v := .tuple #[.agg #[.int .i32 K, .int .i64 N], .int .i64 e]) ?_ hd hR
 have hc' : a.tmps[c]?.getD undef = .pointer (some ⟨r, 0, none⟩) := by simpa using hc
 have he' : a.tmps[f]?.getD undef = .int .i64 e := by simpa using he
 simp [results, hf, hc', he', go_sem, r0, r1]
def ResX (w : World) (r : Nat) : Prop := ∃ K N : Int, w.heap[r]? = some (.cells #[.int .i32 K, .int .i64 N] 168)
theorem ResX.but {F : Nat → Prop} {w w' : World} {r : Nat} (h : ResX w r) (hb : But F w w') (hf : ¬ F r) : ResX w' r := by
 obtain ⟨K, N, h⟩ := h
 exact ⟨K, N, (hb.block r (lt_of_block h) hf).trans h⟩
theorem ResX.parts {w : World} {r : Nat} (h : ResX w r) : ∃ K N : Int, w.cell? ⟨r, 0, none⟩ = some (.int .i32 K) ∧ w.cell? ⟨r, 1, none⟩ = some (.int .i64 N) ∧ w.frozen? ⟨r, 0, none⟩ = false ∧ w.frozen? ⟨r, 1, none⟩ = false ∧ r < w.heap.size := by
 obtain ⟨K, N, h⟩ := h
 exact ⟨K, N, by rw [cell_of_row w r 0 _ _ (0, 0) h]; rfl, by rw [cell_of_row w r 1 _ _ (0, 0) h]; rfl, frozen_of_row w r 0 _ _ h, frozen_of_row w r 1 _ _ h, lt_of_block h⟩
theorem ResX.put {w : World} {r : Nat} (h : ResX w r) (K N : Int) : ((w.setCell ⟨r, 0, none⟩ (.int .i32 K)).setCell ⟨r, 1, none⟩ (.int .i64 N)).heap[r]? = some (.cells #[.int .i32 K, .int .i64 N] 168) := by
 obtain ⟨K', N', h⟩ := h
 exact heap_setCell_same _ r 1 _ _ _ (heap_setCell_same _ r 0 _ _ _ h)
theorem xcalc_any (op : Nat) (hop : op = 43 ∨ op = 45 ∨ op = 42 ∨ op = 60 ∨ op = 61 ∨ op = 47) (a b : Int) (a1 : -2147483648 ≤ a) (a2 : a < 2147483648) (b1 : -2147483648 ≤ b) (b2 : b < 2147483648) (w : World) :
  Calls Tryz.prog 234 #[.int .u8 op, .int .i32 a, .int .i32 b] w fun en w' => en = .returned (calcV op a b) ∧ But (fun _ => False) w w' := by
 rcases hop with rfl | rfl | rfl | rfl | rfl | rfl
 ·go_enter Tryz.func234, Tryz.ntmps234
  go_wp2_with fail
  exact retX Tryz.results234 rfl rfl rfl (heap_alloc_at rfl _) ⟨rfl, But.alloc _ _ _⟩
 ·go_enter Tryz.func234, Tryz.ntmps234
  go_wp2_with fail
  exact retX Tryz.results234 rfl rfl rfl (heap_alloc_at rfl _) ⟨rfl, But.alloc _ _ _⟩
 ·go_enter Tryz.func234, Tryz.ntmps234
  go_wp2_with fail
  exact retX Tryz.results234 rfl rfl rfl (heap_alloc_at rfl _) ⟨rfl, But.alloc _ _ _⟩
 ·rw [show calcV 60 a b = .tuple #[xAgg (if decide (a < b) = true then .i 1 else .i 0), .int .i64 0] from by unfold calcV aluV; by_cases h : a < b <;> simp [h]]
  obtain ⟨u, hu⟩ : ∃ u, (if decide (a < b) = true then V.i 1 else V.i 0) = u := ⟨_, rfl⟩
  have HT := hid (fun w => xtruth_any (decide (a < b)) w)
  rw [hu] at HT ⊢
  clear hu
  go_enter Tryz.func234, Tryz.ntmps234
  go_wp2_with fail
  refine (HT.out _).mono ?_
  rintro en w1 ⟨rfl, hB1⟩
  simp only [xAgg]
  have hr1 : ResX w1 w.heap.size := ResX.but ⟨0, 0, heap_alloc_new w _⟩ hB1 (fun h => h)
  have hBw : But (fun _ => False) w w1 := (But.alloc _ _ _).trans hB1
  obtain ⟨K9, N9, r0, r1, f0, f1, hrl⟩ := hr1.parts
  clear hB1 HT
  go_wp2_with fail
  exact retX Tryz.results234 rfl rfl rfl (hr1.put _ _) ⟨rfl, hBw.next (but_put _ _ _ _) (fun k hk e => by have e : k = w.heap.size := e; omega)⟩
 ·rw [show calcV 61 a b = .tuple #[xAgg (if decide (a = b) = true then .i 1 else .i 0), .int .i64 0] from by unfold calcV aluV; by_cases h : a = b <;> simp [h]]
  obtain ⟨u, hu⟩ : ∃ u, (if decide (a = b) = true then V.i 1 else V.i 0) = u := ⟨_, rfl⟩
  have HT := hid (fun w => xtruth_any (decide (a = b)) w)
  rw [hu] at HT ⊢
  clear hu
  go_enter Tryz.func234, Tryz.ntmps234
  go_wp2_with fail
  refine (HT.out _).mono ?_
  rintro en w1 ⟨rfl, hB1⟩
  simp only [xAgg]
  have hr1 : ResX w1 w.heap.size := ResX.but ⟨0, 0, heap_alloc_new w _⟩ hB1 (fun h => h)
  have hBw : But (fun _ => False) w w1 := (But.alloc _ _ _).trans hB1
  obtain ⟨K9, N9, r0, r1, f0, f1, hrl⟩ := hr1.parts
  clear hB1 HT
  go_wp2_with fail
  exact retX Tryz.results234 rfl rfl rfl (hr1.put _ _) ⟨rfl, hBw.next (but_put _ _ _ _) (fun k hk e => by have e : k = w.heap.size := e; omega)⟩
 ·by_cases h0 : b = 0
  ·subst h0
   rw [show calcV 47 a 0 = .tuple #[.agg #[.int .i32 0, .int .i64 0], .int .i64 3] from rfl]
   go_enter Tryz.func234, Tryz.ntmps234
   go_wp2_with fail
   exact retX Tryz.results234 rfl rfl rfl (heap_alloc_at rfl _) ⟨rfl, But.alloc _ _ _⟩
  ·rw [show calcV 47 a b = .tuple #[.agg #[.int .i32 (wrap32 (Int.tdiv a b)), .int .i64 0], .int .i64 0] from by unfold calcV; rw [if_neg (by omega)]; rfl]
   have h0' : (b == 0) = false := by simpa using h0
   go_enter Tryz.func234, Tryz.ntmps234
   go_wp2_with fail
   exact retX Tryz.results234 rfl rfl rfl (heap_alloc_at rfl _) ⟨rfl, But.alloc _ _ _⟩
end Go.Proofs.YtpfkkmacakjmbaaGreatDoor
namespace Go.Proofs.YtpfkkmacakjmbaaGreatDoor
open Go Go.RowKit
open Go.Shelf
def laysItoa_ren : Go.Shelf.Ren := ⟨fun | 171 => 181 | 243 => 226 | 246 => 243 | 283 => 249 | 284 => 250 | 285 => 251 | 286 => 252 | 129 => 255 | 317 => 254 | 318 => 256 | 319 => 257 | 320 => 258 | 337 => 260 | 338 => 261 | n => n, fun | 3 => 3 | 9 => 9 | 2 => 2 | 4 => 4 | 171 => 322 | 0 => 0 | 53 => 323 | 37 => 112 | 5 => 5 | 173 => 326 | 212 => 329 | 51 => 330 | 20 => 20 | 213 => 331 | 46 => 332 | 232 => 336 | 233 => 337 | n => n, fun | 17 => 0 | 18 => 1 | 19 => 2 | n => n⟩
theorem laysItoa : Go.Proofs.LaysM.n171 Tryz.prog laysItoa_ren := {
 mixed := by kernel_rfl
 f129 := Tryz.func255.trans (congrArg some (by kernel_rfl))
 f171 := Tryz.func181.trans (congrArg some (by kernel_rfl))
 f243 := Tryz.func226.trans (congrArg some (by kernel_rfl))
 f246 := Tryz.func243.trans (congrArg some (by kernel_rfl))
 f283 := Tryz.func249.trans (congrArg some (by kernel_rfl))
 f284 := Tryz.func250.trans (congrArg some (by kernel_rfl))
 f285 := Tryz.func251.trans (congrArg some (by kernel_rfl))
 f286 := Tryz.func252.trans (congrArg some (by kernel_rfl))
 f317 := Tryz.func254.trans (congrArg some (by kernel_rfl))
 f318 := Tryz.func256.trans (congrArg some (by kernel_rfl))
 f319 := Tryz.func257.trans (congrArg some (by kernel_rfl))
 f320 := Tryz.func258.trans (congrArg some (by kernel_rfl))
 f337 := Tryz.func260.trans (congrArg some (by kernel_rfl))
 f338 := Tryz.func261.trans (congrArg some (by kernel_rfl))
 t0 := Tryz.underlying0
 a0 := Tryz.isAgg0
 z0 := Tryz.sizeOf0
 v0 := Tryz.zeroValue0
 t2 := Tryz.underlying2
 a2 := Tryz.isAgg2
 z2 := Tryz.sizeOf2
 v2 := Tryz.zeroValue2
 t3 := Tryz.underlying3
 a3 := Tryz.isAgg3
 z3 := Tryz.sizeOf3
 v3 := Tryz.zeroValue3
 t4 := Tryz.underlying4
 a4 := Tryz.isAgg4
 z4 := Tryz.sizeOf4
 v4 := Tryz.zeroValue4
 t5 := Tryz.underlying5
 a5 := Tryz.isAgg5
 z5 := Tryz.sizeOf5
 v5 := Tryz.zeroValue5
 t9 := Tryz.underlying9
 a9 := Tryz.isAgg9
 z9 := Tryz.sizeOf9
 v9 := Tryz.zeroValue9
 t20 := Tryz.underlying20
 a20 := Tryz.isAgg20
 z20 := Tryz.sizeOf20
 v20 := Tryz.zeroValue20
 t37 := Tryz.underlying112
 a37 := Tryz.isAgg112
 z37 := Tryz.sizeOf112
 v37 := Tryz.zeroValue112
 t46 := Tryz.underlying332
 a46 := Tryz.isAgg332
 z46 := Tryz.sizeOf332
 v46 := Tryz.zeroValue332
 t51 := Tryz.underlying330
 a51 := Tryz.isAgg330
 z51 := Tryz.sizeOf330
 v51 := Tryz.zeroValue330
 t53 := Tryz.underlying323
 a53 := Tryz.isAgg323
 z53 := Tryz.sizeOf323
 v53 := Tryz.zeroValue323
 t171 := Tryz.underlying322
 a171 := Tryz.isAgg322
 z171 := Tryz.sizeOf322
 v171 := Tryz.zeroValue322
 t173 := Tryz.underlying326
 a173 := Tryz.isAgg326
 z173 := Tryz.sizeOf326
 v173 := Tryz.zeroValue326
 t212 := Tryz.underlying329
 a212 := Tryz.isAgg329
 z212 := Tryz.sizeOf329
 v212 := Tryz.zeroValue329
 t213 := Tryz.underlying331
 a213 := Tryz.isAgg331
 z213 := Tryz.sizeOf331
 t232 := Tryz.underlying336
 a232 := Tryz.isAgg336
 z232 := Tryz.sizeOf336
 v232 := Tryz.zeroValue336
 t233 := Tryz.underlying337
 a233 := Tryz.isAgg337
 z233 := Tryz.sizeOf337
 v233 := Tryz.zeroValue337
 g17 := by kernel_rfl
 g18 := by kernel_rfl
 g19 := by kernel_rfl
 i0 := by kernel_rfl
 i2 := by kernel_rfl
 i3 := by kernel_rfl
 i4 := by kernel_rfl
 i5 := by kernel_rfl
 i9 := by kernel_rfl
 i20 := by kernel_rfl
 i37 := by kernel_rfl
 i46 := by kernel_rfl
 i51 := by kernel_rfl
 i53 := by kernel_rfl
 i171 := by kernel_rfl
 i173 := by kernel_rfl
 i212 := by kernel_rfl
 i232 := by kernel_rfl
 i233 := by kernel_rfl
 m17 := by kernel_rfl
 m18 := by kernel_rfl
 m19 := by kernel_rfl }
def laysAppendInt_ren : Go.Shelf.Ren := ⟨fun | 176 => 248 | 249 => 253 | 288 => 259 | 283 => 249 | 284 => 250 | 285 => 251 | 286 => 252 | 129 => 255 | 317 => 254 | 318 => 256 | 319 => 257 | 320 => 258 | 337 => 260 | 338 => 261 | n => n, fun | 37 => 112 | 2 => 2 | 3 => 3 | 53 => 323 | 4 => 4 | 9 => 9 | 171 => 322 | 0 => 0 | 173 => 326 | 212 => 329 | 51 => 330 | 5 => 5 | 20 => 20 | 213 => 331 | 46 => 332 | 232 => 336 | 233 => 337 | n => n, fun | 17 => 0 | 18 => 1 | 19 => 2 | n => n⟩
theorem laysAppendInt : Go.Proofs.LaysM.n176 Tryz.prog laysAppendInt_ren := {
 mixed := by kernel_rfl
 f129 := Tryz.func255.trans (congrArg some (by kernel_rfl))
 f176 := Tryz.func248.trans (congrArg some (by kernel_rfl))
 f249 := Tryz.func253.trans (congrArg some (by kernel_rfl))
 f283 := Tryz.func249.trans (congrArg some (by kernel_rfl))
 f284 := Tryz.func250.trans (congrArg some (by kernel_rfl))
 f285 := Tryz.func251.trans (congrArg some (by kernel_rfl))
 f286 := Tryz.func252.trans (congrArg some (by kernel_rfl))
 f288 := Tryz.func259.trans (congrArg some (by kernel_rfl))
 f317 := Tryz.func254.trans (congrArg some (by kernel_rfl))
 f318 := Tryz.func256.trans (congrArg some (by kernel_rfl))
 f319 := Tryz.func257.trans (congrArg some (by kernel_rfl))
 f320 := Tryz.func258.trans (congrArg some (by kernel_rfl))
 f337 := Tryz.func260.trans (congrArg some (by kernel_rfl))
 f338 := Tryz.func261.trans (congrArg some (by kernel_rfl))
 t0 := Tryz.underlying0
 a0 := Tryz.isAgg0
 z0 := Tryz.sizeOf0
 v0 := Tryz.zeroValue0
 t2 := Tryz.underlying2
 a2 := Tryz.isAgg2
 z2 := Tryz.sizeOf2
 v2 := Tryz.zeroValue2
 t3 := Tryz.underlying3
 a3 := Tryz.isAgg3
 z3 := Tryz.sizeOf3
 v3 := Tryz.zeroValue3
 t4 := Tryz.underlying4
 a4 := Tryz.isAgg4
 z4 := Tryz.sizeOf4
 v4 := Tryz.zeroValue4
 t5 := Tryz.underlying5
 a5 := Tryz.isAgg5
 z5 := Tryz.sizeOf5
 v5 := Tryz.zeroValue5
 t9 := Tryz.underlying9
 a9 := Tryz.isAgg9
 z9 := Tryz.sizeOf9
 v9 := Tryz.zeroValue9
 t20 := Tryz.underlying20
 a20 := Tryz.isAgg20
 z20 := Tryz.sizeOf20
 v20 := Tryz.zeroValue20
 t37 := Tryz.underlying112
 a37 := Tryz.isAgg112
 z37 := Tryz.sizeOf112
 v37 := Tryz.zeroValue112
 t46 := Tryz.underlying332
 a46 := Tryz.isAgg332
 z46 := Tryz.sizeOf332
 v46 := Tryz.zeroValue332
 t51 := Tryz.underlying330
 a51 := Tryz.isAgg330
 z51 := Tryz.sizeOf330
 v51 := Tryz.zeroValue330
 t53 := Tryz.underlying323
 a53 := Tryz.isAgg323
 z53 := Tryz.sizeOf323
 v53 := Tryz.zeroValue323
 t171 := Tryz.underlying322
 a171 := Tryz.isAgg322
 z171 := Tryz.sizeOf322
 v171 := Tryz.zeroValue322
 t173 := Tryz.underlying326
 a173 := Tryz.isAgg326
 z173 := Tryz.sizeOf326
 v173 := Tryz.zeroValue326
 t212 := Tryz.underlying329
 a212 := Tryz.isAgg329
 z212 := Tryz.sizeOf329
 v212 := Tryz.zeroValue329
 t213 := Tryz.underlying331
 a213 := Tryz.isAgg331
 z213 := Tryz.sizeOf331
 t232 := Tryz.underlying336
 a232 := Tryz.isAgg336
 z232 := Tryz.sizeOf336
 v232 := Tryz.zeroValue336
 t233 := Tryz.underlying337
 a233 := Tryz.isAgg337
 z233 := Tryz.sizeOf337
 v233 := Tryz.zeroValue337
 g17 := by kernel_rfl
 g18 := by kernel_rfl
 g19 := by kernel_rfl
 i0 := by kernel_rfl
 i2 := by kernel_rfl
 i3 := by kernel_rfl
 i4 := by kernel_rfl
 i5 := by kernel_rfl
 i9 := by kernel_rfl
 i20 := by kernel_rfl
 i37 := by kernel_rfl
 i46 := by kernel_rfl
 i51 := by kernel_rfl
 i53 := by kernel_rfl
 i171 := by kernel_rfl
 i173 := by kernel_rfl
 i212 := by kernel_rfl
 i232 := by kernel_rfl
 i233 := by kernel_rfl
 m17 := by kernel_rfl
 m18 := by kernel_rfl
 m19 := by kernel_rfl }
def TabW (w : World) : Prop := Lib.TabIs Tryz.prog w "internal/strconv.uint64pow10" .u64 Lib.pow10Tab
theorem TabW.but {w w' : World} (h : TabW w) (hb : But (fun _ => False) w w') : TabW w' := by
 have hB : Below w.heap.size w w' := hb.toBelow (Nat.le_refl _) (fun _ h => h.elim)
 exact (Lib.tabBelow_of_tabIs h) w' hB
theorem itoa_any (n : Int) (h0 : -2147483648 ≤ n) (h1 : n < 2147483648) (w : World) (ht : TabW w) :
  Calls Tryz.prog 181 #[.int .i64 n] w fun en w' => en = .returned (.string ⟨(Lib.itoa n).toArray⟩) ∧ But (fun _ => False) w w' := by
 refine (Go.Proofs.Any.strconv_Itoa laysItoa n (by omega) (by omega) w ht).mono ?_
 rintro en w' ⟨rfl, k, os, rfl⟩
 refine ⟨rfl, (But.drewN _ w k).trans ⟨rfl, rfl, rfl, by simp [Sort.grow], fun i hi _ => ?_⟩⟩
 simp only [Sort.grow]
 exact Array.getElem?_append_left hi
theorem appendInt_any (B n : Nat) (i : Int) (h0 : -2147483648 ≤ i) (h1 : i < 2147483648) (sv : Value) (xs : List Value) (w : World) (ho : w.ownsRow B 5 1 sv n xs) (hB : B ≤ w.heap.size) (hl : n ≤ 100000) (ht : Lib.TabBelow Tryz.prog B w "internal/strconv.uint64pow10" .u64 Lib.pow10Tab) :
  Calls Tryz.prog 248 #[sv, .int .i64 i, .int .i64 10] w fun en w' => ∃ v', en = .returned v' ∧ w'.ownsRow B 5 1 v' (n + (Lib.itoa i).length) (xs ++ Lib.byteCells (Lib.itoa i)) ∧ Below B w w' ∧ Lib.OthersKept 5 none w w' :=
 Go.Proofs.Any.strconv_AppendInt_10 laysAppendInt B n i (by omega) (by omega) sv xs w ho hB (by omega) ht
end Go.Proofs.YtpfkkmacakjmbaaGreatDoor
