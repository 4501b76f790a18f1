import Derived.Test.YtpfkkmacakjmbaaGreatDoorP29
/- The program works a table out. -/
namespace Go.Proofs.YtpfkkmacakjmbaaGreatDoor
open Go Go.RowKit Sp
set_option linter.unusedSimpArgs false
set_option linter.unusedVariables false
attribute [local go_sem ↓] Go.wp_at_zero Go.wp_at_succ
theorem firstW_spec {l : List Bool} : ∀ (f k : Nat), k + f = l.length → (firstW l f k = -1 ∧ ∀ j, k ≤ j → j < l.length → l.getD j false = false) ∨ ∃ j : Nat, firstW l f k = j ∧ j < l.length ∧ l.getD j false = true := by
 intro f
 induction f with
 | zero => intro k hk; exact Or.inl ⟨rfl, fun j h1 h2 => by omega⟩
 | succ f ih =>
  intro k hk
  simp only [firstW]
  by_cases h : l.getD k false = true
  ·exact Or.inr ⟨k, by rw [if_pos h], by omega, h⟩
  ·rw [if_neg h]
   rcases ih (k + 1) (by omega) with ⟨h1, h2⟩ | h1
   ·refine Or.inl ⟨h1, fun j h3 h4 => ?_⟩
    by_cases hj : j = k
    ·subst hj; simpa using h
    ·exact h2 j (by omega) h4
   ·exact Or.inr h1
/-- Who waits has a state. -/
def KnW (tab : List St) (wt : List Bool) : Prop := ∀ k, wt.getD k false = true → ∃ s l, tab[k]? = some (some (s, l))
theorem intoT_known {cs : List Cls} {T : Tn} {j k : Nat} {sb lb s l : List UInt8} (h : T.1[k]? = some (some (s, l))) : ∃ s' l', (intoT cs T j sb lb).1[k]? = some (some (s', l')) := by
 unfold intoT
 split
 ·exact ⟨s, l, h⟩
 split
 ·exact ⟨s, l, h⟩
 split
 ·exact ⟨s, l, h⟩
 rename_i m hm
 split
 ·exact ⟨s, l, h⟩
 simp only
 by_cases hjk : (j : Int).toNat = k
 ·have hk := (List.getElem?_eq_some_iff.1 h).1
  rw [hjk, List.getElem?_set_self hk]
  exact ⟨m.1, m.2, rfl⟩
 ·rw [List.getElem?_set_ne hjk]
  exact ⟨s, l, h⟩
theorem reachW_kn {cs : List Cls} {W : Wn} {j : Nat} {sb lb : List UInt8} (h : KnW W.1 W.2.1) : KnW (reachW cs W j sb lb).1 (reachW cs W j sb lb).2.1 := by
 intro k hk
 unfold reachW at hk ⊢
 simp only at hk ⊢
 by_cases hc : (intoT cs (W.1, false, W.2.2) j sb lb).2.1 = true
 ·rw [if_pos hc] at hk
  by_cases hjk : j = k
  ·subst hjk
   unfold intoT at hc ⊢
   split at hc
   ·cases hc
   split at hc
   ·cases hc
   split at hc
   ·cases hc
   rename_i m hm
   split at hc
   ·cases hc
   rename_i h1 h2 _ _
   rw [if_neg h1, if_neg h2]
   simp only [hm]
   rename_i h4
   rw [if_neg h4]
   simp only
   rw [Int.toNat_natCast, List.getElem?_set_self (by simp at h2; omega)]
   exact ⟨m.1, m.2, rfl⟩
  ·have hk' : W.2.1.getD k false = true := by simpa [List.getD, List.getElem?_set, hjk] using hk
   obtain ⟨s, l, h1⟩ := h k hk'
   exact intoT_known (T := (W.1, false, W.2.2)) h1
 ·rw [if_neg hc] at hk
  obtain ⟨s, l, h1⟩ := h k hk
  exact intoT_known (T := (W.1, false, W.2.2)) h1
theorem reachAll_kn {cs : List Cls} {sb lb : List UInt8} : ∀ {l : List Nat} {W : Wn}, KnW W.1 W.2.1 → KnW (reachAll cs sb lb W l).1 (reachAll cs sb lb W l).2.1 := by
 intro l
 induction l with
 | nil => intro W h; exact h
 | cons j l ih => intro W h; exact ih (W := reachW cs W j sb lb) (reachW_kn h)
theorem followR_kn {im : Img} {bd : Bod} {tab : List St} {wt : List Bool} {a : Nat} {x : Ins} {s l : List UInt8} (h : KnW tab wt) : KnW (followR im bd tab wt a x s l).1 (followR im bd tab wt a x s l).2.1 := by
 unfold followR
 split
 ·exact h
 ·exact reachAll_kn (W := (tab, wt, false)) h
theorem KnW.unset {tab : List St} {wt : List Bool} (h : KnW tab wt) (a : Nat) : KnW tab (wt.set a false) := by
 intro k hk
 by_cases hak : a = k
 ·subst hak
  have h0 : (wt.set a false).getD a false = false := by
   by_cases h : a < wt.length <;> simp [List.getD, h]
  rw [h0] at hk
  cases hk
 ·exact h k (by simpa [List.getD, List.getElem?_set, hak] using hk)
theorem followR_W {im : Img} {bd : Bod} {tab : List St} {wt : List Bool} {a : Nat} {x : Ins} {s l : List UInt8} : followR im bd tab (wt.set a false) a x s l = followW im bd (tab, wt, false) a x s l := by
 unfold followR followW
 cases effT im.classes im.sigs bd x s l <;> rfl
def LoopR (im : Img) (bd : Bod) (tab : List St) (wt : List Bool) (bad : Bool) (mm : Nat) : Prop :=
 (bad = false ∧ InvW im bd (fun _ => False) (tab, wt, false) ∧ LowW im bd (tab, wt, false) ∧ KnW tab wt ∧ muW (tab, wt, false) ≤ mm) ∨ (bad = true ∧ leastT im bd = none)
theorem LoopR.start {im : Img} {bd : Bod} (hbd : WfB im.classes im.sigs bd) : LoopR im bd ((List.replicate bd.code.length (none : St)).set 0 (some ([], bd.locals))) ((List.replicate bd.code.length false).set 0 true) false (muW (startTab bd, (List.replicate bd.code.length false).set 0 true, false)) := by
 have hn := hbd.len.1
 have hst : ∀ k s l, (startTab bd)[k]? = some (some (s, l)) → k = 0 := by
  intro k s l h
  by_cases hk : k = 0
  ·exact hk
  ·unfold startTab at h
   rw [List.getElem?_set_ne (fun e => hk e.symm), List.getElem?_replicate] at h
   split at h <;> simp at h
 refine Or.inl ⟨rfl, ⟨startTab_wf hbd, by simp, leTab_refl _, fun _ k hk _ hw => ?_⟩, fun H hG => ⟨rfl, startTab_below hG⟩, fun k hk => ?_, Nat.le_refl _⟩
 ·intro x s l _ h
  have := hst k s l h
  subst this
  simp [List.getD, hn] at hw
 ·by_cases h0 : k = 0
  ·subst h0
   exact ⟨[], bd.locals, by rw [List.getElem?_set_self (by simpa using hn)]⟩
  ·exfalso
   have h0' : ¬ 0 = k := fun e => h0 e.symm
   simp only [List.getD, List.getElem?_set_ne h0', List.getElem?_replicate] at hk
   split at hk <;> simp at hk
theorem LoopR.next {im : Img} {bd : Bod} (hW : WfI im) (hbd : WfB im.classes im.sigs bd) {tab : List St} {wt : List Bool} {mm a : Nat} (h : LoopR im bd tab wt false mm) (ha : wt.getD a false = true) :
  ∃ x s l, bd.code[a]? = some x ∧ tab[a]? = some (some (s, l)) ∧ wfT im.classes.length bd.locals.length bd.code.length tab ∧ ∀ tab' wt' bad', bad' = (followR im bd tab (wt.set a false) a x s l).2.2 → (bad' = false → tab' = (followR im bd tab (wt.set a false) a x s l).1 ∧ wt' = (followR im bd tab (wt.set a false) a x s l).2.1) → ∃ m', m' < mm ∧ LoopR im bd tab' wt' bad' m' := by
 rcases h with ⟨_, hI, hL, hK, hmu⟩ | ⟨h, _⟩
 ·obtain ⟨s, l, hs⟩ := hK a ha
  have hal := (List.getElem?_eq_some_iff.1 hs).1
  have hwl : tab.length = bd.code.length := hI.wf.1
  obtain ⟨x, hx⟩ : ∃ x, bd.code[a]? = some x := ⟨_, List.getElem?_eq_getElem (by omega)⟩
  refine ⟨x, s, l, hx, hs, hI.wf, ?_⟩
  intro tab' wt' bad' hb ht
  have hK' := followR_kn (im := im) (bd := bd) (a := a) (x := x) (s := s) (l := l) (hK.unset a)
  rw [followR_W] at hb ht hK'
  have hlow := followW_low hW.cls hL hx hs
  cases hbb : (followW im bd (tab, wt, false) a x s l).2.2 with
  | true =>
   rw [hbb] at hb
   have hmu0 : 0 < muW (tab, wt, false) := by
    have := waitN_set_false ha
    unfold muW
    simp only
    omega
   exact ⟨0, by omega, Or.inr ⟨hb, hlow.none hW hbd hbb⟩⟩
  | false =>
   rw [hbb] at hb
   obtain ⟨e1, e2⟩ := ht hb
   obtain ⟨hI', hmu'⟩ := followW_inv hW hbd rfl hI ha hx hs hbb
   have eW : followW im bd (tab, wt, false) a x s l = (tab', wt', false) := by
    rw [e1, e2]
    exact Prod.ext rfl (Prod.ext rfl hbb)
   rw [eW] at hI' hlow hmu' hK'
   exact ⟨muW (tab', wt', false), by omega, Or.inl ⟨hb, hI', hlow, hK', Nat.le_refl _⟩⟩
 ·cases h
theorem LoopR.done {im : Img} {bd : Bod} (hW : WfI im) (hbd : WfB im.classes im.sigs bd) {tab : List St} {wt : List Bool} {mm : Nat} (h : LoopR im bd tab wt false mm) (hn : ∀ k, k < wt.length → wt.getD k false = false) : leastT im bd = some tab := by
 rcases h with ⟨_, hI, hL, hK, hmu⟩ | ⟨h, _⟩
 ·exact InvW.done hW hbd rfl hI hL (fun k hk => hn k (by have := hI.wl; simp only at this; omega))
 ·cases h
theorem StateX_info : (Tryz.prog.info? 117).map (fun i => (i.zero, i.size, i.bytes)) = some (some (.agg #[.bool false, .slice none 0 0, .slice none 0 0]), 3, 56) := by kernel_rfl
theorem BoolX_info : (Tryz.prog.info? 4).map (fun i => (i.zero, i.size, i.bytes)) = some (some (.bool false), 1, 1) := by kernel_rfl
def noSt : St × Value × Value := (none, .slice none 0 0, .slice none 0 0)
theorem made_xtab (n : Nat) : madeCells #[.bool false, .slice none 0 0, .slice none 0 0] (n * 3) = (stCells (List.replicate n noSt)).toArray := by
 apply Array.ext
 ·rw [size_madeCells]
  simp [stCells_len]
 ·intro k h1 h2
  rw [size_madeCells] at h1
  have hk : k = (k / 3) * 3 + k % 3 := by omega
  have hl : (List.replicate n noSt)[k / 3]? = some noSt := by
   rw [List.getElem?_replicate, if_pos (by omega)]
  have := stCells_at (k := k % 3) hl (by omega)
  rw [← hk] at this
  have h3 : (stCells (List.replicate n noSt)).toArray[k]? = some ((stCells (List.replicate n noSt)).toArray[k]) := by rw [Array.getElem?_eq_getElem h2]
  rw [List.getElem?_toArray, this] at h3
  have h4 : (madeCells #[.bool false, .slice none 0 0, .slice none 0 0] (n * 3))[k]'(by rw [size_madeCells]; exact h1) = #[Value.bool false, .slice none 0 0, .slice none 0 0][k % 3]! := by
   simp [madeCells]
  rw [h4]
  generalize k % 3 = r at h3
  match r with
  | 0 => simp [stC, noSt] at h3; exact h3
  | 1 => simp [stC, noSt] at h3; exact h3
  | 2 => simp [stC, noSt] at h3; exact h3
  | r + 3 => simp [stC, noSt] at h3
theorem made_xwt (n : Nat) : madeCells #[.bool false] n = ((List.replicate n false).map Value.bool).toArray := by
 apply Array.ext
 ·rw [size_madeCells]; simp
 ·intro k h1 h2
  have e : k % 1 = 0 := by omega
  simp [madeCells, e]
def noWt (n : Nat) : Array Value := ((List.replicate n false).map Value.bool).toArray
def noTab (n : Nat) : Array Value := (stCells (List.replicate n noSt)).toArray
theorem make_xwt (n : Nat) (hn : n ≤ 1000) (w : World) : (Instr.makeSlice 179 (.int .i64 (n : Int)) (.int .i64 (n : Int))).run Tryz.prog w = .ok (.slice (some ⟨w.heap.size, 0, none⟩) n n) (w.alloc (.cells (noWt n) 4)) := by
 have hinf := BoolX_info
 cases hi : Tryz.prog.info? 4 with
 | none => rw [hi] at hinf; cases hinf
 | some i =>
  rw [hi] at hinf
  simp only [Option.map_some, Option.some.injEq, Prod.mk.injEq] at hinf
  obtain ⟨hz, hs, hb⟩ := hinf
  have := run_make (P := Tryz.prog) w 179 4 i _ (by kernel_rfl) hi hz .i64 .i64 n n (by omega) (by omega) (by rw [hb]; omega) (by omega)
  rw [this, hs]
  simp only [Int.toNat_natCast, Value.cells, Nat.mul_one]
  rw [made_xwt]
  rfl
theorem make_xtab (n : Nat) (hn : n ≤ 1000) (w : World) : (Instr.makeSlice 63 (.int .i64 (n : Int)) (.int .i64 (n : Int))).run Tryz.prog w = .ok (.slice (some ⟨w.heap.size, 0, none⟩) n n) (w.alloc (.cells (noTab n) 117)) := by
 have hinf := StateX_info
 cases hi : Tryz.prog.info? 117 with
 | none => rw [hi] at hinf; cases hinf
 | some i =>
  rw [hi] at hinf
  simp only [Option.map_some, Option.some.injEq, Prod.mk.injEq] at hinf
  obtain ⟨hz, hs, hb⟩ := hinf
  have := run_make (P := Tryz.prog) w 63 117 i _ (by kernel_rfl) hi hz .i64 .i64 n n (by omega) (by omega) (by rw [hb]; omega) (by omega)
  rw [this, hs]
  simp only [Int.toNat_natCast, Value.cells]
  rw [made_xtab]
  rfl
def put9 (w : World) (g : Nat) (x0 x1 x2 x3 x4 x5 x6 x7 x8 : Value) : World := ((((((((w.setCell ⟨g, 0, none⟩ x0).setCell ⟨g, 1, none⟩ x1).setCell ⟨g, 2, none⟩ x2).setCell ⟨g, 3, none⟩ x3).setCell ⟨g, 4, none⟩ x4).setCell ⟨g, 5, none⟩ x5).setCell ⟨g, 6, none⟩ x6).setCell ⟨g, 7, none⟩ x7).setCell ⟨g, 8, none⟩ x8
theorem put9_heap {w : World} {g t : Nat} {a0 a1 a2 a3 a4 a5 a6 a7 a8 : Value} (h : w.heap[g]? = some (.cells #[a0, a1, a2, a3, a4, a5, a6, a7, a8] t)) (x0 x1 x2 x3 x4 x5 x6 x7 x8 : Value) : (put9 w g x0 x1 x2 x3 x4 x5 x6 x7 x8).heap[g]? = some (.cells #[x0, x1, x2, x3, x4, x5, x6, x7, x8] t) := by
 unfold put9
 have h0 : ∀ w : World, w.heap[g]? = some (.cells #[a0, a1, a2, a3, a4, a5, a6, a7, a8] t) → (w.setCell ⟨g, 0, none⟩ x0).heap[g]? = some (.cells #[x0, a1, a2, a3, a4, a5, a6, a7, a8] t) := fun w h => heap_setCell_same w g 0 _ _ x0 h
 have h1 : ∀ w : World, w.heap[g]? = some (.cells #[x0, a1, a2, a3, a4, a5, a6, a7, a8] t) → (w.setCell ⟨g, 1, none⟩ x1).heap[g]? = some (.cells #[x0, x1, a2, a3, a4, a5, a6, a7, a8] t) := fun w h => heap_setCell_same w g 1 _ _ x1 h
 have h2 : ∀ w : World, w.heap[g]? = some (.cells #[x0, x1, a2, a3, a4, a5, a6, a7, a8] t) → (w.setCell ⟨g, 2, none⟩ x2).heap[g]? = some (.cells #[x0, x1, x2, a3, a4, a5, a6, a7, a8] t) := fun w h => heap_setCell_same w g 2 _ _ x2 h
 have h3 : ∀ w : World, w.heap[g]? = some (.cells #[x0, x1, x2, a3, a4, a5, a6, a7, a8] t) → (w.setCell ⟨g, 3, none⟩ x3).heap[g]? = some (.cells #[x0, x1, x2, x3, a4, a5, a6, a7, a8] t) := fun w h => heap_setCell_same w g 3 _ _ x3 h
 have h4 : ∀ w : World, w.heap[g]? = some (.cells #[x0, x1, x2, x3, a4, a5, a6, a7, a8] t) → (w.setCell ⟨g, 4, none⟩ x4).heap[g]? = some (.cells #[x0, x1, x2, x3, x4, a5, a6, a7, a8] t) := fun w h => heap_setCell_same w g 4 _ _ x4 h
 have h5 : ∀ w : World, w.heap[g]? = some (.cells #[x0, x1, x2, x3, x4, a5, a6, a7, a8] t) → (w.setCell ⟨g, 5, none⟩ x5).heap[g]? = some (.cells #[x0, x1, x2, x3, x4, x5, a6, a7, a8] t) := fun w h => heap_setCell_same w g 5 _ _ x5 h
 have h6 : ∀ w : World, w.heap[g]? = some (.cells #[x0, x1, x2, x3, x4, x5, a6, a7, a8] t) → (w.setCell ⟨g, 6, none⟩ x6).heap[g]? = some (.cells #[x0, x1, x2, x3, x4, x5, x6, a7, a8] t) := fun w h => heap_setCell_same w g 6 _ _ x6 h
 have h7 : ∀ w : World, w.heap[g]? = some (.cells #[x0, x1, x2, x3, x4, x5, x6, a7, a8] t) → (w.setCell ⟨g, 7, none⟩ x7).heap[g]? = some (.cells #[x0, x1, x2, x3, x4, x5, x6, x7, a8] t) := fun w h => heap_setCell_same w g 7 _ _ x7 h
 have h8 : ∀ w : World, w.heap[g]? = some (.cells #[x0, x1, x2, x3, x4, x5, x6, x7, a8] t) → (w.setCell ⟨g, 8, none⟩ x8).heap[g]? = some (.cells #[x0, x1, x2, x3, x4, x5, x6, x7, x8] t) := fun w h => heap_setCell_same w g 8 _ _ x8 h
 exact h8 _ (h7 _ (h6 _ (h5 _ (h4 _ (h3 _ (h2 _ (h1 _ (h0 _ h))))))))
theorem But.put {g : Nat} {w w' : World} (h : But (· = g) w w') (k : Nat) (x : Value) : But (· = g) w (w'.setCell ⟨g, k, none⟩ x) := h.trans (But.setB w' g k x)
theorem put9_but (w : World) (g : Nat) (x0 x1 x2 x3 x4 x5 x6 x7 x8 : Value) : But (· = g) w (put9 w g x0 x1 x2 x3 x4 x5 x6 x7 x8) := by
 unfold put9
 exact ((((((((But.setB w g 0 x0).put 1 x1).put 2 x2).put 3 x3).put 4 x4).put 5 x5).put 6 x6).put 7 x7).put 8 x8
theorem row9 {w : World} {g t : Nat} {x0 x1 x2 x3 x4 x5 x6 x7 x8 : Value} (h : w.heap[g]? = some (.cells #[x0, x1, x2, x3, x4, x5, x6, x7, x8] t)) :
  w.cell? ⟨g, 0, none⟩ = some x0 ∧ w.cell? ⟨g, 1, none⟩ = some x1 ∧ w.cell? ⟨g, 2, none⟩ = some x2 ∧ w.cell? ⟨g, 3, none⟩ = some x3 ∧ w.cell? ⟨g, 4, none⟩ = some x4 ∧ w.cell? ⟨g, 5, none⟩ = some x5 ∧ w.cell? ⟨g, 6, none⟩ = some x6 ∧ w.cell? ⟨g, 7, none⟩ = some x7 ∧ w.cell? ⟨g, 8, none⟩ = some x8 := by
 refine ⟨?_, ?_, ?_, ?_, ?_, ?_, ?_, ?_, ?_⟩
 ·rw [cell_of_row w g 0 _ _ (0, 0) h]; rfl
 ·rw [cell_of_row w g 1 _ _ (0, 0) h]; rfl
 ·rw [cell_of_row w g 2 _ _ (0, 0) h]; rfl
 ·rw [cell_of_row w g 3 _ _ (0, 0) h]; rfl
 ·rw [cell_of_row w g 4 _ _ (0, 0) h]; rfl
 ·rw [cell_of_row w g 5 _ _ (0, 0) h]; rfl
 ·rw [cell_of_row w g 6 _ _ (0, 0) h]; rfl
 ·rw [cell_of_row w g 7 _ _ (0, 0) h]; rfl
 ·rw [cell_of_row w g 8 _ _ (0, 0) h]; rfl
theorem froz9 {w : World} {g t : Nat} {cs : Array Value} (h : w.heap[g]? = some (.cells cs t)) : ∀ k, w.frozen? ⟨g, k, none⟩ = false := fun k => frozen_of_row w g k _ _ h
set_option maxHeartbeats 3200000 in
set_option maxRecDepth 100000 in
theorem xleast_any (b : Nat) (im : Img) (bd : Bod) (c : UInt8) (m : Nat) (al ai : Option Addr) (capl capi : Nat) (w : World) (hW : WfI im) (hbd : WfB im.classes im.sigs bd) (hTX : TextX w b im) (hlo : BtB w 0 (.slice al bd.locals.length capl) bd.locals) (hit : ItB w 0 (.slice ai bd.code.length capi) (bd.code.map toXI)) :
  Calls Tryz.prog 65 #[.pointer (some ⟨b, 0, none⟩), hdV c m (toXB im.sigs bd).ans (.slice al bd.locals.length capl) (.slice ai bd.code.length capi)] w fun en w' => But (fun _ => False) w w' ∧
   ((leastT im bd = none ∧ en = .returned (.tuple #[.agg #[.slice none 0 0], .bool false])) ∨ (∃ tb gs, leastT im bd = some tb ∧ en = .returned (.tuple #[.agg #[.slice (some ⟨gs, 0, none⟩) (List.length tb) (List.length tb)], .bool true]) ∧ StB w' gs tb ∧ w.heap.size ≤ gs)) := by
 unfold hdV
 obtain ⟨r, hr⟩ : ∃ r, (toXB im.sigs bd).ans = r := ⟨_, rfl⟩
 have HR := hid hr
 rw [hr]
 clear hr
 have hlen := hbd.len
 have hmkS := make_xtab bd.code.length (by omega)
 have hmkB := make_xwt bd.code.length (by omega)
 have hBb : But (fun _ => False) w ((w.alloc (.cells #[.int .u8 c.toNat, .int .i64 m, .int .u8 r.toNat, .slice al bd.locals.length capl, .slice ai bd.code.length capi] 115)).alloc (.cells #[.slice none 0 0] 65)) := (But.alloc _ _ _).trans (But.alloc _ _ _)
 have hgb : ((w.alloc (.cells #[.int .u8 c.toNat, .int .i64 m, .int .u8 r.toNat, .slice al bd.locals.length capl, .slice ai bd.code.length capi] 115)).alloc (.cells #[.slice none 0 0] 65)).heap[w.heap.size]? = some (.cells #[.int .u8 c.toNat, .int .i64 m, .int .u8 r.toNat, .slice al bd.locals.length capl, .slice ai bd.code.length capi] 115) := by
  rw [Below.heap_alloc _ _ _ (by first | (simp; done) | (simp; omega))]
  exact heap_alloc_new w _
 have hgr : ((w.alloc (.cells #[.int .u8 c.toNat, .int .i64 m, .int .u8 r.toNat, .slice al bd.locals.length capl, .slice ai bd.code.length capi] 115)).alloc (.cells #[.slice none 0 0] 65)).heap[w.heap.size + 1]? = some (.cells #[.slice none 0 0] 65) := heap_alloc_at (by simp) _
 go_enter Tryz.func65, Tryz.ntmps65
 go_wp2_with fail
 revert hBb hgb hgr
 generalize ((w.alloc (.cells #[.int .u8 c.toNat, .int .i64 m, .int .u8 r.toNat, .slice al bd.locals.length capl, .slice ai bd.code.length capi] 115)).alloc (.cells #[.slice none 0 0] 65)) = Wb
 intro hBb hgb hgr
 obtain ⟨k0, k1, k2, k3, k4⟩ := row5 hgb
 have hgbl := lt_of_block hgb
 have hgrl := lt_of_block hgr
 have HGB := hid hgb
 have HGR := hid hgr
 clear hgb hgr
 have hS0 : But (fun _ => False) Wb Wb.drew := But.drew _ _
 refine wpP_begin (But (fun _ => False) Wb) 8 (by kernel_rfl) ?_
 have fSA := hid (fun wS (h : (But (fun _ => False) Wb) wS) => (And.intro ((h.cell (p := ⟨w.heap.size, 0, none⟩) hgbl (fun h => h)).trans k0) (And.intro ((h.cell (p := ⟨w.heap.size, 1, none⟩) hgbl (fun h => h)).trans k1) (And.intro ((h.cell (p := ⟨w.heap.size, 2, none⟩) hgbl (fun h => h)).trans k2) (And.intro ((h.cell (p := ⟨w.heap.size, 3, none⟩) hgbl (fun h => h)).trans k3) ((h.cell (p := ⟨w.heap.size, 4, none⟩) hgbl (fun h => h)).trans k4))))))
 refine wpP_take (k := 0) (v := ?vA0) rfl (by decide) (by kernel_rfl) ?qA0 rfl hS0 ?yA0 ?rA0
 case yA0 => intro wS h; obtain ⟨q0, q1, q2, q3, q4⟩ := fSA.out wS h; clear h; go_simp; try rfl
 case qA0 => exact fun _ _ _ h => h
 dsimp only [Act.put]
 try simp only [puts]
 refine wpP_take (k := 1) (v := ?vA1) rfl (by decide) (by kernel_rfl) ?qA1 rfl hS0 ?yA1 ?rA1
 case yA1 => intro wS h; obtain ⟨q0, q1, q2, q3, q4⟩ := fSA.out wS h; clear h; go_simp; try rfl
 case qA1 => exact fun _ _ _ h => h
 dsimp only [Act.put]
 try simp only [puts]
 refine wpP_take (k := 2) (v := ?vA2) rfl (by decide) (by kernel_rfl) ?qA2 rfl hS0 ?yA2 ?rA2
 case yA2 => intro wS h; obtain ⟨q0, q1, q2, q3, q4⟩ := fSA.out wS h; clear h; go_simp; try rfl
 case qA2 => exact fun _ _ _ h => h
 dsimp only [Act.put]
 try simp only [puts]
 refine wpP_take (k := 4) (v := ?vA4) rfl (by decide) (by kernel_rfl) ?qA4 rfl hS0 ?yA4 ?rA4
 case yA4 => intro wS h; obtain ⟨q0, q1, q2, q3, q4⟩ := fSA.out wS h; clear h; go_simp; try rfl
 case qA4 => exact fun _ _ _ h => h
 dsimp only [Act.put]
 try simp only [puts]
 try clear fSA
 revert hS0
 generalize Wb.drew = w1
 intro hC
 refine wpP_three (k1 := 3) (o1 := ?oA3) (k2 := 5) (o2 := ?oA5) (k3 := 7) (o3 := ?oA7) ?hoA3 ?hoA5 ?hoA7 ?hlA3_5_7 ?hrA3_5_7 ?stA3 ?stA5 ?stA7
 case hoA3 => rfl
 case hoA5 => rfl
 case hoA7 => rfl
 case hlA3_5_7 => decide
 case hrA3_5_7 => kernel_rfl
 case' stA3 =>
  intro KS hKS
  go_simp
  have hN : (w1.alloc (.cells (noTab bd.code.length) 117)).heap[w1.heap.size]? = some (.cells (noTab bd.code.length) 117) := heap_alloc_new _ _
  have hA : But (fun _ => False) w1 (w1.alloc (.cells (noTab bd.code.length) 117)) := But.alloc _ _ _
  have hg3 : Wb.heap.size ≤ w1.heap.size := hC.size
  have hC' := hC.trans hA
  clear hC hA 
  refine hKS.out _ _ (fun _ => hC') ?_
  clear hKS KS
  revert hN hC' hg3 
  generalize (w1.alloc (.cells (noTab bd.code.length) 117)) = w2
  generalize w1.heap.size = gs
  intro hh3 hg3 hC 
  refine wpP_two (k1 := 5) (o1 := ?oB5) (k2 := 7) (o2 := ?oB7) ?hoB5 ?hoB7 ?hlB5_7 ?hrB5_7 ?stB5 ?stB7
  case hoB5 => rfl
  case hoB7 => rfl
  case hlB5_7 => decide
  case hrB5_7 => kernel_rfl
  case' stB5 =>
   intro KS hKS
   go_simp
   have hN : (w2.alloc (.cells (noWt bd.code.length) 4)).heap[w2.heap.size]? = some (.cells (noWt bd.code.length) 4) := heap_alloc_new _ _
   have hA : But (fun _ => False) w2 (w2.alloc (.cells (noWt bd.code.length) 4)) := But.alloc _ _ _
   have hg5 : Wb.heap.size ≤ w2.heap.size := hC.size
   have hC' := hC.trans hA
   have hh3' := (hA.block gs (lt_of_block hh3) (fun h => h)).trans hh3
   clear hC hA hh3
   refine hKS.out _ _ (fun _ => hC') ?_
   clear hKS KS
   revert hN hC' hg5 hh3'
   generalize (w2.alloc (.cells (noWt bd.code.length) 4)) = w3
   generalize w2.heap.size = gw
   intro hh5 hg5 hC hh3
   refine wpP_take (k := 6) (v := ?vBbxq6) rfl (by decide) (by kernel_rfl) ?qBbxq6 rfl hC ?yBbxq6 ?rBbxq6
   case yBbxq6 => intro wS h; clear h; go_simp; try rfl
   case qBbxq6 => exact fun _ _ _ h => h
   dsimp only [Act.put]
   try simp only [puts]
   refine wpP_step (k := 7) (o := ?oBbx7) ?hoBbx7 ?hlBbx7 ?hrBbx7 ?stBbx7
   case hoBbx7 => rfl
   case hlBbx7 => decide
   case hrBbx7 => kernel_rfl
   case' stBbx7 =>
   intro KS hKS
   go_simp
   have hN : (w3.alloc (.cells #[.pointer none, .int .u8 0, .int .i64 0, .int .u8 0, .slice none 0 0, .slice none 0 0, .slice none 0 0, .slice none 0 0, .bool false] 181)).heap[w3.heap.size]? = some (.cells #[.pointer none, .int .u8 0, .int .i64 0, .int .u8 0, .slice none 0 0, .slice none 0 0, .slice none 0 0, .slice none 0 0, .bool false] 181) := heap_alloc_new _ _
   have hA : But (fun _ => False) w3 (w3.alloc (.cells #[.pointer none, .int .u8 0, .int .i64 0, .int .u8 0, .slice none 0 0, .slice none 0 0, .slice none 0 0, .slice none 0 0, .bool false] 181)) := But.alloc _ _ _
   have hg7 : Wb.heap.size ≤ w3.heap.size := hC.size
   have hC' := hC.trans hA
   have hh3' := (hA.block gs (lt_of_block hh3) (fun h => h)).trans hh3
   have hh5' := (hA.block gw (lt_of_block hh5) (fun h => h)).trans hh5
   clear hC hA hh3 hh5
   refine hKS.out _ _ (fun _ => hC') ?_
   clear hKS KS
   revert hN hC' hg7 hh3' hh5'
   generalize (w3.alloc (.cells #[.pointer none, .int .u8 0, .int .i64 0, .int .u8 0, .slice none 0 0, .slice none 0 0, .slice none 0 0, .slice none 0 0, .bool false] 181)) = w4
   generalize w3.heap.size = bb
   intro hh7 hg7 hC hh3 hh5
   obtain ⟨q0, q1, q2, q3, q4, q5, q6, q7, q8⟩ := row9 hh7
   have fz := froz9 hh7
   have hbl := lt_of_block hh7
   have ne1 : bb ≠ gs := fun e => by rw [e, hh3] at hh7; injection hh7 with h; injection h with _ h2; exact absurd h2 (by decide)
   have ne2 : bb ≠ gw := fun e => by rw [e, hh5] at hh7; injection hh7 with h; injection h with _ h2; exact absurd h2 (by decide)
   have hP := put9_heap hh7 (.pointer (some ⟨b, 0, none⟩)) (.int .u8 c.toNat) (.int .i64 m) (.int .u8 r.toNat) (.slice al bd.locals.length capl) (.slice ai bd.code.length capi) (.slice (some ⟨gs, 0, none⟩) bd.code.length bd.code.length) (.slice (some ⟨gw, 0, none⟩) bd.code.length bd.code.length) (.bool false)
   have hQ := put9_but w4 bb (.pointer (some ⟨b, 0, none⟩)) (.int .u8 c.toNat) (.int .i64 m) (.int .u8 r.toNat) (.slice al bd.locals.length capl) (.slice ai bd.code.length capi) (.slice (some ⟨gs, 0, none⟩) bd.code.length bd.code.length) (.slice (some ⟨gw, 0, none⟩) bd.code.length bd.code.length) (.bool false)
   have hh3' := (hQ.block gs (lt_of_block hh3) (fun e => ne1 e.symm)).trans hh3
   have hh5' := (hQ.block gw (lt_of_block hh5) (fun e => ne2 e.symm)).trans hh5
   have hC' := hC.next hQ (fun k hk e => by omega)
   unfold put9 at hP hQ hh3' hh5' hC'
   clear hh3 hh5 hh7 hC hQ ne1 ne2
   have f0 := fz 0
   have f1 := fz 1
   have f2 := fz 2
   have f3 := fz 3
   have f4 := fz 4
   have f5 := fz 5
   have f6 := fz 6
   have f7 := fz 7
   have f8 := fz 8
   clear fz
   refine wpP_step (k := 8) (o := ?oBbxz8) ?hoBbxz8 ?hlBbxz8 ?hrBbxz8 ?stBbxz8
   case hoBbxz8 => rfl
   case hlBbxz8 => decide
   case hrBbxz8 => kernel_rfl
   case' stBbxz8 =>
   intro KS hKS
   go_simp
   refine hKS.out _ _ (fun h => absurd h (by decide)) ?_
   clear hKS KS
   refine wpP_done rfl (by kernel_rfl) ?_
   clear q0 q1 q2 q3 q4 q5 q6 q7 q8 f0 f1 f2 f3 f4 f5 f6 f7 f8 hbl
   revert hP hh3' hh5' hC'
   generalize ((((((((w4.setCell ⟨bb, 0, none⟩ (.pointer (some ⟨b, 0, none⟩))).setCell ⟨bb, 1, none⟩ (.int .u8 c.toNat)).setCell ⟨bb, 2, none⟩ (.int .i64 m)).setCell ⟨bb, 3, none⟩ (.int .u8 r.toNat)).setCell ⟨bb, 4, none⟩ (.slice al bd.locals.length capl)).setCell ⟨bb, 5, none⟩ (.slice ai bd.code.length capi)).setCell ⟨bb, 6, none⟩ (.slice (some ⟨gs, 0, none⟩) bd.code.length bd.code.length)).setCell ⟨bb, 7, none⟩ (.slice (some ⟨gw, 0, none⟩) bd.code.length bd.code.length)).setCell ⟨bb, 8, none⟩ (.bool false) = wz
   intro hh7 hh3 hh5 hC
  case' stB7 =>
   intro KS hKS
   go_simp
   have hN : (w2.alloc (.cells #[.pointer none, .int .u8 0, .int .i64 0, .int .u8 0, .slice none 0 0, .slice none 0 0, .slice none 0 0, .slice none 0 0, .bool false] 181)).heap[w2.heap.size]? = some (.cells #[.pointer none, .int .u8 0, .int .i64 0, .int .u8 0, .slice none 0 0, .slice none 0 0, .slice none 0 0, .slice none 0 0, .bool false] 181) := heap_alloc_new _ _
   have hA : But (fun _ => False) w2 (w2.alloc (.cells #[.pointer none, .int .u8 0, .int .i64 0, .int .u8 0, .slice none 0 0, .slice none 0 0, .slice none 0 0, .slice none 0 0, .bool false] 181)) := But.alloc _ _ _
   have hg7 : Wb.heap.size ≤ w2.heap.size := hC.size
   have hC' := hC.trans hA
   have hh3' := (hA.block gs (lt_of_block hh3) (fun h => h)).trans hh3
   clear hC hA hh3
   refine hKS.out _ _ (fun _ => hC') ?_
   clear hKS KS
   revert hN hC' hg7 hh3'
   generalize (w2.alloc (.cells #[.pointer none, .int .u8 0, .int .i64 0, .int .u8 0, .slice none 0 0, .slice none 0 0, .slice none 0 0, .slice none 0 0, .bool false] 181)) = w3
   generalize w2.heap.size = bb
   intro hh7 hg7 hC hh3
   refine wpP_step (k := 5) (o := ?oBcx5) ?hoBcx5 ?hlBcx5 ?hrBcx5 ?stBcx5
   case hoBcx5 => rfl
   case hlBcx5 => decide
   case hrBcx5 => kernel_rfl
   case' stBcx5 =>
   intro KS hKS
   go_simp
   have hN : (w3.alloc (.cells (noWt bd.code.length) 4)).heap[w3.heap.size]? = some (.cells (noWt bd.code.length) 4) := heap_alloc_new _ _
   have hA : But (fun _ => False) w3 (w3.alloc (.cells (noWt bd.code.length) 4)) := But.alloc _ _ _
   have hg5 : Wb.heap.size ≤ w3.heap.size := hC.size
   have hC' := hC.trans hA
   have hh3' := (hA.block gs (lt_of_block hh3) (fun h => h)).trans hh3
   have hh7' := (hA.block bb (lt_of_block hh7) (fun h => h)).trans hh7
   clear hC hA hh3 hh7
   refine hKS.out _ _ (fun _ => hC') ?_
   clear hKS KS
   revert hN hC' hg5 hh3' hh7'
   generalize (w3.alloc (.cells (noWt bd.code.length) 4)) = w4
   generalize w3.heap.size = gw
   intro hh5 hg5 hC hh3 hh7
   refine wpP_take (k := 6) (v := ?vBcxz6) rfl (by decide) (by kernel_rfl) ?qBcxz6 rfl hC ?yBcxz6 ?rBcxz6
   case yBcxz6 => intro wS h; clear h; go_simp; try rfl
   case qBcxz6 => exact fun _ _ _ h => h
   dsimp only [Act.put]
   try simp only [puts]
   obtain ⟨q0, q1, q2, q3, q4, q5, q6, q7, q8⟩ := row9 hh7
   have fz := froz9 hh7
   have hbl := lt_of_block hh7
   have ne1 : bb ≠ gs := fun e => by rw [e, hh3] at hh7; injection hh7 with h; injection h with _ h2; exact absurd h2 (by decide)
   have ne2 : bb ≠ gw := fun e => by rw [e, hh5] at hh7; injection hh7 with h; injection h with _ h2; exact absurd h2 (by decide)
   have hP := put9_heap hh7 (.pointer (some ⟨b, 0, none⟩)) (.int .u8 c.toNat) (.int .i64 m) (.int .u8 r.toNat) (.slice al bd.locals.length capl) (.slice ai bd.code.length capi) (.slice (some ⟨gs, 0, none⟩) bd.code.length bd.code.length) (.slice (some ⟨gw, 0, none⟩) bd.code.length bd.code.length) (.bool false)
   have hQ := put9_but w4 bb (.pointer (some ⟨b, 0, none⟩)) (.int .u8 c.toNat) (.int .i64 m) (.int .u8 r.toNat) (.slice al bd.locals.length capl) (.slice ai bd.code.length capi) (.slice (some ⟨gs, 0, none⟩) bd.code.length bd.code.length) (.slice (some ⟨gw, 0, none⟩) bd.code.length bd.code.length) (.bool false)
   have hh3' := (hQ.block gs (lt_of_block hh3) (fun e => ne1 e.symm)).trans hh3
   have hh5' := (hQ.block gw (lt_of_block hh5) (fun e => ne2 e.symm)).trans hh5
   have hC' := hC.next hQ (fun k hk e => by omega)
   unfold put9 at hP hQ hh3' hh5' hC'
   clear hh3 hh5 hh7 hC hQ ne1 ne2
   have f0 := fz 0
   have f1 := fz 1
   have f2 := fz 2
   have f3 := fz 3
   have f4 := fz 4
   have f5 := fz 5
   have f6 := fz 6
   have f7 := fz 7
   have f8 := fz 8
   clear fz
   refine wpP_step (k := 8) (o := ?oBcxz8) ?hoBcxz8 ?hlBcxz8 ?hrBcxz8 ?stBcxz8
   case hoBcxz8 => rfl
   case hlBcxz8 => decide
   case hrBcxz8 => kernel_rfl
   case' stBcxz8 =>
   intro KS hKS
   go_simp
   refine hKS.out _ _ (fun h => absurd h (by decide)) ?_
   clear hKS KS
   refine wpP_done rfl (by kernel_rfl) ?_
   clear q0 q1 q2 q3 q4 q5 q6 q7 q8 f0 f1 f2 f3 f4 f5 f6 f7 f8 hbl
   revert hP hh3' hh5' hC'
   generalize ((((((((w4.setCell ⟨bb, 0, none⟩ (.pointer (some ⟨b, 0, none⟩))).setCell ⟨bb, 1, none⟩ (.int .u8 c.toNat)).setCell ⟨bb, 2, none⟩ (.int .i64 m)).setCell ⟨bb, 3, none⟩ (.int .u8 r.toNat)).setCell ⟨bb, 4, none⟩ (.slice al bd.locals.length capl)).setCell ⟨bb, 5, none⟩ (.slice ai bd.code.length capi)).setCell ⟨bb, 6, none⟩ (.slice (some ⟨gs, 0, none⟩) bd.code.length bd.code.length)).setCell ⟨bb, 7, none⟩ (.slice (some ⟨gw, 0, none⟩) bd.code.length bd.code.length)).setCell ⟨bb, 8, none⟩ (.bool false) = wz
   intro hh7 hh3 hh5 hC
 case' stA5 =>
  intro KS hKS
  go_simp
  have hN : (w1.alloc (.cells (noWt bd.code.length) 4)).heap[w1.heap.size]? = some (.cells (noWt bd.code.length) 4) := heap_alloc_new _ _
  have hA : But (fun _ => False) w1 (w1.alloc (.cells (noWt bd.code.length) 4)) := But.alloc _ _ _
  have hg5 : Wb.heap.size ≤ w1.heap.size := hC.size
  have hC' := hC.trans hA
  clear hC hA 
  refine hKS.out _ _ (fun _ => hC') ?_
  clear hKS KS
  revert hN hC' hg5 
  generalize (w1.alloc (.cells (noWt bd.code.length) 4)) = w2
  generalize w1.heap.size = gw
  intro hh5 hg5 hC 
  refine wpP_two (k1 := 3) (o1 := ?oC3) (k2 := 7) (o2 := ?oC7) ?hoC3 ?hoC7 ?hlC3_7 ?hrC3_7 ?stC3 ?stC7
  case hoC3 => rfl
  case hoC7 => rfl
  case hlC3_7 => decide
  case hrC3_7 => kernel_rfl
  case' stC3 =>
   intro KS hKS
   go_simp
   have hN : (w2.alloc (.cells (noTab bd.code.length) 117)).heap[w2.heap.size]? = some (.cells (noTab bd.code.length) 117) := heap_alloc_new _ _
   have hA : But (fun _ => False) w2 (w2.alloc (.cells (noTab bd.code.length) 117)) := But.alloc _ _ _
   have hg3 : Wb.heap.size ≤ w2.heap.size := hC.size
   have hC' := hC.trans hA
   have hh5' := (hA.block gw (lt_of_block hh5) (fun h => h)).trans hh5
   clear hC hA hh5
   refine hKS.out _ _ (fun _ => hC') ?_
   clear hKS KS
   revert hN hC' hg3 hh5'
   generalize (w2.alloc (.cells (noTab bd.code.length) 117)) = w3
   generalize w2.heap.size = gs
   intro hh3 hg3 hC hh5
   refine wpP_take (k := 6) (v := ?vCaxq6) rfl (by decide) (by kernel_rfl) ?qCaxq6 rfl hC ?yCaxq6 ?rCaxq6
   case yCaxq6 => intro wS h; clear h; go_simp; try rfl
   case qCaxq6 => exact fun _ _ _ h => h
   dsimp only [Act.put]
   try simp only [puts]
   refine wpP_step (k := 7) (o := ?oCax7) ?hoCax7 ?hlCax7 ?hrCax7 ?stCax7
   case hoCax7 => rfl
   case hlCax7 => decide
   case hrCax7 => kernel_rfl
   case' stCax7 =>
   intro KS hKS
   go_simp
   have hN : (w3.alloc (.cells #[.pointer none, .int .u8 0, .int .i64 0, .int .u8 0, .slice none 0 0, .slice none 0 0, .slice none 0 0, .slice none 0 0, .bool false] 181)).heap[w3.heap.size]? = some (.cells #[.pointer none, .int .u8 0, .int .i64 0, .int .u8 0, .slice none 0 0, .slice none 0 0, .slice none 0 0, .slice none 0 0, .bool false] 181) := heap_alloc_new _ _
   have hA : But (fun _ => False) w3 (w3.alloc (.cells #[.pointer none, .int .u8 0, .int .i64 0, .int .u8 0, .slice none 0 0, .slice none 0 0, .slice none 0 0, .slice none 0 0, .bool false] 181)) := But.alloc _ _ _
   have hg7 : Wb.heap.size ≤ w3.heap.size := hC.size
   have hC' := hC.trans hA
   have hh5' := (hA.block gw (lt_of_block hh5) (fun h => h)).trans hh5
   have hh3' := (hA.block gs (lt_of_block hh3) (fun h => h)).trans hh3
   clear hC hA hh5 hh3
   refine hKS.out _ _ (fun _ => hC') ?_
   clear hKS KS
   revert hN hC' hg7 hh5' hh3'
   generalize (w3.alloc (.cells #[.pointer none, .int .u8 0, .int .i64 0, .int .u8 0, .slice none 0 0, .slice none 0 0, .slice none 0 0, .slice none 0 0, .bool false] 181)) = w4
   generalize w3.heap.size = bb
   intro hh7 hg7 hC hh5 hh3
   obtain ⟨q0, q1, q2, q3, q4, q5, q6, q7, q8⟩ := row9 hh7
   have fz := froz9 hh7
   have hbl := lt_of_block hh7
   have ne1 : bb ≠ gs := fun e => by rw [e, hh3] at hh7; injection hh7 with h; injection h with _ h2; exact absurd h2 (by decide)
   have ne2 : bb ≠ gw := fun e => by rw [e, hh5] at hh7; injection hh7 with h; injection h with _ h2; exact absurd h2 (by decide)
   have hP := put9_heap hh7 (.pointer (some ⟨b, 0, none⟩)) (.int .u8 c.toNat) (.int .i64 m) (.int .u8 r.toNat) (.slice al bd.locals.length capl) (.slice ai bd.code.length capi) (.slice (some ⟨gs, 0, none⟩) bd.code.length bd.code.length) (.slice (some ⟨gw, 0, none⟩) bd.code.length bd.code.length) (.bool false)
   have hQ := put9_but w4 bb (.pointer (some ⟨b, 0, none⟩)) (.int .u8 c.toNat) (.int .i64 m) (.int .u8 r.toNat) (.slice al bd.locals.length capl) (.slice ai bd.code.length capi) (.slice (some ⟨gs, 0, none⟩) bd.code.length bd.code.length) (.slice (some ⟨gw, 0, none⟩) bd.code.length bd.code.length) (.bool false)
   have hh3' := (hQ.block gs (lt_of_block hh3) (fun e => ne1 e.symm)).trans hh3
   have hh5' := (hQ.block gw (lt_of_block hh5) (fun e => ne2 e.symm)).trans hh5
   have hC' := hC.next hQ (fun k hk e => by omega)
   unfold put9 at hP hQ hh3' hh5' hC'
   clear hh3 hh5 hh7 hC hQ ne1 ne2
   have f0 := fz 0
   have f1 := fz 1
   have f2 := fz 2
   have f3 := fz 3
   have f4 := fz 4
   have f5 := fz 5
   have f6 := fz 6
   have f7 := fz 7
   have f8 := fz 8
   clear fz
   refine wpP_step (k := 8) (o := ?oCaxz8) ?hoCaxz8 ?hlCaxz8 ?hrCaxz8 ?stCaxz8
   case hoCaxz8 => rfl
   case hlCaxz8 => decide
   case hrCaxz8 => kernel_rfl
   case' stCaxz8 =>
   intro KS hKS
   go_simp
   refine hKS.out _ _ (fun h => absurd h (by decide)) ?_
   clear hKS KS
   refine wpP_done rfl (by kernel_rfl) ?_
   clear q0 q1 q2 q3 q4 q5 q6 q7 q8 f0 f1 f2 f3 f4 f5 f6 f7 f8 hbl
   revert hP hh3' hh5' hC'
   generalize ((((((((w4.setCell ⟨bb, 0, none⟩ (.pointer (some ⟨b, 0, none⟩))).setCell ⟨bb, 1, none⟩ (.int .u8 c.toNat)).setCell ⟨bb, 2, none⟩ (.int .i64 m)).setCell ⟨bb, 3, none⟩ (.int .u8 r.toNat)).setCell ⟨bb, 4, none⟩ (.slice al bd.locals.length capl)).setCell ⟨bb, 5, none⟩ (.slice ai bd.code.length capi)).setCell ⟨bb, 6, none⟩ (.slice (some ⟨gs, 0, none⟩) bd.code.length bd.code.length)).setCell ⟨bb, 7, none⟩ (.slice (some ⟨gw, 0, none⟩) bd.code.length bd.code.length)).setCell ⟨bb, 8, none⟩ (.bool false) = wz
   intro hh7 hh3 hh5 hC
  case' stC7 =>
   intro KS hKS
   go_simp
   have hN : (w2.alloc (.cells #[.pointer none, .int .u8 0, .int .i64 0, .int .u8 0, .slice none 0 0, .slice none 0 0, .slice none 0 0, .slice none 0 0, .bool false] 181)).heap[w2.heap.size]? = some (.cells #[.pointer none, .int .u8 0, .int .i64 0, .int .u8 0, .slice none 0 0, .slice none 0 0, .slice none 0 0, .slice none 0 0, .bool false] 181) := heap_alloc_new _ _
   have hA : But (fun _ => False) w2 (w2.alloc (.cells #[.pointer none, .int .u8 0, .int .i64 0, .int .u8 0, .slice none 0 0, .slice none 0 0, .slice none 0 0, .slice none 0 0, .bool false] 181)) := But.alloc _ _ _
   have hg7 : Wb.heap.size ≤ w2.heap.size := hC.size
   have hC' := hC.trans hA
   have hh5' := (hA.block gw (lt_of_block hh5) (fun h => h)).trans hh5
   clear hC hA hh5
   refine hKS.out _ _ (fun _ => hC') ?_
   clear hKS KS
   revert hN hC' hg7 hh5'
   generalize (w2.alloc (.cells #[.pointer none, .int .u8 0, .int .i64 0, .int .u8 0, .slice none 0 0, .slice none 0 0, .slice none 0 0, .slice none 0 0, .bool false] 181)) = w3
   generalize w2.heap.size = bb
   intro hh7 hg7 hC hh5
   refine wpP_step (k := 3) (o := ?oCcx3) ?hoCcx3 ?hlCcx3 ?hrCcx3 ?stCcx3
   case hoCcx3 => rfl
   case hlCcx3 => decide
   case hrCcx3 => kernel_rfl
   case' stCcx3 =>
   intro KS hKS
   go_simp
   have hN : (w3.alloc (.cells (noTab bd.code.length) 117)).heap[w3.heap.size]? = some (.cells (noTab bd.code.length) 117) := heap_alloc_new _ _
   have hA : But (fun _ => False) w3 (w3.alloc (.cells (noTab bd.code.length) 117)) := But.alloc _ _ _
   have hg3 : Wb.heap.size ≤ w3.heap.size := hC.size
   have hC' := hC.trans hA
   have hh5' := (hA.block gw (lt_of_block hh5) (fun h => h)).trans hh5
   have hh7' := (hA.block bb (lt_of_block hh7) (fun h => h)).trans hh7
   clear hC hA hh5 hh7
   refine hKS.out _ _ (fun _ => hC') ?_
   clear hKS KS
   revert hN hC' hg3 hh5' hh7'
   generalize (w3.alloc (.cells (noTab bd.code.length) 117)) = w4
   generalize w3.heap.size = gs
   intro hh3 hg3 hC hh5 hh7
   refine wpP_take (k := 6) (v := ?vCcxz6) rfl (by decide) (by kernel_rfl) ?qCcxz6 rfl hC ?yCcxz6 ?rCcxz6
   case yCcxz6 => intro wS h; clear h; go_simp; try rfl
   case qCcxz6 => exact fun _ _ _ h => h
   dsimp only [Act.put]
   try simp only [puts]
   obtain ⟨q0, q1, q2, q3, q4, q5, q6, q7, q8⟩ := row9 hh7
   have fz := froz9 hh7
   have hbl := lt_of_block hh7
   have ne1 : bb ≠ gs := fun e => by rw [e, hh3] at hh7; injection hh7 with h; injection h with _ h2; exact absurd h2 (by decide)
   have ne2 : bb ≠ gw := fun e => by rw [e, hh5] at hh7; injection hh7 with h; injection h with _ h2; exact absurd h2 (by decide)
   have hP := put9_heap hh7 (.pointer (some ⟨b, 0, none⟩)) (.int .u8 c.toNat) (.int .i64 m) (.int .u8 r.toNat) (.slice al bd.locals.length capl) (.slice ai bd.code.length capi) (.slice (some ⟨gs, 0, none⟩) bd.code.length bd.code.length) (.slice (some ⟨gw, 0, none⟩) bd.code.length bd.code.length) (.bool false)
   have hQ := put9_but w4 bb (.pointer (some ⟨b, 0, none⟩)) (.int .u8 c.toNat) (.int .i64 m) (.int .u8 r.toNat) (.slice al bd.locals.length capl) (.slice ai bd.code.length capi) (.slice (some ⟨gs, 0, none⟩) bd.code.length bd.code.length) (.slice (some ⟨gw, 0, none⟩) bd.code.length bd.code.length) (.bool false)
   have hh3' := (hQ.block gs (lt_of_block hh3) (fun e => ne1 e.symm)).trans hh3
   have hh5' := (hQ.block gw (lt_of_block hh5) (fun e => ne2 e.symm)).trans hh5
   have hC' := hC.next hQ (fun k hk e => by omega)
   unfold put9 at hP hQ hh3' hh5' hC'
   clear hh3 hh5 hh7 hC hQ ne1 ne2
   have f0 := fz 0
   have f1 := fz 1
   have f2 := fz 2
   have f3 := fz 3
   have f4 := fz 4
   have f5 := fz 5
   have f6 := fz 6
   have f7 := fz 7
   have f8 := fz 8
   clear fz
   refine wpP_step (k := 8) (o := ?oCcxz8) ?hoCcxz8 ?hlCcxz8 ?hrCcxz8 ?stCcxz8
   case hoCcxz8 => rfl
   case hlCcxz8 => decide
   case hrCcxz8 => kernel_rfl
   case' stCcxz8 =>
   intro KS hKS
   go_simp
   refine hKS.out _ _ (fun h => absurd h (by decide)) ?_
   clear hKS KS
   refine wpP_done rfl (by kernel_rfl) ?_
   clear q0 q1 q2 q3 q4 q5 q6 q7 q8 f0 f1 f2 f3 f4 f5 f6 f7 f8 hbl
   revert hP hh3' hh5' hC'
   generalize ((((((((w4.setCell ⟨bb, 0, none⟩ (.pointer (some ⟨b, 0, none⟩))).setCell ⟨bb, 1, none⟩ (.int .u8 c.toNat)).setCell ⟨bb, 2, none⟩ (.int .i64 m)).setCell ⟨bb, 3, none⟩ (.int .u8 r.toNat)).setCell ⟨bb, 4, none⟩ (.slice al bd.locals.length capl)).setCell ⟨bb, 5, none⟩ (.slice ai bd.code.length capi)).setCell ⟨bb, 6, none⟩ (.slice (some ⟨gs, 0, none⟩) bd.code.length bd.code.length)).setCell ⟨bb, 7, none⟩ (.slice (some ⟨gw, 0, none⟩) bd.code.length bd.code.length)).setCell ⟨bb, 8, none⟩ (.bool false) = wz
   intro hh7 hh3 hh5 hC
 case' stA7 =>
  intro KS hKS
  go_simp
  have hN : (w1.alloc (.cells #[.pointer none, .int .u8 0, .int .i64 0, .int .u8 0, .slice none 0 0, .slice none 0 0, .slice none 0 0, .slice none 0 0, .bool false] 181)).heap[w1.heap.size]? = some (.cells #[.pointer none, .int .u8 0, .int .i64 0, .int .u8 0, .slice none 0 0, .slice none 0 0, .slice none 0 0, .slice none 0 0, .bool false] 181) := heap_alloc_new _ _
  have hA : But (fun _ => False) w1 (w1.alloc (.cells #[.pointer none, .int .u8 0, .int .i64 0, .int .u8 0, .slice none 0 0, .slice none 0 0, .slice none 0 0, .slice none 0 0, .bool false] 181)) := But.alloc _ _ _
  have hg7 : Wb.heap.size ≤ w1.heap.size := hC.size
  have hC' := hC.trans hA
  clear hC hA 
  refine hKS.out _ _ (fun _ => hC') ?_
  clear hKS KS
  revert hN hC' hg7 
  generalize (w1.alloc (.cells #[.pointer none, .int .u8 0, .int .i64 0, .int .u8 0, .slice none 0 0, .slice none 0 0, .slice none 0 0, .slice none 0 0, .bool false] 181)) = w2
  generalize w1.heap.size = bb
  intro hh7 hg7 hC 
  refine wpP_two (k1 := 3) (o1 := ?oD3) (k2 := 5) (o2 := ?oD5) ?hoD3 ?hoD5 ?hlD3_5 ?hrD3_5 ?stD3 ?stD5
  case hoD3 => rfl
  case hoD5 => rfl
  case hlD3_5 => decide
  case hrD3_5 => kernel_rfl
  case' stD3 =>
   intro KS hKS
   go_simp
   have hN : (w2.alloc (.cells (noTab bd.code.length) 117)).heap[w2.heap.size]? = some (.cells (noTab bd.code.length) 117) := heap_alloc_new _ _
   have hA : But (fun _ => False) w2 (w2.alloc (.cells (noTab bd.code.length) 117)) := But.alloc _ _ _
   have hg3 : Wb.heap.size ≤ w2.heap.size := hC.size
   have hC' := hC.trans hA
   have hh7' := (hA.block bb (lt_of_block hh7) (fun h => h)).trans hh7
   clear hC hA hh7
   refine hKS.out _ _ (fun _ => hC') ?_
   clear hKS KS
   revert hN hC' hg3 hh7'
   generalize (w2.alloc (.cells (noTab bd.code.length) 117)) = w3
   generalize w2.heap.size = gs
   intro hh3 hg3 hC hh7
   refine wpP_step (k := 5) (o := ?oDax5) ?hoDax5 ?hlDax5 ?hrDax5 ?stDax5
   case hoDax5 => rfl
   case hlDax5 => decide
   case hrDax5 => kernel_rfl
   case' stDax5 =>
   intro KS hKS
   go_simp
   have hN : (w3.alloc (.cells (noWt bd.code.length) 4)).heap[w3.heap.size]? = some (.cells (noWt bd.code.length) 4) := heap_alloc_new _ _
   have hA : But (fun _ => False) w3 (w3.alloc (.cells (noWt bd.code.length) 4)) := But.alloc _ _ _
   have hg5 : Wb.heap.size ≤ w3.heap.size := hC.size
   have hC' := hC.trans hA
   have hh7' := (hA.block bb (lt_of_block hh7) (fun h => h)).trans hh7
   have hh3' := (hA.block gs (lt_of_block hh3) (fun h => h)).trans hh3
   clear hC hA hh7 hh3
   refine hKS.out _ _ (fun _ => hC') ?_
   clear hKS KS
   revert hN hC' hg5 hh7' hh3'
   generalize (w3.alloc (.cells (noWt bd.code.length) 4)) = w4
   generalize w3.heap.size = gw
   intro hh5 hg5 hC hh7 hh3
   refine wpP_take (k := 6) (v := ?vDaxz6) rfl (by decide) (by kernel_rfl) ?qDaxz6 rfl hC ?yDaxz6 ?rDaxz6
   case yDaxz6 => intro wS h; clear h; go_simp; try rfl
   case qDaxz6 => exact fun _ _ _ h => h
   dsimp only [Act.put]
   try simp only [puts]
   obtain ⟨q0, q1, q2, q3, q4, q5, q6, q7, q8⟩ := row9 hh7
   have fz := froz9 hh7
   have hbl := lt_of_block hh7
   have ne1 : bb ≠ gs := fun e => by rw [e, hh3] at hh7; injection hh7 with h; injection h with _ h2; exact absurd h2 (by decide)
   have ne2 : bb ≠ gw := fun e => by rw [e, hh5] at hh7; injection hh7 with h; injection h with _ h2; exact absurd h2 (by decide)
   have hP := put9_heap hh7 (.pointer (some ⟨b, 0, none⟩)) (.int .u8 c.toNat) (.int .i64 m) (.int .u8 r.toNat) (.slice al bd.locals.length capl) (.slice ai bd.code.length capi) (.slice (some ⟨gs, 0, none⟩) bd.code.length bd.code.length) (.slice (some ⟨gw, 0, none⟩) bd.code.length bd.code.length) (.bool false)
   have hQ := put9_but w4 bb (.pointer (some ⟨b, 0, none⟩)) (.int .u8 c.toNat) (.int .i64 m) (.int .u8 r.toNat) (.slice al bd.locals.length capl) (.slice ai bd.code.length capi) (.slice (some ⟨gs, 0, none⟩) bd.code.length bd.code.length) (.slice (some ⟨gw, 0, none⟩) bd.code.length bd.code.length) (.bool false)
   have hh3' := (hQ.block gs (lt_of_block hh3) (fun e => ne1 e.symm)).trans hh3
   have hh5' := (hQ.block gw (lt_of_block hh5) (fun e => ne2 e.symm)).trans hh5
   have hC' := hC.next hQ (fun k hk e => by omega)
   unfold put9 at hP hQ hh3' hh5' hC'
   clear hh3 hh5 hh7 hC hQ ne1 ne2
   have f0 := fz 0
   have f1 := fz 1
   have f2 := fz 2
   have f3 := fz 3
   have f4 := fz 4
   have f5 := fz 5
   have f6 := fz 6
   have f7 := fz 7
   have f8 := fz 8
   clear fz
   refine wpP_step (k := 8) (o := ?oDaxz8) ?hoDaxz8 ?hlDaxz8 ?hrDaxz8 ?stDaxz8
   case hoDaxz8 => rfl
   case hlDaxz8 => decide
   case hrDaxz8 => kernel_rfl
   case' stDaxz8 =>
   intro KS hKS
   go_simp
   refine hKS.out _ _ (fun h => absurd h (by decide)) ?_
   clear hKS KS
   refine wpP_done rfl (by kernel_rfl) ?_
   clear q0 q1 q2 q3 q4 q5 q6 q7 q8 f0 f1 f2 f3 f4 f5 f6 f7 f8 hbl
   revert hP hh3' hh5' hC'
   generalize ((((((((w4.setCell ⟨bb, 0, none⟩ (.pointer (some ⟨b, 0, none⟩))).setCell ⟨bb, 1, none⟩ (.int .u8 c.toNat)).setCell ⟨bb, 2, none⟩ (.int .i64 m)).setCell ⟨bb, 3, none⟩ (.int .u8 r.toNat)).setCell ⟨bb, 4, none⟩ (.slice al bd.locals.length capl)).setCell ⟨bb, 5, none⟩ (.slice ai bd.code.length capi)).setCell ⟨bb, 6, none⟩ (.slice (some ⟨gs, 0, none⟩) bd.code.length bd.code.length)).setCell ⟨bb, 7, none⟩ (.slice (some ⟨gw, 0, none⟩) bd.code.length bd.code.length)).setCell ⟨bb, 8, none⟩ (.bool false) = wz
   intro hh7 hh3 hh5 hC
  case' stD5 =>
   intro KS hKS
   go_simp
   have hN : (w2.alloc (.cells (noWt bd.code.length) 4)).heap[w2.heap.size]? = some (.cells (noWt bd.code.length) 4) := heap_alloc_new _ _
   have hA : But (fun _ => False) w2 (w2.alloc (.cells (noWt bd.code.length) 4)) := But.alloc _ _ _
   have hg5 : Wb.heap.size ≤ w2.heap.size := hC.size
   have hC' := hC.trans hA
   have hh7' := (hA.block bb (lt_of_block hh7) (fun h => h)).trans hh7
   clear hC hA hh7
   refine hKS.out _ _ (fun _ => hC') ?_
   clear hKS KS
   revert hN hC' hg5 hh7'
   generalize (w2.alloc (.cells (noWt bd.code.length) 4)) = w3
   generalize w2.heap.size = gw
   intro hh5 hg5 hC hh7
   refine wpP_step (k := 3) (o := ?oDbx3) ?hoDbx3 ?hlDbx3 ?hrDbx3 ?stDbx3
   case hoDbx3 => rfl
   case hlDbx3 => decide
   case hrDbx3 => kernel_rfl
   case' stDbx3 =>
   intro KS hKS
   go_simp
   have hN : (w3.alloc (.cells (noTab bd.code.length) 117)).heap[w3.heap.size]? = some (.cells (noTab bd.code.length) 117) := heap_alloc_new _ _
   have hA : But (fun _ => False) w3 (w3.alloc (.cells (noTab bd.code.length) 117)) := But.alloc _ _ _
   have hg3 : Wb.heap.size ≤ w3.heap.size := hC.size
   have hC' := hC.trans hA
   have hh7' := (hA.block bb (lt_of_block hh7) (fun h => h)).trans hh7
   have hh5' := (hA.block gw (lt_of_block hh5) (fun h => h)).trans hh5
   clear hC hA hh7 hh5
   refine hKS.out _ _ (fun _ => hC') ?_
   clear hKS KS
   revert hN hC' hg3 hh7' hh5'
   generalize (w3.alloc (.cells (noTab bd.code.length) 117)) = w4
   generalize w3.heap.size = gs
   intro hh3 hg3 hC hh7 hh5
   refine wpP_take (k := 6) (v := ?vDbxz6) rfl (by decide) (by kernel_rfl) ?qDbxz6 rfl hC ?yDbxz6 ?rDbxz6
   case yDbxz6 => intro wS h; clear h; go_simp; try rfl
   case qDbxz6 => exact fun _ _ _ h => h
   dsimp only [Act.put]
   try simp only [puts]
   obtain ⟨q0, q1, q2, q3, q4, q5, q6, q7, q8⟩ := row9 hh7
   have fz := froz9 hh7
   have hbl := lt_of_block hh7
   have ne1 : bb ≠ gs := fun e => by rw [e, hh3] at hh7; injection hh7 with h; injection h with _ h2; exact absurd h2 (by decide)
   have ne2 : bb ≠ gw := fun e => by rw [e, hh5] at hh7; injection hh7 with h; injection h with _ h2; exact absurd h2 (by decide)
   have hP := put9_heap hh7 (.pointer (some ⟨b, 0, none⟩)) (.int .u8 c.toNat) (.int .i64 m) (.int .u8 r.toNat) (.slice al bd.locals.length capl) (.slice ai bd.code.length capi) (.slice (some ⟨gs, 0, none⟩) bd.code.length bd.code.length) (.slice (some ⟨gw, 0, none⟩) bd.code.length bd.code.length) (.bool false)
   have hQ := put9_but w4 bb (.pointer (some ⟨b, 0, none⟩)) (.int .u8 c.toNat) (.int .i64 m) (.int .u8 r.toNat) (.slice al bd.locals.length capl) (.slice ai bd.code.length capi) (.slice (some ⟨gs, 0, none⟩) bd.code.length bd.code.length) (.slice (some ⟨gw, 0, none⟩) bd.code.length bd.code.length) (.bool false)
   have hh3' := (hQ.block gs (lt_of_block hh3) (fun e => ne1 e.symm)).trans hh3
   have hh5' := (hQ.block gw (lt_of_block hh5) (fun e => ne2 e.symm)).trans hh5
   have hC' := hC.next hQ (fun k hk e => by omega)
   unfold put9 at hP hQ hh3' hh5' hC'
   clear hh3 hh5 hh7 hC hQ ne1 ne2
   have f0 := fz 0
   have f1 := fz 1
   have f2 := fz 2
   have f3 := fz 3
   have f4 := fz 4
   have f5 := fz 5
   have f6 := fz 6
   have f7 := fz 7
   have f8 := fz 8
   clear fz
   refine wpP_step (k := 8) (o := ?oDbxz8) ?hoDbxz8 ?hlDbxz8 ?hrDbxz8 ?stDbxz8
   case hoDbxz8 => rfl
   case hlDbxz8 => decide
   case hrDbxz8 => kernel_rfl
   case' stDbxz8 =>
   intro KS hKS
   go_simp
   refine hKS.out _ _ (fun h => absurd h (by decide)) ?_
   clear hKS KS
   refine wpP_done rfl (by kernel_rfl) ?_
   clear q0 q1 q2 q3 q4 q5 q6 q7 q8 f0 f1 f2 f3 f4 f5 f6 f7 f8 hbl
   revert hP hh3' hh5' hC'
   generalize ((((((((w4.setCell ⟨bb, 0, none⟩ (.pointer (some ⟨b, 0, none⟩))).setCell ⟨bb, 1, none⟩ (.int .u8 c.toNat)).setCell ⟨bb, 2, none⟩ (.int .i64 m)).setCell ⟨bb, 3, none⟩ (.int .u8 r.toNat)).setCell ⟨bb, 4, none⟩ (.slice al bd.locals.length capl)).setCell ⟨bb, 5, none⟩ (.slice ai bd.code.length capi)).setCell ⟨bb, 6, none⟩ (.slice (some ⟨gs, 0, none⟩) bd.code.length bd.code.length)).setCell ⟨bb, 7, none⟩ (.slice (some ⟨gw, 0, none⟩) bd.code.length bd.code.length)).setCell ⟨bb, 8, none⟩ (.bool false) = wz
   intro hh7 hh3 hh5 hC
 ·have hz0 := hBb.size
  have hBld : Bld w wz bb b gs gw c r m (.slice al bd.locals.length capl) (.slice ai bd.code.length capi) (List.replicate bd.code.length none) (List.replicate bd.code.length false) false := by
   refine ⟨hBb.trans hC, by omega, by omega, by omega, by rw [List.length_replicate]; exact hh7, ⟨List.replicate bd.code.length noSt, hh3, by simp [noSt], fun x hx s lo e => by rw [List.eq_of_mem_replicate hx] at e; cases e⟩, hh5, by simp⟩
  have hgb' := (hC.block w.heap.size hgbl (fun h => h)).trans HGB.out
  have hgr' := (hC.block (w.heap.size + 1) hgrl (fun h => h)).trans HGR.out
  clear k0 k1 k2 k3 k4 hh3 hh5 hh7 hC hmkS hmkB
  obtain ⟨k0, k1, k2, k3, k4⟩ := row5 hgb'
  have hgbl' := lt_of_block hgb'
  have hE := BtB.empty wz
  have hB4 : But (fun _ => False) wz (wz.alloc (.cells #[] 5)) := But.alloc _ _ _
  have hBld4 := hBld.next hB4
  have hlo4 := hlo.but hBld4.but (fun _ _ h => h)
  have hloc := hbd.loc.1
  have hwf0 : wfT im.classes.length bd.locals.length (List.replicate bd.code.length (none : St)).length (List.replicate bd.code.length none) := ⟨rfl, fun k s l hk => by rw [List.getElem?_replicate] at hk; split at hk <;> simp at hk⟩
  have hz0' : okZ im.classes.length bd.locals.length [] bd.locals := ⟨by simp, fun c hc => isTy_ok (hbd.loc.2 c hc), rfl⟩
  have hre := xreach_any w bb b gs gw c r m _ _ _ _ false im bd.locals.length 0 (some ⟨wz.heap.size, 0, none⟩) al 0 capl [] bd.locals _ hW hloc (by simp; omega) hBld4 hTX.cls hwf0 hz0' (by simp) (World.ownsRow.mono hE (Nat.zero_le _)) hlo4
  have h0 : (List.replicate bd.code.length (none : St))[0]? = some none := by rw [List.getElem?_replicate, if_pos (by omega)]
  rw [rW_new h0] at hre
  unfold xsV at hre
  have HRE := hid hre
  have HGB' := hid hgb'
  have HGR' := hid hgr'
  clear hre hE hB4 hBld4 hlo4 hwf0 hz0' h0 hBld hgb' hgr' HGB HGR
  go_wp2_with fail
  refine HRE.out.mono ?_
  rintro en w5 ⟨rfl, hB5, hBl5⟩
  clear HRE
  simp only [Bool.or_false] at hBl5
  have hgr5 := (((But.alloc (fun _ => False) wz (.cells #[] 5)).mono (G := fun k => k = bb ∨ k = gs ∨ k = gw) (fun _ _ h => h.elim)).trans hB5).block (w.heap.size + 1) (lt_of_block HGR'.out) (by omega)
  have hgr6 := hgr5.trans HGR'.out
  have HGR6 := hid hgr6
  clear hgr5 hgr6 HGR' HGB' k0 k1 k2 k3 k4 hgbl' hB5
  have HLR := hid (LoopR.start hbd)
  obtain ⟨tab, hTe⟩ : ∃ tab, (List.replicate bd.code.length (none : St)).set 0 (some ([], bd.locals)) = tab := ⟨_, rfl⟩
  obtain ⟨wt, hWe⟩ : ∃ wt, (List.replicate bd.code.length false).set 0 true = wt := ⟨_, rfl⟩
  obtain ⟨mu0, hMe⟩ : ∃ mu0, muW (startTab bd, (List.replicate bd.code.length false).set 0 true, false) = mu0 := ⟨_, rfl⟩
  have htl5 : tab.length ≤ 100 := by rw [← hTe]; simp; omega
  rw [hMe] at HLR
  rw [hTe, hWe] at hBl5 HLR
  clear hTe hWe hMe
  have hc5 := hBl5.cells
  have hfw := firstWaiting_any bb gw wt w5 (by rw [hBl5.wl]; exact hc5.2.2.1) hBl5.wts (by rw [hBl5.wl]; exact htl5)
  have HFW := hid hfw
  clear hfw hc5
  go_wp2_with fail
  refine HFW.out.mono ?_
  rintro en wx ⟨rfl, hwx⟩
  rw [hwx]
  clear hwx wx HFW
  go_wp2_with fail
  go_loopg [8] mu0 (fun mm av wr => ∃ (tab : List St) (wt : List Bool) (bad : Bool), av = .int .i64 (firstW wt wt.length 0) ∧ Bld w wr bb b gs gw c r m (.slice al bd.locals.length capl) (.slice ai bd.code.length capi) tab wt bad ∧ Hid (wr.heap[w.heap.size + 1]? = some (.cells #[.slice none 0 0] 65)) ∧ Hid (LoopR im bd tab wt bad mm))
  case atStart => exact ⟨tab, wt, false, rfl, hBl5, HGR6, HLR.out⟩
  case round =>
   clear hBl5 HLR htl5 HGR6
   obtain ⟨tab, wt, bad, rfl, hBl, HGR6, HLR⟩ := hrel
   obtain ⟨c0, c6, c7, c8⟩ := hBl.cells
   have hlt := hBl.lt
   cases bad with
   | true =>
    have hN : leastT im bd = none := by
     rcases HLR.out with ⟨h, _⟩ | ⟨_, h⟩
     ·cases h
     ·exact h
    have HN := hid hN
    have r0 : wr.cell? ⟨w.heap.size + 1, 0, none⟩ = some (.slice none 0 0) := by rw [cell_of_row wr (w.heap.size + 1) 0 _ _ (0, 0) HGR6.out]; rfl
    have f0 : wr.frozen? ⟨w.heap.size + 1, 0, none⟩ = false := frozen_of_row wr (w.heap.size + 1) 0 _ _ HGR6.out
    clear hN HLR
    rcases firstW_spec (l := wt) wt.length 0 (by omega) with ⟨hf, hall⟩ | ⟨a, hf, hal, haw⟩
    ·rw [hf]
     clear hf hall
     go_wp2_with fail
     have h9 := heap_setCell_same wr (w.heap.size + 1) 0 _ _ (.slice none 0 0) HGR6.out
     have h9b := But.setB wr (w.heap.size + 1) 0 (.slice none 0 0)
     revert h9 h9b
     generalize (wr.setCell ⟨w.heap.size + 1, 0, none⟩ (.slice none 0 0)) = w9
     intro h9 h9b
     have z0 : w9.cell? ⟨w.heap.size + 1, 0, none⟩ = some (.slice none 0 0) := by rw [cell_of_row w9 (w.heap.size + 1) 0 _ _ (0, 0) h9]; rfl
     exact bodyPost_ret (v := .tuple #[.agg #[.slice none 0 0], .bool false]) (by simp [results, Tryz.results65, go_sem, z0]) rfl ⟨hBl.but.next h9b (fun k hk h => by omega), Or.inl ⟨HN.out, rfl⟩⟩
    ·rw [hf]
     have ha0 : (0 : Int) ≤ (a : Int) := by omega
     clear hf haw
     go_wp2_with fail
     have h9 := heap_setCell_same wr (w.heap.size + 1) 0 _ _ (.slice none 0 0) HGR6.out
     have h9b := But.setB wr (w.heap.size + 1) 0 (.slice none 0 0)
     revert h9 h9b
     generalize (wr.setCell ⟨w.heap.size + 1, 0, none⟩ (.slice none 0 0)) = w9
     intro h9 h9b
     have z0 : w9.cell? ⟨w.heap.size + 1, 0, none⟩ = some (.slice none 0 0) := by rw [cell_of_row w9 (w.heap.size + 1) 0 _ _ (0, 0) h9]; rfl
     exact bodyPost_ret (v := .tuple #[.agg #[.slice none 0 0], .bool false]) (by simp [results, Tryz.results65, go_sem, z0]) rfl ⟨hBl.but.next h9b (fun k hk h => by omega), Or.inl ⟨HN.out, rfl⟩⟩
   | false =>
    rcases firstW_spec (l := wt) wt.length 0 (by omega) with ⟨hf, hall⟩ | ⟨a, hf, hal, haw⟩
    ·rw [hf]
     have hN := HLR.out.done hW hbd (fun k hk => hall k (Nat.zero_le _) hk)
     have HN := hid hN
     have r0 : wr.cell? ⟨w.heap.size + 1, 0, none⟩ = some (.slice none 0 0) := by rw [cell_of_row wr (w.heap.size + 1) 0 _ _ (0, 0) HGR6.out]; rfl
     have f0 : wr.frozen? ⟨w.heap.size + 1, 0, none⟩ = false := frozen_of_row wr (w.heap.size + 1) 0 _ _ HGR6.out
     clear hN HLR hf hall
     go_wp2_with fail
     have h9 := heap_setCell_same wr (w.heap.size + 1) 0 _ _ (.slice (some ⟨gs, 0, none⟩) tab.length tab.length) HGR6.out
     have h9b := But.setB wr (w.heap.size + 1) 0 (.slice (some ⟨gs, 0, none⟩) tab.length tab.length)
     revert h9 h9b
     generalize (wr.setCell ⟨w.heap.size + 1, 0, none⟩ (.slice (some ⟨gs, 0, none⟩) tab.length tab.length)) = w9
     intro h9 h9b
     have z0 : w9.cell? ⟨w.heap.size + 1, 0, none⟩ = some (.slice (some ⟨gs, 0, none⟩) tab.length tab.length) := by rw [cell_of_row w9 (w.heap.size + 1) 0 _ _ (0, 0) h9]; rfl
     have hst9 := hBl.sts.off h9b (by omega) (fun k cur hk e => by
      rw [e, HGR6.out] at hk
      injection hk with hk
      injection hk with _ h2
      exact absurd h2 (by decide))
     exact bodyPost_ret (v := .tuple #[.agg #[.slice (some ⟨gs, 0, none⟩) tab.length tab.length], .bool true]) (by simp [results, Tryz.results65, go_sem, z0]) rfl ⟨hBl.but.next h9b (fun k hk h => by omega), Or.inr ⟨tab, gs, HN.out, rfl, hst9, by omega⟩⟩
    ·rw [hf]
     obtain ⟨x, s, l, hx, hst, hwf, hnx⟩ := HLR.out.next hW hbd haw
     have htl : tab.length = bd.code.length := hwf.1
     have hwtl := hBl.wl
     obtain ⟨wc1, wf1⟩ := hBl.wcell (k := a) (by omega)
     have haI : (a : Int) < (tab.length : Int) := by omega
     have ha0 : (0 : Int) ≤ (a : Int) := by omega
     have HNX := hid hnx
     have hBw := hBl.wait a false
     have HBw := hid hBw
     clear hnx HLR hf haw
     have hgr7 := ((But.setB wr gw a (.bool false)).block (w.heap.size + 1) (lt_of_block HGR6.out) (by omega)).trans HGR6.out
     have HGR7 := hid hgr7
     have hfo := xfollow_any w bb b gs gw m c (.slice al bd.locals.length capl) ai capi tab (wt.set a false) im bd a x s l _ hW hbd (by rw [HR.out]; exact HBw.out) rfl hit hTX hwf htl hx hst
     rw [HR.out] at hfo
     have HFO := hid hfo
     clear hgr7 HGR6 hfo hBw HBw
     go_wp2_with fail
     refine HFO.out.mono ?_
     rintro en w7 ⟨rfl, hB7, tab', wt', bad', htl7, hBl7, hb7, ht7⟩
     obtain ⟨m', hm', hL'⟩ := HNX.out tab' wt' bad' hb7 ht7
     have HL' := hid hL'
     have hgr8 := (hB7.block (w.heap.size + 1) (lt_of_block HGR7.out) (by omega)).trans HGR7.out
     have HGR8 := hid hgr8
     have hc7 := hBl7.cells
     have hfw := firstWaiting_any bb gw wt' w7 (by rw [hBl7.wl]; exact hc7.2.2.1) hBl7.wts (by rw [hBl7.wl]; omega)
     have HFW := hid hfw
     clear hgr8 hL' HNX HFO hb7 ht7 hfw hc7 HGR7 c0 c6 c7 c8 wc1 wf1
     go_wp2_with fail
     refine HFW.out.mono ?_
     rintro en wx ⟨rfl, hwx⟩
     rw [hwx]
     clear hwx wx HFW
     go_wp2_with fail
     go_roundg m'
     case measure => omega
     case rel => exact ⟨tab', wt', bad', rfl, hBl7, HGR8, HL'.out⟩
 ·have hz0 := hBb.size
  have hBld : Bld w wz bb b gs gw c r m (.slice al bd.locals.length capl) (.slice ai bd.code.length capi) (List.replicate bd.code.length none) (List.replicate bd.code.length false) false := by
   refine ⟨hBb.trans hC, by omega, by omega, by omega, by rw [List.length_replicate]; exact hh7, ⟨List.replicate bd.code.length noSt, hh3, by simp [noSt], fun x hx s lo e => by rw [List.eq_of_mem_replicate hx] at e; cases e⟩, hh5, by simp⟩
  have hgb' := (hC.block w.heap.size hgbl (fun h => h)).trans HGB.out
  have hgr' := (hC.block (w.heap.size + 1) hgrl (fun h => h)).trans HGR.out
  clear k0 k1 k2 k3 k4 hh3 hh5 hh7 hC hmkS hmkB
  obtain ⟨k0, k1, k2, k3, k4⟩ := row5 hgb'
  have hgbl' := lt_of_block hgb'
  have hE := BtB.empty wz
  have hB4 : But (fun _ => False) wz (wz.alloc (.cells #[] 5)) := But.alloc _ _ _
  have hBld4 := hBld.next hB4
  have hlo4 := hlo.but hBld4.but (fun _ _ h => h)
  have hloc := hbd.loc.1
  have hwf0 : wfT im.classes.length bd.locals.length (List.replicate bd.code.length (none : St)).length (List.replicate bd.code.length none) := ⟨rfl, fun k s l hk => by rw [List.getElem?_replicate] at hk; split at hk <;> simp at hk⟩
  have hz0' : okZ im.classes.length bd.locals.length [] bd.locals := ⟨by simp, fun c hc => isTy_ok (hbd.loc.2 c hc), rfl⟩
  have hre := xreach_any w bb b gs gw c r m _ _ _ _ false im bd.locals.length 0 (some ⟨wz.heap.size, 0, none⟩) al 0 capl [] bd.locals _ hW hloc (by simp; omega) hBld4 hTX.cls hwf0 hz0' (by simp) (World.ownsRow.mono hE (Nat.zero_le _)) hlo4
  have h0 : (List.replicate bd.code.length (none : St))[0]? = some none := by rw [List.getElem?_replicate, if_pos (by omega)]
  rw [rW_new h0] at hre
  unfold xsV at hre
  have HRE := hid hre
  have HGB' := hid hgb'
  have HGR' := hid hgr'
  clear hre hE hB4 hBld4 hlo4 hwf0 hz0' h0 hBld hgb' hgr' HGB HGR
  go_wp2_with fail
  refine HRE.out.mono ?_
  rintro en w5 ⟨rfl, hB5, hBl5⟩
  clear HRE
  simp only [Bool.or_false] at hBl5
  have hgr5 := (((But.alloc (fun _ => False) wz (.cells #[] 5)).mono (G := fun k => k = bb ∨ k = gs ∨ k = gw) (fun _ _ h => h.elim)).trans hB5).block (w.heap.size + 1) (lt_of_block HGR'.out) (by omega)
  have hgr6 := hgr5.trans HGR'.out
  have HGR6 := hid hgr6
  clear hgr5 hgr6 HGR' HGB' k0 k1 k2 k3 k4 hgbl' hB5
  have HLR := hid (LoopR.start hbd)
  obtain ⟨tab, hTe⟩ : ∃ tab, (List.replicate bd.code.length (none : St)).set 0 (some ([], bd.locals)) = tab := ⟨_, rfl⟩
  obtain ⟨wt, hWe⟩ : ∃ wt, (List.replicate bd.code.length false).set 0 true = wt := ⟨_, rfl⟩
  obtain ⟨mu0, hMe⟩ : ∃ mu0, muW (startTab bd, (List.replicate bd.code.length false).set 0 true, false) = mu0 := ⟨_, rfl⟩
  have htl5 : tab.length ≤ 100 := by rw [← hTe]; simp; omega
  rw [hMe] at HLR
  rw [hTe, hWe] at hBl5 HLR
  clear hTe hWe hMe
  have hc5 := hBl5.cells
  have hfw := firstWaiting_any bb gw wt w5 (by rw [hBl5.wl]; exact hc5.2.2.1) hBl5.wts (by rw [hBl5.wl]; exact htl5)
  have HFW := hid hfw
  clear hfw hc5
  go_wp2_with fail
  refine HFW.out.mono ?_
  rintro en wx ⟨rfl, hwx⟩
  rw [hwx]
  clear hwx wx HFW
  go_wp2_with fail
  go_loopg [8] mu0 (fun mm av wr => ∃ (tab : List St) (wt : List Bool) (bad : Bool), av = .int .i64 (firstW wt wt.length 0) ∧ Bld w wr bb b gs gw c r m (.slice al bd.locals.length capl) (.slice ai bd.code.length capi) tab wt bad ∧ Hid (wr.heap[w.heap.size + 1]? = some (.cells #[.slice none 0 0] 65)) ∧ Hid (LoopR im bd tab wt bad mm))
  case atStart => exact ⟨tab, wt, false, rfl, hBl5, HGR6, HLR.out⟩
  case round =>
   clear hBl5 HLR htl5 HGR6
   obtain ⟨tab, wt, bad, rfl, hBl, HGR6, HLR⟩ := hrel
   obtain ⟨c0, c6, c7, c8⟩ := hBl.cells
   have hlt := hBl.lt
   cases bad with
   | true =>
    have hN : leastT im bd = none := by
     rcases HLR.out with ⟨h, _⟩ | ⟨_, h⟩
     ·cases h
     ·exact h
    have HN := hid hN
    have r0 : wr.cell? ⟨w.heap.size + 1, 0, none⟩ = some (.slice none 0 0) := by rw [cell_of_row wr (w.heap.size + 1) 0 _ _ (0, 0) HGR6.out]; rfl
    have f0 : wr.frozen? ⟨w.heap.size + 1, 0, none⟩ = false := frozen_of_row wr (w.heap.size + 1) 0 _ _ HGR6.out
    clear hN HLR
    rcases firstW_spec (l := wt) wt.length 0 (by omega) with ⟨hf, hall⟩ | ⟨a, hf, hal, haw⟩
    ·rw [hf]
     clear hf hall
     go_wp2_with fail
     have h9 := heap_setCell_same wr (w.heap.size + 1) 0 _ _ (.slice none 0 0) HGR6.out
     have h9b := But.setB wr (w.heap.size + 1) 0 (.slice none 0 0)
     revert h9 h9b
     generalize (wr.setCell ⟨w.heap.size + 1, 0, none⟩ (.slice none 0 0)) = w9
     intro h9 h9b
     have z0 : w9.cell? ⟨w.heap.size + 1, 0, none⟩ = some (.slice none 0 0) := by rw [cell_of_row w9 (w.heap.size + 1) 0 _ _ (0, 0) h9]; rfl
     exact bodyPost_ret (v := .tuple #[.agg #[.slice none 0 0], .bool false]) (by simp [results, Tryz.results65, go_sem, z0]) rfl ⟨hBl.but.next h9b (fun k hk h => by omega), Or.inl ⟨HN.out, rfl⟩⟩
    ·rw [hf]
     have ha0 : (0 : Int) ≤ (a : Int) := by omega
     clear hf haw
     go_wp2_with fail
     have h9 := heap_setCell_same wr (w.heap.size + 1) 0 _ _ (.slice none 0 0) HGR6.out
     have h9b := But.setB wr (w.heap.size + 1) 0 (.slice none 0 0)
     revert h9 h9b
     generalize (wr.setCell ⟨w.heap.size + 1, 0, none⟩ (.slice none 0 0)) = w9
     intro h9 h9b
     have z0 : w9.cell? ⟨w.heap.size + 1, 0, none⟩ = some (.slice none 0 0) := by rw [cell_of_row w9 (w.heap.size + 1) 0 _ _ (0, 0) h9]; rfl
     exact bodyPost_ret (v := .tuple #[.agg #[.slice none 0 0], .bool false]) (by simp [results, Tryz.results65, go_sem, z0]) rfl ⟨hBl.but.next h9b (fun k hk h => by omega), Or.inl ⟨HN.out, rfl⟩⟩
   | false =>
    rcases firstW_spec (l := wt) wt.length 0 (by omega) with ⟨hf, hall⟩ | ⟨a, hf, hal, haw⟩
    ·rw [hf]
     have hN := HLR.out.done hW hbd (fun k hk => hall k (Nat.zero_le _) hk)
     have HN := hid hN
     have r0 : wr.cell? ⟨w.heap.size + 1, 0, none⟩ = some (.slice none 0 0) := by rw [cell_of_row wr (w.heap.size + 1) 0 _ _ (0, 0) HGR6.out]; rfl
     have f0 : wr.frozen? ⟨w.heap.size + 1, 0, none⟩ = false := frozen_of_row wr (w.heap.size + 1) 0 _ _ HGR6.out
     clear hN HLR hf hall
     go_wp2_with fail
     have h9 := heap_setCell_same wr (w.heap.size + 1) 0 _ _ (.slice (some ⟨gs, 0, none⟩) tab.length tab.length) HGR6.out
     have h9b := But.setB wr (w.heap.size + 1) 0 (.slice (some ⟨gs, 0, none⟩) tab.length tab.length)
     revert h9 h9b
     generalize (wr.setCell ⟨w.heap.size + 1, 0, none⟩ (.slice (some ⟨gs, 0, none⟩) tab.length tab.length)) = w9
     intro h9 h9b
     have z0 : w9.cell? ⟨w.heap.size + 1, 0, none⟩ = some (.slice (some ⟨gs, 0, none⟩) tab.length tab.length) := by rw [cell_of_row w9 (w.heap.size + 1) 0 _ _ (0, 0) h9]; rfl
     have hst9 := hBl.sts.off h9b (by omega) (fun k cur hk e => by
      rw [e, HGR6.out] at hk
      injection hk with hk
      injection hk with _ h2
      exact absurd h2 (by decide))
     exact bodyPost_ret (v := .tuple #[.agg #[.slice (some ⟨gs, 0, none⟩) tab.length tab.length], .bool true]) (by simp [results, Tryz.results65, go_sem, z0]) rfl ⟨hBl.but.next h9b (fun k hk h => by omega), Or.inr ⟨tab, gs, HN.out, rfl, hst9, by omega⟩⟩
    ·rw [hf]
     obtain ⟨x, s, l, hx, hst, hwf, hnx⟩ := HLR.out.next hW hbd haw
     have htl : tab.length = bd.code.length := hwf.1
     have hwtl := hBl.wl
     obtain ⟨wc1, wf1⟩ := hBl.wcell (k := a) (by omega)
     have haI : (a : Int) < (tab.length : Int) := by omega
     have ha0 : (0 : Int) ≤ (a : Int) := by omega
     have HNX := hid hnx
     have hBw := hBl.wait a false
     have HBw := hid hBw
     clear hnx HLR hf haw
     have hgr7 := ((But.setB wr gw a (.bool false)).block (w.heap.size + 1) (lt_of_block HGR6.out) (by omega)).trans HGR6.out
     have HGR7 := hid hgr7
     have hfo := xfollow_any w bb b gs gw m c (.slice al bd.locals.length capl) ai capi tab (wt.set a false) im bd a x s l _ hW hbd (by rw [HR.out]; exact HBw.out) rfl hit hTX hwf htl hx hst
     rw [HR.out] at hfo
     have HFO := hid hfo
     clear hgr7 HGR6 hfo hBw HBw
     go_wp2_with fail
     refine HFO.out.mono ?_
     rintro en w7 ⟨rfl, hB7, tab', wt', bad', htl7, hBl7, hb7, ht7⟩
     obtain ⟨m', hm', hL'⟩ := HNX.out tab' wt' bad' hb7 ht7
     have HL' := hid hL'
     have hgr8 := (hB7.block (w.heap.size + 1) (lt_of_block HGR7.out) (by omega)).trans HGR7.out
     have HGR8 := hid hgr8
     have hc7 := hBl7.cells
     have hfw := firstWaiting_any bb gw wt' w7 (by rw [hBl7.wl]; exact hc7.2.2.1) hBl7.wts (by rw [hBl7.wl]; omega)
     have HFW := hid hfw
     clear hgr8 hL' HNX HFO hb7 ht7 hfw hc7 HGR7 c0 c6 c7 c8 wc1 wf1
     go_wp2_with fail
     refine HFW.out.mono ?_
     rintro en wx ⟨rfl, hwx⟩
     rw [hwx]
     clear hwx wx HFW
     go_wp2_with fail
     go_roundg m'
     case measure => omega
     case rel => exact ⟨tab', wt', bad', rfl, hBl7, HGR8, HL'.out⟩
 ·have hz0 := hBb.size
  have hBld : Bld w wz bb b gs gw c r m (.slice al bd.locals.length capl) (.slice ai bd.code.length capi) (List.replicate bd.code.length none) (List.replicate bd.code.length false) false := by
   refine ⟨hBb.trans hC, by omega, by omega, by omega, by rw [List.length_replicate]; exact hh7, ⟨List.replicate bd.code.length noSt, hh3, by simp [noSt], fun x hx s lo e => by rw [List.eq_of_mem_replicate hx] at e; cases e⟩, hh5, by simp⟩
  have hgb' := (hC.block w.heap.size hgbl (fun h => h)).trans HGB.out
  have hgr' := (hC.block (w.heap.size + 1) hgrl (fun h => h)).trans HGR.out
  clear k0 k1 k2 k3 k4 hh3 hh5 hh7 hC hmkS hmkB
  obtain ⟨k0, k1, k2, k3, k4⟩ := row5 hgb'
  have hgbl' := lt_of_block hgb'
  have hE := BtB.empty wz
  have hB4 : But (fun _ => False) wz (wz.alloc (.cells #[] 5)) := But.alloc _ _ _
  have hBld4 := hBld.next hB4
  have hlo4 := hlo.but hBld4.but (fun _ _ h => h)
  have hloc := hbd.loc.1
  have hwf0 : wfT im.classes.length bd.locals.length (List.replicate bd.code.length (none : St)).length (List.replicate bd.code.length none) := ⟨rfl, fun k s l hk => by rw [List.getElem?_replicate] at hk; split at hk <;> simp at hk⟩
  have hz0' : okZ im.classes.length bd.locals.length [] bd.locals := ⟨by simp, fun c hc => isTy_ok (hbd.loc.2 c hc), rfl⟩
  have hre := xreach_any w bb b gs gw c r m _ _ _ _ false im bd.locals.length 0 (some ⟨wz.heap.size, 0, none⟩) al 0 capl [] bd.locals _ hW hloc (by simp; omega) hBld4 hTX.cls hwf0 hz0' (by simp) (World.ownsRow.mono hE (Nat.zero_le _)) hlo4
  have h0 : (List.replicate bd.code.length (none : St))[0]? = some none := by rw [List.getElem?_replicate, if_pos (by omega)]
  rw [rW_new h0] at hre
  unfold xsV at hre
  have HRE := hid hre
  have HGB' := hid hgb'
  have HGR' := hid hgr'
  clear hre hE hB4 hBld4 hlo4 hwf0 hz0' h0 hBld hgb' hgr' HGB HGR
  go_wp2_with fail
  refine HRE.out.mono ?_
  rintro en w5 ⟨rfl, hB5, hBl5⟩
  clear HRE
  simp only [Bool.or_false] at hBl5
  have hgr5 := (((But.alloc (fun _ => False) wz (.cells #[] 5)).mono (G := fun k => k = bb ∨ k = gs ∨ k = gw) (fun _ _ h => h.elim)).trans hB5).block (w.heap.size + 1) (lt_of_block HGR'.out) (by omega)
  have hgr6 := hgr5.trans HGR'.out
  have HGR6 := hid hgr6
  clear hgr5 hgr6 HGR' HGB' k0 k1 k2 k3 k4 hgbl' hB5
  have HLR := hid (LoopR.start hbd)
  obtain ⟨tab, hTe⟩ : ∃ tab, (List.replicate bd.code.length (none : St)).set 0 (some ([], bd.locals)) = tab := ⟨_, rfl⟩
  obtain ⟨wt, hWe⟩ : ∃ wt, (List.replicate bd.code.length false).set 0 true = wt := ⟨_, rfl⟩
  obtain ⟨mu0, hMe⟩ : ∃ mu0, muW (startTab bd, (List.replicate bd.code.length false).set 0 true, false) = mu0 := ⟨_, rfl⟩
  have htl5 : tab.length ≤ 100 := by rw [← hTe]; simp; omega
  rw [hMe] at HLR
  rw [hTe, hWe] at hBl5 HLR
  clear hTe hWe hMe
  have hc5 := hBl5.cells
  have hfw := firstWaiting_any bb gw wt w5 (by rw [hBl5.wl]; exact hc5.2.2.1) hBl5.wts (by rw [hBl5.wl]; exact htl5)
  have HFW := hid hfw
  clear hfw hc5
  go_wp2_with fail
  refine HFW.out.mono ?_
  rintro en wx ⟨rfl, hwx⟩
  rw [hwx]
  clear hwx wx HFW
  go_wp2_with fail
  go_loopg [8] mu0 (fun mm av wr => ∃ (tab : List St) (wt : List Bool) (bad : Bool), av = .int .i64 (firstW wt wt.length 0) ∧ Bld w wr bb b gs gw c r m (.slice al bd.locals.length capl) (.slice ai bd.code.length capi) tab wt bad ∧ Hid (wr.heap[w.heap.size + 1]? = some (.cells #[.slice none 0 0] 65)) ∧ Hid (LoopR im bd tab wt bad mm))
  case atStart => exact ⟨tab, wt, false, rfl, hBl5, HGR6, HLR.out⟩
  case round =>
   clear hBl5 HLR htl5 HGR6
   obtain ⟨tab, wt, bad, rfl, hBl, HGR6, HLR⟩ := hrel
   obtain ⟨c0, c6, c7, c8⟩ := hBl.cells
   have hlt := hBl.lt
   cases bad with
   | true =>
    have hN : leastT im bd = none := by
     rcases HLR.out with ⟨h, _⟩ | ⟨_, h⟩
     ·cases h
     ·exact h
    have HN := hid hN
    have r0 : wr.cell? ⟨w.heap.size + 1, 0, none⟩ = some (.slice none 0 0) := by rw [cell_of_row wr (w.heap.size + 1) 0 _ _ (0, 0) HGR6.out]; rfl
    have f0 : wr.frozen? ⟨w.heap.size + 1, 0, none⟩ = false := frozen_of_row wr (w.heap.size + 1) 0 _ _ HGR6.out
    clear hN HLR
    rcases firstW_spec (l := wt) wt.length 0 (by omega) with ⟨hf, hall⟩ | ⟨a, hf, hal, haw⟩
    ·rw [hf]
     clear hf hall
     go_wp2_with fail
     have h9 := heap_setCell_same wr (w.heap.size + 1) 0 _ _ (.slice none 0 0) HGR6.out
     have h9b := But.setB wr (w.heap.size + 1) 0 (.slice none 0 0)
     revert h9 h9b
     generalize (wr.setCell ⟨w.heap.size + 1, 0, none⟩ (.slice none 0 0)) = w9
     intro h9 h9b
     have z0 : w9.cell? ⟨w.heap.size + 1, 0, none⟩ = some (.slice none 0 0) := by rw [cell_of_row w9 (w.heap.size + 1) 0 _ _ (0, 0) h9]; rfl
     exact bodyPost_ret (v := .tuple #[.agg #[.slice none 0 0], .bool false]) (by simp [results, Tryz.results65, go_sem, z0]) rfl ⟨hBl.but.next h9b (fun k hk h => by omega), Or.inl ⟨HN.out, rfl⟩⟩
    ·rw [hf]
     have ha0 : (0 : Int) ≤ (a : Int) := by omega
     clear hf haw
     go_wp2_with fail
     have h9 := heap_setCell_same wr (w.heap.size + 1) 0 _ _ (.slice none 0 0) HGR6.out
     have h9b := But.setB wr (w.heap.size + 1) 0 (.slice none 0 0)
     revert h9 h9b
     generalize (wr.setCell ⟨w.heap.size + 1, 0, none⟩ (.slice none 0 0)) = w9
     intro h9 h9b
     have z0 : w9.cell? ⟨w.heap.size + 1, 0, none⟩ = some (.slice none 0 0) := by rw [cell_of_row w9 (w.heap.size + 1) 0 _ _ (0, 0) h9]; rfl
     exact bodyPost_ret (v := .tuple #[.agg #[.slice none 0 0], .bool false]) (by simp [results, Tryz.results65, go_sem, z0]) rfl ⟨hBl.but.next h9b (fun k hk h => by omega), Or.inl ⟨HN.out, rfl⟩⟩
   | false =>
    rcases firstW_spec (l := wt) wt.length 0 (by omega) with ⟨hf, hall⟩ | ⟨a, hf, hal, haw⟩
    ·rw [hf]
     have hN := HLR.out.done hW hbd (fun k hk => hall k (Nat.zero_le _) hk)
     have HN := hid hN
     have r0 : wr.cell? ⟨w.heap.size + 1, 0, none⟩ = some (.slice none 0 0) := by rw [cell_of_row wr (w.heap.size + 1) 0 _ _ (0, 0) HGR6.out]; rfl
     have f0 : wr.frozen? ⟨w.heap.size + 1, 0, none⟩ = false := frozen_of_row wr (w.heap.size + 1) 0 _ _ HGR6.out
     clear hN HLR hf hall
     go_wp2_with fail
     have h9 := heap_setCell_same wr (w.heap.size + 1) 0 _ _ (.slice (some ⟨gs, 0, none⟩) tab.length tab.length) HGR6.out
     have h9b := But.setB wr (w.heap.size + 1) 0 (.slice (some ⟨gs, 0, none⟩) tab.length tab.length)
     revert h9 h9b
     generalize (wr.setCell ⟨w.heap.size + 1, 0, none⟩ (.slice (some ⟨gs, 0, none⟩) tab.length tab.length)) = w9
     intro h9 h9b
     have z0 : w9.cell? ⟨w.heap.size + 1, 0, none⟩ = some (.slice (some ⟨gs, 0, none⟩) tab.length tab.length) := by rw [cell_of_row w9 (w.heap.size + 1) 0 _ _ (0, 0) h9]; rfl
     have hst9 := hBl.sts.off h9b (by omega) (fun k cur hk e => by
      rw [e, HGR6.out] at hk
      injection hk with hk
      injection hk with _ h2
      exact absurd h2 (by decide))
     exact bodyPost_ret (v := .tuple #[.agg #[.slice (some ⟨gs, 0, none⟩) tab.length tab.length], .bool true]) (by simp [results, Tryz.results65, go_sem, z0]) rfl ⟨hBl.but.next h9b (fun k hk h => by omega), Or.inr ⟨tab, gs, HN.out, rfl, hst9, by omega⟩⟩
    ·rw [hf]
     obtain ⟨x, s, l, hx, hst, hwf, hnx⟩ := HLR.out.next hW hbd haw
     have htl : tab.length = bd.code.length := hwf.1
     have hwtl := hBl.wl
     obtain ⟨wc1, wf1⟩ := hBl.wcell (k := a) (by omega)
     have haI : (a : Int) < (tab.length : Int) := by omega
     have ha0 : (0 : Int) ≤ (a : Int) := by omega
     have HNX := hid hnx
     have hBw := hBl.wait a false
     have HBw := hid hBw
     clear hnx HLR hf haw
     have hgr7 := ((But.setB wr gw a (.bool false)).block (w.heap.size + 1) (lt_of_block HGR6.out) (by omega)).trans HGR6.out
     have HGR7 := hid hgr7
     have hfo := xfollow_any w bb b gs gw m c (.slice al bd.locals.length capl) ai capi tab (wt.set a false) im bd a x s l _ hW hbd (by rw [HR.out]; exact HBw.out) rfl hit hTX hwf htl hx hst
     rw [HR.out] at hfo
     have HFO := hid hfo
     clear hgr7 HGR6 hfo hBw HBw
     go_wp2_with fail
     refine HFO.out.mono ?_
     rintro en w7 ⟨rfl, hB7, tab', wt', bad', htl7, hBl7, hb7, ht7⟩
     obtain ⟨m', hm', hL'⟩ := HNX.out tab' wt' bad' hb7 ht7
     have HL' := hid hL'
     have hgr8 := (hB7.block (w.heap.size + 1) (lt_of_block HGR7.out) (by omega)).trans HGR7.out
     have HGR8 := hid hgr8
     have hc7 := hBl7.cells
     have hfw := firstWaiting_any bb gw wt' w7 (by rw [hBl7.wl]; exact hc7.2.2.1) hBl7.wts (by rw [hBl7.wl]; omega)
     have HFW := hid hfw
     clear hgr8 hL' HNX HFO hb7 ht7 hfw hc7 HGR7 c0 c6 c7 c8 wc1 wf1
     go_wp2_with fail
     refine HFW.out.mono ?_
     rintro en wx ⟨rfl, hwx⟩
     rw [hwx]
     clear hwx wx HFW
     go_wp2_with fail
     go_roundg m'
     case measure => omega
     case rel => exact ⟨tab', wt', bad', rfl, hBl7, HGR8, HL'.out⟩
 ·have hz0 := hBb.size
  have hBld : Bld w wz bb b gs gw c r m (.slice al bd.locals.length capl) (.slice ai bd.code.length capi) (List.replicate bd.code.length none) (List.replicate bd.code.length false) false := by
   refine ⟨hBb.trans hC, by omega, by omega, by omega, by rw [List.length_replicate]; exact hh7, ⟨List.replicate bd.code.length noSt, hh3, by simp [noSt], fun x hx s lo e => by rw [List.eq_of_mem_replicate hx] at e; cases e⟩, hh5, by simp⟩
  have hgb' := (hC.block w.heap.size hgbl (fun h => h)).trans HGB.out
  have hgr' := (hC.block (w.heap.size + 1) hgrl (fun h => h)).trans HGR.out
  clear k0 k1 k2 k3 k4 hh3 hh5 hh7 hC hmkS hmkB
  obtain ⟨k0, k1, k2, k3, k4⟩ := row5 hgb'
  have hgbl' := lt_of_block hgb'
  have hE := BtB.empty wz
  have hB4 : But (fun _ => False) wz (wz.alloc (.cells #[] 5)) := But.alloc _ _ _
  have hBld4 := hBld.next hB4
  have hlo4 := hlo.but hBld4.but (fun _ _ h => h)
  have hloc := hbd.loc.1
  have hwf0 : wfT im.classes.length bd.locals.length (List.replicate bd.code.length (none : St)).length (List.replicate bd.code.length none) := ⟨rfl, fun k s l hk => by rw [List.getElem?_replicate] at hk; split at hk <;> simp at hk⟩
  have hz0' : okZ im.classes.length bd.locals.length [] bd.locals := ⟨by simp, fun c hc => isTy_ok (hbd.loc.2 c hc), rfl⟩
  have hre := xreach_any w bb b gs gw c r m _ _ _ _ false im bd.locals.length 0 (some ⟨wz.heap.size, 0, none⟩) al 0 capl [] bd.locals _ hW hloc (by simp; omega) hBld4 hTX.cls hwf0 hz0' (by simp) (World.ownsRow.mono hE (Nat.zero_le _)) hlo4
  have h0 : (List.replicate bd.code.length (none : St))[0]? = some none := by rw [List.getElem?_replicate, if_pos (by omega)]
  rw [rW_new h0] at hre
  unfold xsV at hre
  have HRE := hid hre
  have HGB' := hid hgb'
  have HGR' := hid hgr'
  clear hre hE hB4 hBld4 hlo4 hwf0 hz0' h0 hBld hgb' hgr' HGB HGR
  go_wp2_with fail
  refine HRE.out.mono ?_
  rintro en w5 ⟨rfl, hB5, hBl5⟩
  clear HRE
  simp only [Bool.or_false] at hBl5
  have hgr5 := (((But.alloc (fun _ => False) wz (.cells #[] 5)).mono (G := fun k => k = bb ∨ k = gs ∨ k = gw) (fun _ _ h => h.elim)).trans hB5).block (w.heap.size + 1) (lt_of_block HGR'.out) (by omega)
  have hgr6 := hgr5.trans HGR'.out
  have HGR6 := hid hgr6
  clear hgr5 hgr6 HGR' HGB' k0 k1 k2 k3 k4 hgbl' hB5
  have HLR := hid (LoopR.start hbd)
  obtain ⟨tab, hTe⟩ : ∃ tab, (List.replicate bd.code.length (none : St)).set 0 (some ([], bd.locals)) = tab := ⟨_, rfl⟩
  obtain ⟨wt, hWe⟩ : ∃ wt, (List.replicate bd.code.length false).set 0 true = wt := ⟨_, rfl⟩
  obtain ⟨mu0, hMe⟩ : ∃ mu0, muW (startTab bd, (List.replicate bd.code.length false).set 0 true, false) = mu0 := ⟨_, rfl⟩
  have htl5 : tab.length ≤ 100 := by rw [← hTe]; simp; omega
  rw [hMe] at HLR
  rw [hTe, hWe] at hBl5 HLR
  clear hTe hWe hMe
  have hc5 := hBl5.cells
  have hfw := firstWaiting_any bb gw wt w5 (by rw [hBl5.wl]; exact hc5.2.2.1) hBl5.wts (by rw [hBl5.wl]; exact htl5)
  have HFW := hid hfw
  clear hfw hc5
  go_wp2_with fail
  refine HFW.out.mono ?_
  rintro en wx ⟨rfl, hwx⟩
  rw [hwx]
  clear hwx wx HFW
  go_wp2_with fail
  go_loopg [8] mu0 (fun mm av wr => ∃ (tab : List St) (wt : List Bool) (bad : Bool), av = .int .i64 (firstW wt wt.length 0) ∧ Bld w wr bb b gs gw c r m (.slice al bd.locals.length capl) (.slice ai bd.code.length capi) tab wt bad ∧ Hid (wr.heap[w.heap.size + 1]? = some (.cells #[.slice none 0 0] 65)) ∧ Hid (LoopR im bd tab wt bad mm))
  case atStart => exact ⟨tab, wt, false, rfl, hBl5, HGR6, HLR.out⟩
  case round =>
   clear hBl5 HLR htl5 HGR6
   obtain ⟨tab, wt, bad, rfl, hBl, HGR6, HLR⟩ := hrel
   obtain ⟨c0, c6, c7, c8⟩ := hBl.cells
   have hlt := hBl.lt
   cases bad with
   | true =>
    have hN : leastT im bd = none := by
     rcases HLR.out with ⟨h, _⟩ | ⟨_, h⟩
     ·cases h
     ·exact h
    have HN := hid hN
    have r0 : wr.cell? ⟨w.heap.size + 1, 0, none⟩ = some (.slice none 0 0) := by rw [cell_of_row wr (w.heap.size + 1) 0 _ _ (0, 0) HGR6.out]; rfl
    have f0 : wr.frozen? ⟨w.heap.size + 1, 0, none⟩ = false := frozen_of_row wr (w.heap.size + 1) 0 _ _ HGR6.out
    clear hN HLR
    rcases firstW_spec (l := wt) wt.length 0 (by omega) with ⟨hf, hall⟩ | ⟨a, hf, hal, haw⟩
    ·rw [hf]
     clear hf hall
     go_wp2_with fail
     have h9 := heap_setCell_same wr (w.heap.size + 1) 0 _ _ (.slice none 0 0) HGR6.out
     have h9b := But.setB wr (w.heap.size + 1) 0 (.slice none 0 0)
     revert h9 h9b
     generalize (wr.setCell ⟨w.heap.size + 1, 0, none⟩ (.slice none 0 0)) = w9
     intro h9 h9b
     have z0 : w9.cell? ⟨w.heap.size + 1, 0, none⟩ = some (.slice none 0 0) := by rw [cell_of_row w9 (w.heap.size + 1) 0 _ _ (0, 0) h9]; rfl
     exact bodyPost_ret (v := .tuple #[.agg #[.slice none 0 0], .bool false]) (by simp [results, Tryz.results65, go_sem, z0]) rfl ⟨hBl.but.next h9b (fun k hk h => by omega), Or.inl ⟨HN.out, rfl⟩⟩
    ·rw [hf]
     have ha0 : (0 : Int) ≤ (a : Int) := by omega
     clear hf haw
     go_wp2_with fail
     have h9 := heap_setCell_same wr (w.heap.size + 1) 0 _ _ (.slice none 0 0) HGR6.out
     have h9b := But.setB wr (w.heap.size + 1) 0 (.slice none 0 0)
     revert h9 h9b
     generalize (wr.setCell ⟨w.heap.size + 1, 0, none⟩ (.slice none 0 0)) = w9
     intro h9 h9b
     have z0 : w9.cell? ⟨w.heap.size + 1, 0, none⟩ = some (.slice none 0 0) := by rw [cell_of_row w9 (w.heap.size + 1) 0 _ _ (0, 0) h9]; rfl
     exact bodyPost_ret (v := .tuple #[.agg #[.slice none 0 0], .bool false]) (by simp [results, Tryz.results65, go_sem, z0]) rfl ⟨hBl.but.next h9b (fun k hk h => by omega), Or.inl ⟨HN.out, rfl⟩⟩
   | false =>
    rcases firstW_spec (l := wt) wt.length 0 (by omega) with ⟨hf, hall⟩ | ⟨a, hf, hal, haw⟩
    ·rw [hf]
     have hN := HLR.out.done hW hbd (fun k hk => hall k (Nat.zero_le _) hk)
     have HN := hid hN
     have r0 : wr.cell? ⟨w.heap.size + 1, 0, none⟩ = some (.slice none 0 0) := by rw [cell_of_row wr (w.heap.size + 1) 0 _ _ (0, 0) HGR6.out]; rfl
     have f0 : wr.frozen? ⟨w.heap.size + 1, 0, none⟩ = false := frozen_of_row wr (w.heap.size + 1) 0 _ _ HGR6.out
     clear hN HLR hf hall
     go_wp2_with fail
     have h9 := heap_setCell_same wr (w.heap.size + 1) 0 _ _ (.slice (some ⟨gs, 0, none⟩) tab.length tab.length) HGR6.out
     have h9b := But.setB wr (w.heap.size + 1) 0 (.slice (some ⟨gs, 0, none⟩) tab.length tab.length)
     revert h9 h9b
     generalize (wr.setCell ⟨w.heap.size + 1, 0, none⟩ (.slice (some ⟨gs, 0, none⟩) tab.length tab.length)) = w9
     intro h9 h9b
     have z0 : w9.cell? ⟨w.heap.size + 1, 0, none⟩ = some (.slice (some ⟨gs, 0, none⟩) tab.length tab.length) := by rw [cell_of_row w9 (w.heap.size + 1) 0 _ _ (0, 0) h9]; rfl
     have hst9 := hBl.sts.off h9b (by omega) (fun k cur hk e => by
      rw [e, HGR6.out] at hk
      injection hk with hk
      injection hk with _ h2
      exact absurd h2 (by decide))
     exact bodyPost_ret (v := .tuple #[.agg #[.slice (some ⟨gs, 0, none⟩) tab.length tab.length], .bool true]) (by simp [results, Tryz.results65, go_sem, z0]) rfl ⟨hBl.but.next h9b (fun k hk h => by omega), Or.inr ⟨tab, gs, HN.out, rfl, hst9, by omega⟩⟩
    ·rw [hf]
     obtain ⟨x, s, l, hx, hst, hwf, hnx⟩ := HLR.out.next hW hbd haw
     have htl : tab.length = bd.code.length := hwf.1
     have hwtl := hBl.wl
     obtain ⟨wc1, wf1⟩ := hBl.wcell (k := a) (by omega)
     have haI : (a : Int) < (tab.length : Int) := by omega
     have ha0 : (0 : Int) ≤ (a : Int) := by omega
     have HNX := hid hnx
     have hBw := hBl.wait a false
     have HBw := hid hBw
     clear hnx HLR hf haw
     have hgr7 := ((But.setB wr gw a (.bool false)).block (w.heap.size + 1) (lt_of_block HGR6.out) (by omega)).trans HGR6.out
     have HGR7 := hid hgr7
     have hfo := xfollow_any w bb b gs gw m c (.slice al bd.locals.length capl) ai capi tab (wt.set a false) im bd a x s l _ hW hbd (by rw [HR.out]; exact HBw.out) rfl hit hTX hwf htl hx hst
     rw [HR.out] at hfo
     have HFO := hid hfo
     clear hgr7 HGR6 hfo hBw HBw
     go_wp2_with fail
     refine HFO.out.mono ?_
     rintro en w7 ⟨rfl, hB7, tab', wt', bad', htl7, hBl7, hb7, ht7⟩
     obtain ⟨m', hm', hL'⟩ := HNX.out tab' wt' bad' hb7 ht7
     have HL' := hid hL'
     have hgr8 := (hB7.block (w.heap.size + 1) (lt_of_block HGR7.out) (by omega)).trans HGR7.out
     have HGR8 := hid hgr8
     have hc7 := hBl7.cells
     have hfw := firstWaiting_any bb gw wt' w7 (by rw [hBl7.wl]; exact hc7.2.2.1) hBl7.wts (by rw [hBl7.wl]; omega)
     have HFW := hid hfw
     clear hgr8 hL' HNX HFO hb7 ht7 hfw hc7 HGR7 c0 c6 c7 c8 wc1 wf1
     go_wp2_with fail
     refine HFW.out.mono ?_
     rintro en wx ⟨rfl, hwx⟩
     rw [hwx]
     clear hwx wx HFW
     go_wp2_with fail
     go_roundg m'
     case measure => omega
     case rel => exact ⟨tab', wt', bad', rfl, hBl7, HGR8, HL'.out⟩
 ·have hz0 := hBb.size
  have hBld : Bld w wz bb b gs gw c r m (.slice al bd.locals.length capl) (.slice ai bd.code.length capi) (List.replicate bd.code.length none) (List.replicate bd.code.length false) false := by
   refine ⟨hBb.trans hC, by omega, by omega, by omega, by rw [List.length_replicate]; exact hh7, ⟨List.replicate bd.code.length noSt, hh3, by simp [noSt], fun x hx s lo e => by rw [List.eq_of_mem_replicate hx] at e; cases e⟩, hh5, by simp⟩
  have hgb' := (hC.block w.heap.size hgbl (fun h => h)).trans HGB.out
  have hgr' := (hC.block (w.heap.size + 1) hgrl (fun h => h)).trans HGR.out
  clear k0 k1 k2 k3 k4 hh3 hh5 hh7 hC hmkS hmkB
  obtain ⟨k0, k1, k2, k3, k4⟩ := row5 hgb'
  have hgbl' := lt_of_block hgb'
  have hE := BtB.empty wz
  have hB4 : But (fun _ => False) wz (wz.alloc (.cells #[] 5)) := But.alloc _ _ _
  have hBld4 := hBld.next hB4
  have hlo4 := hlo.but hBld4.but (fun _ _ h => h)
  have hloc := hbd.loc.1
  have hwf0 : wfT im.classes.length bd.locals.length (List.replicate bd.code.length (none : St)).length (List.replicate bd.code.length none) := ⟨rfl, fun k s l hk => by rw [List.getElem?_replicate] at hk; split at hk <;> simp at hk⟩
  have hz0' : okZ im.classes.length bd.locals.length [] bd.locals := ⟨by simp, fun c hc => isTy_ok (hbd.loc.2 c hc), rfl⟩
  have hre := xreach_any w bb b gs gw c r m _ _ _ _ false im bd.locals.length 0 (some ⟨wz.heap.size, 0, none⟩) al 0 capl [] bd.locals _ hW hloc (by simp; omega) hBld4 hTX.cls hwf0 hz0' (by simp) (World.ownsRow.mono hE (Nat.zero_le _)) hlo4
  have h0 : (List.replicate bd.code.length (none : St))[0]? = some none := by rw [List.getElem?_replicate, if_pos (by omega)]
  rw [rW_new h0] at hre
  unfold xsV at hre
  have HRE := hid hre
  have HGB' := hid hgb'
  have HGR' := hid hgr'
  clear hre hE hB4 hBld4 hlo4 hwf0 hz0' h0 hBld hgb' hgr' HGB HGR
  go_wp2_with fail
  refine HRE.out.mono ?_
  rintro en w5 ⟨rfl, hB5, hBl5⟩
  clear HRE
  simp only [Bool.or_false] at hBl5
  have hgr5 := (((But.alloc (fun _ => False) wz (.cells #[] 5)).mono (G := fun k => k = bb ∨ k = gs ∨ k = gw) (fun _ _ h => h.elim)).trans hB5).block (w.heap.size + 1) (lt_of_block HGR'.out) (by omega)
  have hgr6 := hgr5.trans HGR'.out
  have HGR6 := hid hgr6
  clear hgr5 hgr6 HGR' HGB' k0 k1 k2 k3 k4 hgbl' hB5
  have HLR := hid (LoopR.start hbd)
  obtain ⟨tab, hTe⟩ : ∃ tab, (List.replicate bd.code.length (none : St)).set 0 (some ([], bd.locals)) = tab := ⟨_, rfl⟩
  obtain ⟨wt, hWe⟩ : ∃ wt, (List.replicate bd.code.length false).set 0 true = wt := ⟨_, rfl⟩
  obtain ⟨mu0, hMe⟩ : ∃ mu0, muW (startTab bd, (List.replicate bd.code.length false).set 0 true, false) = mu0 := ⟨_, rfl⟩
  have htl5 : tab.length ≤ 100 := by rw [← hTe]; simp; omega
  rw [hMe] at HLR
  rw [hTe, hWe] at hBl5 HLR
  clear hTe hWe hMe
  have hc5 := hBl5.cells
  have hfw := firstWaiting_any bb gw wt w5 (by rw [hBl5.wl]; exact hc5.2.2.1) hBl5.wts (by rw [hBl5.wl]; exact htl5)
  have HFW := hid hfw
  clear hfw hc5
  go_wp2_with fail
  refine HFW.out.mono ?_
  rintro en wx ⟨rfl, hwx⟩
  rw [hwx]
  clear hwx wx HFW
  go_wp2_with fail
  go_loopg [8] mu0 (fun mm av wr => ∃ (tab : List St) (wt : List Bool) (bad : Bool), av = .int .i64 (firstW wt wt.length 0) ∧ Bld w wr bb b gs gw c r m (.slice al bd.locals.length capl) (.slice ai bd.code.length capi) tab wt bad ∧ Hid (wr.heap[w.heap.size + 1]? = some (.cells #[.slice none 0 0] 65)) ∧ Hid (LoopR im bd tab wt bad mm))
  case atStart => exact ⟨tab, wt, false, rfl, hBl5, HGR6, HLR.out⟩
  case round =>
   clear hBl5 HLR htl5 HGR6
   obtain ⟨tab, wt, bad, rfl, hBl, HGR6, HLR⟩ := hrel
   obtain ⟨c0, c6, c7, c8⟩ := hBl.cells
   have hlt := hBl.lt
   cases bad with
   | true =>
    have hN : leastT im bd = none := by
     rcases HLR.out with ⟨h, _⟩ | ⟨_, h⟩
     ·cases h
     ·exact h
    have HN := hid hN
    have r0 : wr.cell? ⟨w.heap.size + 1, 0, none⟩ = some (.slice none 0 0) := by rw [cell_of_row wr (w.heap.size + 1) 0 _ _ (0, 0) HGR6.out]; rfl
    have f0 : wr.frozen? ⟨w.heap.size + 1, 0, none⟩ = false := frozen_of_row wr (w.heap.size + 1) 0 _ _ HGR6.out
    clear hN HLR
    rcases firstW_spec (l := wt) wt.length 0 (by omega) with ⟨hf, hall⟩ | ⟨a, hf, hal, haw⟩
    ·rw [hf]
     clear hf hall
     go_wp2_with fail
     have h9 := heap_setCell_same wr (w.heap.size + 1) 0 _ _ (.slice none 0 0) HGR6.out
     have h9b := But.setB wr (w.heap.size + 1) 0 (.slice none 0 0)
     revert h9 h9b
     generalize (wr.setCell ⟨w.heap.size + 1, 0, none⟩ (.slice none 0 0)) = w9
     intro h9 h9b
     have z0 : w9.cell? ⟨w.heap.size + 1, 0, none⟩ = some (.slice none 0 0) := by rw [cell_of_row w9 (w.heap.size + 1) 0 _ _ (0, 0) h9]; rfl
     exact bodyPost_ret (v := .tuple #[.agg #[.slice none 0 0], .bool false]) (by simp [results, Tryz.results65, go_sem, z0]) rfl ⟨hBl.but.next h9b (fun k hk h => by omega), Or.inl ⟨HN.out, rfl⟩⟩
    ·rw [hf]
     have ha0 : (0 : Int) ≤ (a : Int) := by omega
     clear hf haw
     go_wp2_with fail
     have h9 := heap_setCell_same wr (w.heap.size + 1) 0 _ _ (.slice none 0 0) HGR6.out
     have h9b := But.setB wr (w.heap.size + 1) 0 (.slice none 0 0)
     revert h9 h9b
     generalize (wr.setCell ⟨w.heap.size + 1, 0, none⟩ (.slice none 0 0)) = w9
     intro h9 h9b
     have z0 : w9.cell? ⟨w.heap.size + 1, 0, none⟩ = some (.slice none 0 0) := by rw [cell_of_row w9 (w.heap.size + 1) 0 _ _ (0, 0) h9]; rfl
     exact bodyPost_ret (v := .tuple #[.agg #[.slice none 0 0], .bool false]) (by simp [results, Tryz.results65, go_sem, z0]) rfl ⟨hBl.but.next h9b (fun k hk h => by omega), Or.inl ⟨HN.out, rfl⟩⟩
   | false =>
    rcases firstW_spec (l := wt) wt.length 0 (by omega) with ⟨hf, hall⟩ | ⟨a, hf, hal, haw⟩
    ·rw [hf]
     have hN := HLR.out.done hW hbd (fun k hk => hall k (Nat.zero_le _) hk)
     have HN := hid hN
     have r0 : wr.cell? ⟨w.heap.size + 1, 0, none⟩ = some (.slice none 0 0) := by rw [cell_of_row wr (w.heap.size + 1) 0 _ _ (0, 0) HGR6.out]; rfl
     have f0 : wr.frozen? ⟨w.heap.size + 1, 0, none⟩ = false := frozen_of_row wr (w.heap.size + 1) 0 _ _ HGR6.out
     clear hN HLR hf hall
     go_wp2_with fail
     have h9 := heap_setCell_same wr (w.heap.size + 1) 0 _ _ (.slice (some ⟨gs, 0, none⟩) tab.length tab.length) HGR6.out
     have h9b := But.setB wr (w.heap.size + 1) 0 (.slice (some ⟨gs, 0, none⟩) tab.length tab.length)
     revert h9 h9b
     generalize (wr.setCell ⟨w.heap.size + 1, 0, none⟩ (.slice (some ⟨gs, 0, none⟩) tab.length tab.length)) = w9
     intro h9 h9b
     have z0 : w9.cell? ⟨w.heap.size + 1, 0, none⟩ = some (.slice (some ⟨gs, 0, none⟩) tab.length tab.length) := by rw [cell_of_row w9 (w.heap.size + 1) 0 _ _ (0, 0) h9]; rfl
     have hst9 := hBl.sts.off h9b (by omega) (fun k cur hk e => by
      rw [e, HGR6.out] at hk
      injection hk with hk
      injection hk with _ h2
      exact absurd h2 (by decide))
     exact bodyPost_ret (v := .tuple #[.agg #[.slice (some ⟨gs, 0, none⟩) tab.length tab.length], .bool true]) (by simp [results, Tryz.results65, go_sem, z0]) rfl ⟨hBl.but.next h9b (fun k hk h => by omega), Or.inr ⟨tab, gs, HN.out, rfl, hst9, by omega⟩⟩
    ·rw [hf]
     obtain ⟨x, s, l, hx, hst, hwf, hnx⟩ := HLR.out.next hW hbd haw
     have htl : tab.length = bd.code.length := hwf.1
     have hwtl := hBl.wl
     obtain ⟨wc1, wf1⟩ := hBl.wcell (k := a) (by omega)
     have haI : (a : Int) < (tab.length : Int) := by omega
     have ha0 : (0 : Int) ≤ (a : Int) := by omega
     have HNX := hid hnx
     have hBw := hBl.wait a false
     have HBw := hid hBw
     clear hnx HLR hf haw
     have hgr7 := ((But.setB wr gw a (.bool false)).block (w.heap.size + 1) (lt_of_block HGR6.out) (by omega)).trans HGR6.out
     have HGR7 := hid hgr7
     have hfo := xfollow_any w bb b gs gw m c (.slice al bd.locals.length capl) ai capi tab (wt.set a false) im bd a x s l _ hW hbd (by rw [HR.out]; exact HBw.out) rfl hit hTX hwf htl hx hst
     rw [HR.out] at hfo
     have HFO := hid hfo
     clear hgr7 HGR6 hfo hBw HBw
     go_wp2_with fail
     refine HFO.out.mono ?_
     rintro en w7 ⟨rfl, hB7, tab', wt', bad', htl7, hBl7, hb7, ht7⟩
     obtain ⟨m', hm', hL'⟩ := HNX.out tab' wt' bad' hb7 ht7
     have HL' := hid hL'
     have hgr8 := (hB7.block (w.heap.size + 1) (lt_of_block HGR7.out) (by omega)).trans HGR7.out
     have HGR8 := hid hgr8
     have hc7 := hBl7.cells
     have hfw := firstWaiting_any bb gw wt' w7 (by rw [hBl7.wl]; exact hc7.2.2.1) hBl7.wts (by rw [hBl7.wl]; omega)
     have HFW := hid hfw
     clear hgr8 hL' HNX HFO hb7 ht7 hfw hc7 HGR7 c0 c6 c7 c8 wc1 wf1
     go_wp2_with fail
     refine HFW.out.mono ?_
     rintro en wx ⟨rfl, hwx⟩
     rw [hwx]
     clear hwx wx HFW
     go_wp2_with fail
     go_roundg m'
     case measure => omega
     case rel => exact ⟨tab', wt', bad', rfl, hBl7, HGR8, HL'.out⟩
 ·have hz0 := hBb.size
  have hBld : Bld w wz bb b gs gw c r m (.slice al bd.locals.length capl) (.slice ai bd.code.length capi) (List.replicate bd.code.length none) (List.replicate bd.code.length false) false := by
   refine ⟨hBb.trans hC, by omega, by omega, by omega, by rw [List.length_replicate]; exact hh7, ⟨List.replicate bd.code.length noSt, hh3, by simp [noSt], fun x hx s lo e => by rw [List.eq_of_mem_replicate hx] at e; cases e⟩, hh5, by simp⟩
  have hgb' := (hC.block w.heap.size hgbl (fun h => h)).trans HGB.out
  have hgr' := (hC.block (w.heap.size + 1) hgrl (fun h => h)).trans HGR.out
  clear k0 k1 k2 k3 k4 hh3 hh5 hh7 hC hmkS hmkB
  obtain ⟨k0, k1, k2, k3, k4⟩ := row5 hgb'
  have hgbl' := lt_of_block hgb'
  have hE := BtB.empty wz
  have hB4 : But (fun _ => False) wz (wz.alloc (.cells #[] 5)) := But.alloc _ _ _
  have hBld4 := hBld.next hB4
  have hlo4 := hlo.but hBld4.but (fun _ _ h => h)
  have hloc := hbd.loc.1
  have hwf0 : wfT im.classes.length bd.locals.length (List.replicate bd.code.length (none : St)).length (List.replicate bd.code.length none) := ⟨rfl, fun k s l hk => by rw [List.getElem?_replicate] at hk; split at hk <;> simp at hk⟩
  have hz0' : okZ im.classes.length bd.locals.length [] bd.locals := ⟨by simp, fun c hc => isTy_ok (hbd.loc.2 c hc), rfl⟩
  have hre := xreach_any w bb b gs gw c r m _ _ _ _ false im bd.locals.length 0 (some ⟨wz.heap.size, 0, none⟩) al 0 capl [] bd.locals _ hW hloc (by simp; omega) hBld4 hTX.cls hwf0 hz0' (by simp) (World.ownsRow.mono hE (Nat.zero_le _)) hlo4
  have h0 : (List.replicate bd.code.length (none : St))[0]? = some none := by rw [List.getElem?_replicate, if_pos (by omega)]
  rw [rW_new h0] at hre
  unfold xsV at hre
  have HRE := hid hre
  have HGB' := hid hgb'
  have HGR' := hid hgr'
  clear hre hE hB4 hBld4 hlo4 hwf0 hz0' h0 hBld hgb' hgr' HGB HGR
  go_wp2_with fail
  refine HRE.out.mono ?_
  rintro en w5 ⟨rfl, hB5, hBl5⟩
  clear HRE
  simp only [Bool.or_false] at hBl5
  have hgr5 := (((But.alloc (fun _ => False) wz (.cells #[] 5)).mono (G := fun k => k = bb ∨ k = gs ∨ k = gw) (fun _ _ h => h.elim)).trans hB5).block (w.heap.size + 1) (lt_of_block HGR'.out) (by omega)
  have hgr6 := hgr5.trans HGR'.out
  have HGR6 := hid hgr6
  clear hgr5 hgr6 HGR' HGB' k0 k1 k2 k3 k4 hgbl' hB5
  have HLR := hid (LoopR.start hbd)
  obtain ⟨tab, hTe⟩ : ∃ tab, (List.replicate bd.code.length (none : St)).set 0 (some ([], bd.locals)) = tab := ⟨_, rfl⟩
  obtain ⟨wt, hWe⟩ : ∃ wt, (List.replicate bd.code.length false).set 0 true = wt := ⟨_, rfl⟩
  obtain ⟨mu0, hMe⟩ : ∃ mu0, muW (startTab bd, (List.replicate bd.code.length false).set 0 true, false) = mu0 := ⟨_, rfl⟩
  have htl5 : tab.length ≤ 100 := by rw [← hTe]; simp; omega
  rw [hMe] at HLR
  rw [hTe, hWe] at hBl5 HLR
  clear hTe hWe hMe
  have hc5 := hBl5.cells
  have hfw := firstWaiting_any bb gw wt w5 (by rw [hBl5.wl]; exact hc5.2.2.1) hBl5.wts (by rw [hBl5.wl]; exact htl5)
  have HFW := hid hfw
  clear hfw hc5
  go_wp2_with fail
  refine HFW.out.mono ?_
  rintro en wx ⟨rfl, hwx⟩
  rw [hwx]
  clear hwx wx HFW
  go_wp2_with fail
  go_loopg [8] mu0 (fun mm av wr => ∃ (tab : List St) (wt : List Bool) (bad : Bool), av = .int .i64 (firstW wt wt.length 0) ∧ Bld w wr bb b gs gw c r m (.slice al bd.locals.length capl) (.slice ai bd.code.length capi) tab wt bad ∧ Hid (wr.heap[w.heap.size + 1]? = some (.cells #[.slice none 0 0] 65)) ∧ Hid (LoopR im bd tab wt bad mm))
  case atStart => exact ⟨tab, wt, false, rfl, hBl5, HGR6, HLR.out⟩
  case round =>
   clear hBl5 HLR htl5 HGR6
   obtain ⟨tab, wt, bad, rfl, hBl, HGR6, HLR⟩ := hrel
   obtain ⟨c0, c6, c7, c8⟩ := hBl.cells
   have hlt := hBl.lt
   cases bad with
   | true =>
    have hN : leastT im bd = none := by
     rcases HLR.out with ⟨h, _⟩ | ⟨_, h⟩
     ·cases h
     ·exact h
    have HN := hid hN
    have r0 : wr.cell? ⟨w.heap.size + 1, 0, none⟩ = some (.slice none 0 0) := by rw [cell_of_row wr (w.heap.size + 1) 0 _ _ (0, 0) HGR6.out]; rfl
    have f0 : wr.frozen? ⟨w.heap.size + 1, 0, none⟩ = false := frozen_of_row wr (w.heap.size + 1) 0 _ _ HGR6.out
    clear hN HLR
    rcases firstW_spec (l := wt) wt.length 0 (by omega) with ⟨hf, hall⟩ | ⟨a, hf, hal, haw⟩
    ·rw [hf]
     clear hf hall
     go_wp2_with fail
     have h9 := heap_setCell_same wr (w.heap.size + 1) 0 _ _ (.slice none 0 0) HGR6.out
     have h9b := But.setB wr (w.heap.size + 1) 0 (.slice none 0 0)
     revert h9 h9b
     generalize (wr.setCell ⟨w.heap.size + 1, 0, none⟩ (.slice none 0 0)) = w9
     intro h9 h9b
     have z0 : w9.cell? ⟨w.heap.size + 1, 0, none⟩ = some (.slice none 0 0) := by rw [cell_of_row w9 (w.heap.size + 1) 0 _ _ (0, 0) h9]; rfl
     exact bodyPost_ret (v := .tuple #[.agg #[.slice none 0 0], .bool false]) (by simp [results, Tryz.results65, go_sem, z0]) rfl ⟨hBl.but.next h9b (fun k hk h => by omega), Or.inl ⟨HN.out, rfl⟩⟩
    ·rw [hf]
     have ha0 : (0 : Int) ≤ (a : Int) := by omega
     clear hf haw
     go_wp2_with fail
     have h9 := heap_setCell_same wr (w.heap.size + 1) 0 _ _ (.slice none 0 0) HGR6.out
     have h9b := But.setB wr (w.heap.size + 1) 0 (.slice none 0 0)
     revert h9 h9b
     generalize (wr.setCell ⟨w.heap.size + 1, 0, none⟩ (.slice none 0 0)) = w9
     intro h9 h9b
     have z0 : w9.cell? ⟨w.heap.size + 1, 0, none⟩ = some (.slice none 0 0) := by rw [cell_of_row w9 (w.heap.size + 1) 0 _ _ (0, 0) h9]; rfl
     exact bodyPost_ret (v := .tuple #[.agg #[.slice none 0 0], .bool false]) (by simp [results, Tryz.results65, go_sem, z0]) rfl ⟨hBl.but.next h9b (fun k hk h => by omega), Or.inl ⟨HN.out, rfl⟩⟩
   | false =>
    rcases firstW_spec (l := wt) wt.length 0 (by omega) with ⟨hf, hall⟩ | ⟨a, hf, hal, haw⟩
    ·rw [hf]
     have hN := HLR.out.done hW hbd (fun k hk => hall k (Nat.zero_le _) hk)
     have HN := hid hN
     have r0 : wr.cell? ⟨w.heap.size + 1, 0, none⟩ = some (.slice none 0 0) := by rw [cell_of_row wr (w.heap.size + 1) 0 _ _ (0, 0) HGR6.out]; rfl
     have f0 : wr.frozen? ⟨w.heap.size + 1, 0, none⟩ = false := frozen_of_row wr (w.heap.size + 1) 0 _ _ HGR6.out
     clear hN HLR hf hall
     go_wp2_with fail
     have h9 := heap_setCell_same wr (w.heap.size + 1) 0 _ _ (.slice (some ⟨gs, 0, none⟩) tab.length tab.length) HGR6.out
     have h9b := But.setB wr (w.heap.size + 1) 0 (.slice (some ⟨gs, 0, none⟩) tab.length tab.length)
     revert h9 h9b
     generalize (wr.setCell ⟨w.heap.size + 1, 0, none⟩ (.slice (some ⟨gs, 0, none⟩) tab.length tab.length)) = w9
     intro h9 h9b
     have z0 : w9.cell? ⟨w.heap.size + 1, 0, none⟩ = some (.slice (some ⟨gs, 0, none⟩) tab.length tab.length) := by rw [cell_of_row w9 (w.heap.size + 1) 0 _ _ (0, 0) h9]; rfl
     have hst9 := hBl.sts.off h9b (by omega) (fun k cur hk e => by
      rw [e, HGR6.out] at hk
      injection hk with hk
      injection hk with _ h2
      exact absurd h2 (by decide))
     exact bodyPost_ret (v := .tuple #[.agg #[.slice (some ⟨gs, 0, none⟩) tab.length tab.length], .bool true]) (by simp [results, Tryz.results65, go_sem, z0]) rfl ⟨hBl.but.next h9b (fun k hk h => by omega), Or.inr ⟨tab, gs, HN.out, rfl, hst9, by omega⟩⟩
    ·rw [hf]
     obtain ⟨x, s, l, hx, hst, hwf, hnx⟩ := HLR.out.next hW hbd haw
     have htl : tab.length = bd.code.length := hwf.1
     have hwtl := hBl.wl
     obtain ⟨wc1, wf1⟩ := hBl.wcell (k := a) (by omega)
     have haI : (a : Int) < (tab.length : Int) := by omega
     have ha0 : (0 : Int) ≤ (a : Int) := by omega
     have HNX := hid hnx
     have hBw := hBl.wait a false
     have HBw := hid hBw
     clear hnx HLR hf haw
     have hgr7 := ((But.setB wr gw a (.bool false)).block (w.heap.size + 1) (lt_of_block HGR6.out) (by omega)).trans HGR6.out
     have HGR7 := hid hgr7
     have hfo := xfollow_any w bb b gs gw m c (.slice al bd.locals.length capl) ai capi tab (wt.set a false) im bd a x s l _ hW hbd (by rw [HR.out]; exact HBw.out) rfl hit hTX hwf htl hx hst
     rw [HR.out] at hfo
     have HFO := hid hfo
     clear hgr7 HGR6 hfo hBw HBw
     go_wp2_with fail
     refine HFO.out.mono ?_
     rintro en w7 ⟨rfl, hB7, tab', wt', bad', htl7, hBl7, hb7, ht7⟩
     obtain ⟨m', hm', hL'⟩ := HNX.out tab' wt' bad' hb7 ht7
     have HL' := hid hL'
     have hgr8 := (hB7.block (w.heap.size + 1) (lt_of_block HGR7.out) (by omega)).trans HGR7.out
     have HGR8 := hid hgr8
     have hc7 := hBl7.cells
     have hfw := firstWaiting_any bb gw wt' w7 (by rw [hBl7.wl]; exact hc7.2.2.1) hBl7.wts (by rw [hBl7.wl]; omega)
     have HFW := hid hfw
     clear hgr8 hL' HNX HFO hb7 ht7 hfw hc7 HGR7 c0 c6 c7 c8 wc1 wf1
     go_wp2_with fail
     refine HFW.out.mono ?_
     rintro en wx ⟨rfl, hwx⟩
     rw [hwx]
     clear hwx wx HFW
     go_wp2_with fail
     go_roundg m'
     case measure => omega
     case rel => exact ⟨tab', wt', bad', rfl, hBl7, HGR8, HL'.out⟩
end Go.Proofs.YtpfkkmacakjmbaaGreatDoor
