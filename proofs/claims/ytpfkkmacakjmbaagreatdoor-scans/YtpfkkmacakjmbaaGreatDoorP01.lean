import Derived.Test.YtpfkkmacakjmbaaGreatDoorP00
import Derived.Test.YtpfkkmacakjmbaaGreatDoorProg
import Derived.WalkKit
import Derived.WalkSpells
import Derived.Deep.QuietTactic
import Derived.BigQuiet
import Derived.Deep.LoopGhost
import Derived.Deep.AppendLies
import Derived.Deep.DrawnRows
/- The reader's block; worlds that differ in one block alone. -/
namespace Go.Proofs.YtpfkkmacakjmbaaGreatDoor
open Go Go.RowKit
/-- Of the blocks that were there only those in F may have turned. -/
structure But (F : Nat → Prop) (w w' : World) : Prop where
 os : w'.os = w.os
 tape : w'.tape = w.tape
 output : w'.output = w.output
 size : w.heap.size ≤ w'.heap.size
 block : ∀ k, k < w.heap.size → ¬ F k → w'.heap[k]? = w.heap[k]?
theorem But.refl (F : Nat → Prop) (w : World) : But F w w := ⟨rfl, rfl, rfl, Nat.le_refl _, fun _ _ _ => rfl⟩
theorem But.trans {F : Nat → Prop} {a b c : World} (h : But F a b) (k : But F b c) : But F a c :=
 ⟨k.os.trans h.os, k.tape.trans h.tape, k.output.trans h.output, Nat.le_trans h.size k.size,
  fun i hi hf => (k.block i (Nat.lt_of_lt_of_le hi h.size) hf).trans (h.block i hi hf)⟩
theorem But.mono {F G : Nat → Prop} {a b : World} (h : But F a b) (hs : ∀ k, k < a.heap.size → F k → G k) : But G a b :=
 ⟨h.os, h.tape, h.output, h.size, fun k hk hg => h.block k hk (fun hf => hg (hs k hk hf))⟩
theorem But.next {F G : Nat → Prop} {a b c : World} (h : But G a b) (k : But F b c) (hs : ∀ i, i < a.heap.size → F i → G i) : But G a c :=
 ⟨k.os.trans h.os, k.tape.trans h.tape, k.output.trans h.output, Nat.le_trans h.size k.size,
  fun i hi hf => (k.block i (Nat.lt_of_lt_of_le hi h.size) (fun h' => hf (hs i hi h'))).trans (h.block i hi hf)⟩
theorem But.drewN (F : Nat → Prop) (w : World) (n : Nat) : But F w (w.drewN n) := ⟨rfl, rfl, rfl, Nat.le_refl _, fun _ _ _ => rfl⟩
theorem But.drew (F : Nat → Prop) (w : World) : But F w w.drew := ⟨rfl, rfl, rfl, Nat.le_refl _, fun _ _ _ => rfl⟩
theorem But.alloc (F : Nat → Prop) (w : World) (o : Obj) : But F w (w.alloc o) :=
 ⟨rfl, rfl, rfl, by simp, fun k hk _ => Below.heap_alloc _ _ _ hk⟩
theorem But.setCell {F : Nat → Prop} (w : World) {a : Addr} (ha : F a.block) (u : Value) : But F w (w.setCell a u) :=
 ⟨rfl, rfl, rfl, by simp [World.setCell], fun k _ hf => Below.heap_setCell _ _ _ _ (fun e => hf (e ▸ ha))⟩
theorem But.setB (w : World) (b j : Nat) (u : Value) : But (· = b) w (w.setCell ⟨b, j, none⟩ u) := But.setCell (F := fun x => x = b) w (a := ⟨b, j, none⟩) (by rfl) u
theorem But.below {F : Nat → Prop} {w w' : World} (h : Below w.heap.size w w') : But F w w' :=
 ⟨h.os, h.tape, h.output, h.size, fun k hk _ => h.block k hk⟩
theorem But.cell {F : Nat → Prop} {w w' : World} (h : But F w w') {p : Addr} (hp : p.block < w.heap.size) (hf : ¬ F p.block) : w'.cell? p = w.cell? p :=
 World.cell?_of_block (w := w) (h.block p.block hp hf)
theorem But.frozen {F : Nat → Prop} {w w' : World} (h : But F w w') {p : Addr} (hp : p.block < w.heap.size) (hf : ¬ F p.block) : w'.frozen? p = w.frozen? p :=
 World.frozen?_of_block (w := w) (h.block p.block hp hf)
theorem But.toBelow {F : Nat → Prop} {B : Nat} {w w' : World} (h : But F w w') (hB : B ≤ w.heap.size) (hF : ∀ k, F k → B ≤ k) : Below B w w' :=
 ⟨h.os, h.tape, h.output, h.size, fun k hk => h.block k (by omega) (fun hf => by have := hF k hf; omega)⟩
theorem lt_of_block {w : World} {b : Nat} {o : Obj} (h : w.heap[b]? = some o) : b < w.heap.size := by
 rcases Nat.lt_or_ge b w.heap.size with h1 | h1
 ·exact h1
 ·rw [Array.getElem?_eq_none h1] at h; cases h
/-- The cells of the document's reader. -/
def RdB (w : World) (b : Nat) (s : ByteArray) (i : Nat) (bad src : Bool) (bi : Nat) (vc vt : Value) : Prop :=
 w.heap[b]? = some (.cells #[.string s, .int .i64 i, .bool bad, .bool src, .pointer (some ⟨bi, 0, none⟩), vc, vt] 140)
section
variable {w : World} {b : Nat} {s : ByteArray} {i : Nat} {bad src : Bool} {bi : Nat} {vc vt : Value}
theorem RdB.lt (h : RdB w b s i bad src bi vc vt) : b < w.heap.size := lt_of_block h
theorem RdB.c0 (h : RdB w b s i bad src bi vc vt) : w.cell? ⟨b, 0, none⟩ = some (.string s) := by rw [cell_of_row w b 0 _ _ (0, 0) h]; rfl
theorem RdB.c1 (h : RdB w b s i bad src bi vc vt) : w.cell? ⟨b, 1, none⟩ = some (.int .i64 i) := by rw [cell_of_row w b 1 _ _ (0, 0) h]; rfl
theorem RdB.c2 (h : RdB w b s i bad src bi vc vt) : w.cell? ⟨b, 2, none⟩ = some (.bool bad) := by rw [cell_of_row w b 2 _ _ (0, 0) h]; rfl
theorem RdB.c3 (h : RdB w b s i bad src bi vc vt) : w.cell? ⟨b, 3, none⟩ = some (.bool src) := by rw [cell_of_row w b 3 _ _ (0, 0) h]; rfl
theorem RdB.c4 (h : RdB w b s i bad src bi vc vt) : w.cell? ⟨b, 4, none⟩ = some (.pointer (some ⟨bi, 0, none⟩)) := by rw [cell_of_row w b 4 _ _ (0, 0) h]; rfl
theorem RdB.c5 (h : RdB w b s i bad src bi vc vt) : w.cell? ⟨b, 5, none⟩ = some vc := by rw [cell_of_row w b 5 _ _ (0, 0) h]; rfl
theorem RdB.c6 (h : RdB w b s i bad src bi vc vt) : w.cell? ⟨b, 6, none⟩ = some vt := by rw [cell_of_row w b 6 _ _ (0, 0) h]; rfl
theorem RdB.fz (h : RdB w b s i bad src bi vc vt) (j : Nat) : w.frozen? ⟨b, j, none⟩ = false := frozen_of_row w b j _ _ h
theorem RdB.drewN (h : RdB w b s i bad src bi vc vt) (n : Nat) : RdB (w.drewN n) b s i bad src bi vc vt := h
theorem RdB.but {F : Nat → Prop} {w' : World} (h : RdB w b s i bad src bi vc vt) (hb : But F w w') (hf : ¬ F b) : RdB w' b s i bad src bi vc vt := (hb.block b h.lt hf).trans h
theorem RdB.alloc (h : RdB w b s i bad src bi vc vt) (o : Obj) : RdB (w.alloc o) b s i bad src bi vc vt := h.but (But.alloc (fun _ => False) w o) (fun h => h)
theorem RdB.set1 (h : RdB w b s i bad src bi vc vt) (j : Nat) : RdB (w.setCell ⟨b, 1, none⟩ (.int .i64 j)) b s j bad src bi vc vt := heap_setCell_same w b 1 _ _ _ h
theorem RdB.inc (h : RdB w b s i bad src bi vc vt) : RdB (w.setCell ⟨b, 1, none⟩ (.int .i64 ((i : Int) + 1))) b s (i + 1) bad src bi vc vt := by simpa using h.set1 (i + 1)
theorem RdB.set2 (h : RdB w b s i bad src bi vc vt) (d : Bool) : RdB (w.setCell ⟨b, 2, none⟩ (.bool d)) b s i d src bi vc vt := heap_setCell_same w b 2 _ _ _ h
theorem RdB.set5 (h : RdB w b s i bad src bi vc vt) (v : Value) : RdB (w.setCell ⟨b, 5, none⟩ v) b s i bad src bi v vt := heap_setCell_same w b 5 _ _ _ h
theorem RdB.set6 (h : RdB w b s i bad src bi vc vt) (v : Value) : RdB (w.setCell ⟨b, 6, none⟩ v) b s i bad src bi vc v := heap_setCell_same w b 6 _ _ _ h
end
theorem heap_alloc_at {w : World} {g : Nat} (h : w.heap.size = g) (o : Obj) : (w.alloc o).heap[g]? = some o := by subst h; exact heap_alloc_new _ _
theorem size_setCell (w : World) (a : Addr) (u : Value) : (w.setCell a u).heap.size = w.heap.size := by simp [World.setCell]
/-- The cells of an image. -/
def ImB (w : World) (bi : Nat) (v0 v1 v2 : Value) : Prop := w.heap[bi]? = some (.cells #[v0, v1, v2] 44)
section
variable {w : World} {bi : Nat} {v0 v1 v2 : Value}
theorem ImB.lt (h : ImB w bi v0 v1 v2) : bi < w.heap.size := lt_of_block h
theorem ImB.c0 (h : ImB w bi v0 v1 v2) : w.cell? ⟨bi, 0, none⟩ = some v0 := by rw [cell_of_row w bi 0 _ _ (0, 0) h]; rfl
theorem ImB.c1 (h : ImB w bi v0 v1 v2) : w.cell? ⟨bi, 1, none⟩ = some v1 := by rw [cell_of_row w bi 1 _ _ (0, 0) h]; rfl
theorem ImB.c2 (h : ImB w bi v0 v1 v2) : w.cell? ⟨bi, 2, none⟩ = some v2 := by rw [cell_of_row w bi 2 _ _ (0, 0) h]; rfl
theorem ImB.fz (h : ImB w bi v0 v1 v2) (j : Nat) : w.frozen? ⟨bi, j, none⟩ = false := frozen_of_row w bi j _ _ h
theorem ImB.but {F : Nat → Prop} {w' : World} (h : ImB w bi v0 v1 v2) (hb : But F w w') (hf : ¬ F bi) : ImB w' bi v0 v1 v2 := (hb.block bi h.lt hf).trans h
theorem ImB.set0 (h : ImB w bi v0 v1 v2) (v : Value) : ImB (w.setCell ⟨bi, 0, none⟩ v) bi v v1 v2 := heap_setCell_same w bi 0 _ _ _ h
theorem ImB.set1 (h : ImB w bi v0 v1 v2) (v : Value) : ImB (w.setCell ⟨bi, 1, none⟩ v) bi v0 v v2 := heap_setCell_same w bi 1 _ _ _ h
theorem ImB.set2 (h : ImB w bi v0 v1 v2) (v : Value) : ImB (w.setCell ⟨bi, 2, none⟩ v) bi v0 v1 v := heap_setCell_same w bi 2 _ _ _ h
end
theorem owns_but {F : Nat → Prop} {w w' : World} {base e size n : Nat} {v : Value} {xs : List Value} (h : w.ownsRow base e size v n xs) (hb : But F w w') (hf : ∀ g, v.ownBlock = some g → ¬ F g) : w'.ownsRow base e size v n xs := by
 refine ⟨h.1, ?_⟩
 rcases h.2 with h2 | ⟨g, cap, cur, hv, hg, hh, r⟩
 ·exact Or.inl h2
 ·exact Or.inr ⟨g, cap, cur, hv, hg, (hb.block g (lt_of_block hh) (hf g (by rw [hv]; rfl))).trans hh, r⟩
theorem owns_ge {w : World} {base e size n : Nat} {v : Value} {xs : List Value} (h : w.ownsRow base e size v n xs) : ∀ g, v.ownBlock = some g → base ≤ g := by
 intro g hg
 rcases h.2 with ⟨rfl, _⟩ | ⟨g', cap, cur, rfl, hb, _⟩
 ·cases hg
 ·simp [Value.ownBlock] at hg; omega
theorem owns_lt {w : World} {base e size n : Nat} {v : Value} {xs : List Value} (h : w.ownsRow base e size v n xs) : ∀ g, v.ownBlock = some g → g < w.heap.size := by
 intro g hg
 rcases h.2 with ⟨rfl, _⟩ | ⟨g', cap, cur, rfl, hb, hh, _⟩
 ·cases hg
 ·simp [Value.ownBlock] at hg; subst hg; exact lt_of_block hh
theorem owns_nil (w : World) (base e size : Nat) : w.ownsRow base e size (.slice none 0 0) 0 [] := ⟨by simp, Or.inl ⟨rfl, rfl⟩⟩
/-- What an owned slice looks like. -/
theorem owns_len {w : World} {base e size n : Nat} {v : Value} {xs : List Value} (h : w.ownsRow base e size v n xs) : ∃ ao cap, v = .slice ao n cap := by
 rcases h.2 with ⟨rfl, rfl⟩ | ⟨g', cap, cur, rfl, _⟩
 ·exact ⟨_, _, rfl⟩
 ·exact ⟨_, _, rfl⟩
/-- An element's cell. -/
theorem owns_cell {w : World} {base e size n : Nat} {v : Value} {xs : List Value} (h : w.ownsRow base e size v n xs) {j : Nat} {u : Value} (hu : xs[j]? = some u) :
  ∃ g cap, v = .slice (some ⟨g, 0, none⟩) n cap ∧ w.cell? ⟨g, j, none⟩ = some u ∧ g < w.heap.size ∧ base ≤ g := by
 rcases h.2 with ⟨rfl, rfl⟩ | ⟨g, cap, cur, rfl, hb, hh, _⟩
 ·have := h.1; simp at this; subst this; simp at hu
 ·refine ⟨g, cap, rfl, ?_, lt_of_block hh, hb⟩
  have hj : j < n * size := by rw [← h.1]; exact (List.getElem?_eq_some_iff.1 hu).1
  rw [h.cellAt j hj, hu]
theorem but_grown {w w' : World} {row : Option Nat} (h : w.grownBy w' row) : But (fun k => row = some k) w w' :=
 ⟨h.os, h.tape, h.output, h.size, fun k hk hf => h.block k hk (fun e => hf e.symm)⟩
def clsCells (cs : List Sp.Cls) : List Value := cs.flatMap fun c => [.int .i64 c.par, .string ⟨c.fields.toArray⟩]
def sigCells (gs : List Sp.Sig) : List Value := gs.flatMap fun g => [.int .u8 g.arg.toNat, .int .u8 g.ret.toNat]
def insCells (l : List Sp.Ins) : List Value := l.flatMap fun x => [.int .u8 x.op.toNat, .int .i64 x.a, .int .i64 x.b, .int .i64 x.pos]
theorem flat_at {α β : Type} (f : α → List β) (m : Nat) (hf : ∀ x, (f x).length = m) : ∀ (l : List α) (j k : Nat) (x : α), l[j]? = some x → k < m → (l.flatMap f)[j * m + k]? = (f x)[k]? := by
 intro l
 induction l with
 | nil => intro j k x h _; simp at h
 | cons y l ih =>
  intro j k x h hk
  cases j with
  | zero =>
   simp at h
   subst h
   rw [List.flatMap_cons, Nat.zero_mul, Nat.zero_add, List.getElem?_append_left (by rw [hf]; exact hk)]
  | succ j =>
   simp at h
   rw [List.flatMap_cons, List.getElem?_append_right (by rw [hf, Nat.succ_mul]; omega), hf]
   rw [show (j + 1) * m + k - m = j * m + k from by rw [Nat.succ_mul]; omega]
   exact ih j k x h hk
theorem clsCells_at0 {cs : List Sp.Cls} {j : Nat} {c : Sp.Cls} (h : cs[j]? = some c) : (clsCells cs)[j * 2]? = some (.int .i64 c.par) := by
 have := flat_at (fun c : Sp.Cls => [Value.int .i64 c.par, .string ⟨c.fields.toArray⟩]) 2 (fun _ => rfl) cs j 0 c h (by omega)
 simpa [clsCells] using this
theorem clsCells_at1 {cs : List Sp.Cls} {j : Nat} {c : Sp.Cls} (h : cs[j]? = some c) : (clsCells cs)[j * 2 + 1]? = some (.string ⟨c.fields.toArray⟩) := by
 have := flat_at (fun c : Sp.Cls => [Value.int .i64 c.par, .string ⟨c.fields.toArray⟩]) 2 (fun _ => rfl) cs j 1 c h (by omega)
 simpa [clsCells] using this
/-- A body of the document's image, with the slices of its code and of its tree. -/
def bodCells (l : List (Sp.Bod × Value × Value)) : List Value := l.flatMap fun x => [.int .i64 x.1.cls, .int .i64 x.1.meth, .string ⟨x.1.locals.toArray⟩, x.2.1, x.2.2]
theorem bodCells_snoc (l : List (Sp.Bod × Value × Value)) (x : Sp.Bod × Value × Value) : bodCells (l ++ [x]) = bodCells l ++ [.int .i64 x.1.cls, .int .i64 x.1.meth, .string ⟨x.1.locals.toArray⟩, x.2.1, x.2.2] := by simp [bodCells]
theorem bodCells_at {l : List (Sp.Bod × Value × Value)} {j k : Nat} {x : Sp.Bod × Value × Value} (h : l[j]? = some x) (hk : k < 5) : (bodCells l)[j * 5 + k]? = [Value.int .i64 x.1.cls, .int .i64 x.1.meth, .string ⟨x.1.locals.toArray⟩, x.2.1, x.2.2][k]? :=
 flat_at (fun x : Sp.Bod × Value × Value => [Value.int .i64 x.1.cls, .int .i64 x.1.meth, .string ⟨x.1.locals.toArray⟩, x.2.1, x.2.2]) 5 (fun _ => rfl) l j k x h hk
theorem sigCells_at {gs : List Sp.Sig} {j k : Nat} {g : Sp.Sig} (h : gs[j]? = some g) (hk : k < 2) : (sigCells gs)[j * 2 + k]? = [Value.int .u8 g.arg.toNat, .int .u8 g.ret.toNat][k]? :=
 flat_at (fun g : Sp.Sig => [Value.int .u8 g.arg.toNat, .int .u8 g.ret.toNat]) 2 (fun _ => rfl) gs j k g h hk
theorem insCells_at {l : List Sp.Ins} {j k : Nat} {x : Sp.Ins} (h : l[j]? = some x) (hk : k < 4) : (insCells l)[j * 4 + k]? = [Value.int .u8 x.op.toNat, .int .i64 x.a, .int .i64 x.b, .int .i64 x.pos][k]? :=
 flat_at (fun x : Sp.Ins => [Value.int .u8 x.op.toNat, .int .i64 x.a, .int .i64 x.b, .int .i64 x.pos]) 4 (fun _ => rfl) l j k x h hk
theorem bodCells_at0 {l : List (Sp.Bod × Value × Value)} {j : Nat} {x : Sp.Bod × Value × Value} (h : l[j]? = some x) : (bodCells l)[j * 5]? = some (.int .i64 x.1.cls) := bodCells_at (k := 0) h (by omega)
theorem bodCells_at1 {l : List (Sp.Bod × Value × Value)} {j : Nat} {x : Sp.Bod × Value × Value} (h : l[j]? = some x) : (bodCells l)[j * 5 + 1]? = some (.int .i64 x.1.meth) := bodCells_at (k := 1) h (by omega)
theorem bodCells_at2 {l : List (Sp.Bod × Value × Value)} {j : Nat} {x : Sp.Bod × Value × Value} (h : l[j]? = some x) : (bodCells l)[j * 5 + 2]? = some (.string ⟨x.1.locals.toArray⟩) := bodCells_at (k := 2) h (by omega)
theorem bodCells_at3 {l : List (Sp.Bod × Value × Value)} {j : Nat} {x : Sp.Bod × Value × Value} (h : l[j]? = some x) : (bodCells l)[j * 5 + 3]? = some (x.2.1) := bodCells_at (k := 3) h (by omega)
theorem bodCells_at4 {l : List (Sp.Bod × Value × Value)} {j : Nat} {x : Sp.Bod × Value × Value} (h : l[j]? = some x) : (bodCells l)[j * 5 + 4]? = some (x.2.2) := bodCells_at (k := 4) h (by omega)
theorem sigCells_at0 {gs : List Sp.Sig} {j : Nat} {g : Sp.Sig} (h : gs[j]? = some g) : (sigCells gs)[j * 2]? = some (.int .u8 g.arg.toNat) := sigCells_at (k := 0) h (by omega)
theorem sigCells_at1 {gs : List Sp.Sig} {j : Nat} {g : Sp.Sig} (h : gs[j]? = some g) : (sigCells gs)[j * 2 + 1]? = some (.int .u8 g.ret.toNat) := sigCells_at (k := 1) h (by omega)
theorem insCells_at0 {l : List Sp.Ins} {j : Nat} {x : Sp.Ins} (h : l[j]? = some x) : (insCells l)[j * 4]? = some (.int .u8 x.op.toNat) := insCells_at (k := 0) h (by omega)
theorem insCells_at1 {l : List Sp.Ins} {j : Nat} {x : Sp.Ins} (h : l[j]? = some x) : (insCells l)[j * 4 + 1]? = some (.int .i64 x.a) := insCells_at (k := 1) h (by omega)
theorem insCells_at2 {l : List Sp.Ins} {j : Nat} {x : Sp.Ins} (h : l[j]? = some x) : (insCells l)[j * 4 + 2]? = some (.int .i64 x.b) := insCells_at (k := 2) h (by omega)
theorem insCells_at3 {l : List Sp.Ins} {j : Nat} {x : Sp.Ins} (h : l[j]? = some x) : (insCells l)[j * 4 + 3]? = some (.int .i64 x.pos) := insCells_at (k := 3) h (by omega)
theorem owns_two {w : World} {base e size n cap : Nat} {ao : Option Addr} {xs : List Value} (h : w.ownsRow base e size (.slice ao n cap) n xs) (hn : 0 < n) :
  ∃ g, ao = some ⟨g, 0, none⟩ ∧ g < w.heap.size ∧ base ≤ g ∧ ∀ j u, xs[j]? = some u → w.cell? ⟨g, j, none⟩ = some u := by
 obtain ⟨g, cap', hv, hb, hlt⟩ := h.form hn
 injection hv with h1 h2 h3
 subst h1
 refine ⟨g, rfl, hlt, hb, fun j u hu => ?_⟩
 obtain ⟨g', c', hv', hc, _⟩ := owns_cell h hu
 injection hv' with h1
 injection h1 with h1
 injection h1 with h1
 subst h1
 exact hc
theorem clsCells_snoc (cs : List Sp.Cls) (c : Sp.Cls) : clsCells (cs ++ [c]) = clsCells cs ++ [.int .i64 c.par, .string ⟨c.fields.toArray⟩] := by simp [clsCells]
theorem sigCells_snoc (cs : List Sp.Sig) (c : Sp.Sig) : sigCells (cs ++ [c]) = sigCells cs ++ [.int .u8 c.arg.toNat, .int .u8 c.ret.toNat] := by simp [sigCells]
theorem insCells_snoc (cs : List Sp.Ins) (c : Sp.Ins) : insCells (cs ++ [c]) = insCells cs ++ [.int .u8 c.op.toNat, .int .i64 c.a, .int .i64 c.b, .int .i64 c.pos] := by simp [insCells]
theorem bytes_snoc (tl : List UInt8) (c : UInt8) : (⟨tl.toArray⟩ : ByteArray) ++ ⟨#[c]⟩ = ⟨(tl ++ [c]).toArray⟩ := by
 apply ByteArray.ext
 simp
theorem bytes_append (l m : List UInt8) : (⟨l.toArray⟩ : ByteArray) ++ ⟨m.toArray⟩ = ⟨(l ++ m).toArray⟩ := by
 apply ByteArray.ext
 simp
theorem conv1 (c : UInt8) (w : World) : (convert 112 9 (.slice (some ⟨w.heap.size, 0, none⟩) 1 1)).run Tryz.prog (w.alloc (.cells #[.int .u8 c.toNat] 5)) = .ok (.string ⟨#[c]⟩) (w.alloc (.cells #[.int .u8 c.toNat] 5)) := by
 refine run_convert_bytes_back (w.alloc (.cells #[.int .u8 c.toNat] 5)) 112 9 5 ⟨w.heap.size, 0, none⟩ 1 [c] (by kernel_rfl) (by kernel_rfl) (by kernel_rfl) ?_
 intro j hj
 match j, hj with
 | 0, _ => simp [Addr.add]
theorem conv2 (c d : UInt8) (w : World) : (convert 112 9 (.slice (some ⟨w.heap.size, 0, none⟩) 2 2)).run Tryz.prog (w.alloc (.cells #[.int .u8 c.toNat, .int .u8 d.toNat] 5)) = .ok (.string ⟨#[c, d]⟩) (w.alloc (.cells #[.int .u8 c.toNat, .int .u8 d.toNat] 5)) := by
 refine run_convert_bytes_back (w.alloc (.cells #[.int .u8 c.toNat, .int .u8 d.toNat] 5)) 112 9 5 ⟨w.heap.size, 0, none⟩ 2 [c, d] (by kernel_rfl) (by kernel_rfl) (by kernel_rfl) ?_
 intro j hj
 match j, hj with
 | 0, _ => simp [Addr.add]
 | 1, _ => simp [Addr.add]
theorem wrapI (n : Int) (h1 : -1000000000 ≤ n) (h2 : n ≤ 1000000000) : IntKind.i64.wrap n = n := (IntWalk.i64_left n).trans (IntWalk.wrap64_in n ⟨by omega, by omega⟩)
theorem hid {p : Prop} (h : p) : Hid p := h
theorem ret_int {k : IntKind} {a b : Int} (h : a = b) : Ending.returned (.int k a) = .returned (.int k b) := by rw [h]
end Go.Proofs.YtpfkkmacakjmbaaGreatDoor
