import Derived.Test.YtpfkkmacakjmbaaGreatDoorP14
import Derived.Test.YtpfkkmacakjmbaaGreatDoorP00
set_option maxRecDepth 100000
set_option maxHeartbeats 6400000
namespace Go.Proofs.YtpfkkmacakjmbaaGreatDoor
open Go Go.RowKit Sp
set_option linter.unusedSimpArgs false
set_option linter.unusedVariables false
def XwB (w : World) (b tx : Nat) (inp : ByteArray) (r : Int) (vo vb : Value) : Prop :=
 w.heap[b]? = some (.cells #[.pointer (some ⟨tx, 0, none⟩), .string inp, .int .i64 r, vo, vb, .int .i64 0] 211)
section
variable {w : World} {b tx : Nat} {inp : ByteArray} {r : Int} {vo vb : Value}
theorem XwB.lt (h : XwB w b tx inp r vo vb) : b < w.heap.size := lt_of_block h
theorem XwB.c0 (h : XwB w b tx inp r vo vb) : w.cell? ⟨b, 0, none⟩ = some (.pointer (some ⟨tx, 0, none⟩)) := by rw [cell_of_row w b 0 _ _ (0, 0) h]; rfl
theorem XwB.c1 (h : XwB w b tx inp r vo vb) : w.cell? ⟨b, 1, none⟩ = some (.string inp) := by rw [cell_of_row w b 1 _ _ (0, 0) h]; rfl
theorem XwB.c2 (h : XwB w b tx inp r vo vb) : w.cell? ⟨b, 2, none⟩ = some (.int .i64 r) := by rw [cell_of_row w b 2 _ _ (0, 0) h]; rfl
theorem XwB.c3 (h : XwB w b tx inp r vo vb) : w.cell? ⟨b, 3, none⟩ = some vo := by rw [cell_of_row w b 3 _ _ (0, 0) h]; rfl
theorem XwB.c4 (h : XwB w b tx inp r vo vb) : w.cell? ⟨b, 4, none⟩ = some vb := by rw [cell_of_row w b 4 _ _ (0, 0) h]; rfl
theorem XwB.fz (h : XwB w b tx inp r vo vb) (j : Nat) : w.frozen? ⟨b, j, none⟩ = false := frozen_of_row w b j _ _ h
theorem XwB.but {F : Nat → Prop} {w' : World} (h : XwB w b tx inp r vo vb) (hb : But F w w') (hf : ¬ F b) : XwB w' b tx inp r vo vb := (hb.block b h.lt hf).trans h
theorem XwB.set2 (h : XwB w b tx inp r vo vb) (n : Int) : XwB (w.setCell ⟨b, 2, none⟩ (.int .i64 n)) b tx inp n vo vb := heap_setCell_same w b 2 _ _ _ h
theorem XwB.set3 (h : XwB w b tx inp r vo vb) (v : Value) : XwB (w.setCell ⟨b, 3, none⟩ v) b tx inp r v vb := heap_setCell_same w b 3 _ _ _ h
theorem XwB.set4 (h : XwB w b tx inp r vo vb) (v : Value) : XwB (w.setCell ⟨b, 4, none⟩ v) b tx inp r vo v := heap_setCell_same w b 4 _ _ _ h
end
def XeB (w : World) (b tx bw : Nat) (f : Int) : Prop := w.heap[b]? = some (.cells #[.pointer (some ⟨tx, 0, none⟩), .pointer (some ⟨bw, 0, none⟩), .int .i64 f] 164)
section
variable {w : World} {b tx bw : Nat} {f : Int}
theorem XeB.lt (h : XeB w b tx bw f) : b < w.heap.size := lt_of_block h
theorem XeB.c0 (h : XeB w b tx bw f) : w.cell? ⟨b, 0, none⟩ = some (.pointer (some ⟨tx, 0, none⟩)) := by rw [cell_of_row w b 0 _ _ (0, 0) h]; rfl
theorem XeB.c1 (h : XeB w b tx bw f) : w.cell? ⟨b, 1, none⟩ = some (.pointer (some ⟨bw, 0, none⟩)) := by rw [cell_of_row w b 1 _ _ (0, 0) h]; rfl
theorem XeB.c2 (h : XeB w b tx bw f) : w.cell? ⟨b, 2, none⟩ = some (.int .i64 f) := by rw [cell_of_row w b 2 _ _ (0, 0) h]; rfl
theorem XeB.fz (h : XeB w b tx bw f) (j : Nat) : w.frozen? ⟨b, j, none⟩ = false := frozen_of_row w b j _ _ h
theorem XeB.but {F : Nat → Prop} {w' : World} (h : XeB w b tx bw f) (hb : But F w w') (hf : ¬ F b) : XeB w' b tx bw f := (hb.block b h.lt hf).trans h
theorem XeB.set2 (h : XeB w b tx bw f) (n : Int) : XeB (w.setCell ⟨b, 2, none⟩ (.int .i64 n)) b tx bw n := heap_setCell_same w b 2 _ _ _ h
end
def XoB (w : World) (g c : Nat) (v : Value) : Prop := w.heap[g]? = some (.cells #[.int .u8 c, v, .int .i64 0] 318)
def ptrCells (gs : List Nat) : List Value := gs.map fun g => .pointer (some ⟨g, 0, none⟩)
def OwnQ (be bw bl : Nat) (vo vb lv : Value) (gs : List Nat) (fv : List Value) (k : Nat) : Prop :=
 k = be ∨ k = bw ∨ k = bl ∨ vo.ownBlock = some k ∨ vb.ownBlock = some k ∨ lv.ownBlock = some k ∨ k ∈ gs ∨ ∃ v ∈ fv, v.ownBlock = some k
structure StQ (P : Nat → Prop) (w0 w : World) (be bw tx : Nat) (inp : ByteArray) (s : Ev) (bl : Nat) (lv : Value) (l : List V) (vo vb : Value) (gs : List Nat) (fv : List Value) : Prop where
 old : But (fun _ => False) w0 w
 ev : XeB w be tx bw s.left
 wd : XwB w bw tx inp (min s.read inp.size : Nat) vo vb
 out : w.ownsRow w0.heap.size 5 1 vo s.out.length (Lib.byteCells s.out)
 ob : w.ownsRow w0.heap.size 315 1 vb s.heap.length (ptrCells gs)
 lg : gs.length = s.heap.length
 lf : fv.length = s.heap.length
 obs : ∀ (k : Nat) o g v, s.heap[k]? = some o → gs[k]? = some g → fv[k]? = some v → XoB w g (65 + o.cls) v ∧ w.ownsRow w0.heap.size 168 2 v o.fs.length (xvalCells o.fs)
 nd : ∀ (j k : Nat) g, gs[j]? = some g → gs[k]? = some g → j = k
 lb : w.heap[bl]? = some (.cells #[lv] 280)
 lo : w.ownsRow w0.heap.size 168 2 lv l.length (xvalCells l)
 own : ∀ k, OwnQ be bw bl vo vb lv gs fv k → w0.heap.size ≤ k ∧ ¬ P k
 pl : ∀ k, P k → k < w.heap.size ∧ ∀ c fz, w.heap[k]? ≠ some (.cells c 5 fz)
 sl : ∀ v ∈ fv, ∀ g, v.ownBlock = some g → lv.ownBlock ≠ some g
 sf : ∀ (j k : Nat) v v' g, fv[j]? = some v → fv[k]? = some v' → v.ownBlock = some g → v'.ownBlock = some g → j = k
section
variable {P : Nat → Prop} {w0 w w' : World} {be bw tx bl : Nat} {inp : ByteArray} {s : Ev} {lv vo vb : Value} {l : List V} {gs : List Nat} {fv : List Value}
theorem StQ.k1 (h : StQ P w0 w be bw tx inp s bl lv l vo vb gs fv) : w0.heap.size ≤ be ∧ ¬ P be := h.own be (Or.inl rfl)
theorem StQ.k2 (h : StQ P w0 w be bw tx inp s bl lv l vo vb gs fv) : w0.heap.size ≤ bw ∧ ¬ P bw := h.own bw (Or.inr (Or.inl rfl))
theorem StQ.k3 (h : StQ P w0 w be bw tx inp s bl lv l vo vb gs fv) : w0.heap.size ≤ bl ∧ ¬ P bl := h.own bl (Or.inr (Or.inr (Or.inl rfl)))
theorem StQ.k4 (h : StQ P w0 w be bw tx inp s bl lv l vo vb gs fv) {g : Nat} (hg : vo.ownBlock = some g) : w0.heap.size ≤ g ∧ ¬ P g := h.own g (Or.inr (Or.inr (Or.inr (Or.inl hg))))
theorem StQ.k5 (h : StQ P w0 w be bw tx inp s bl lv l vo vb gs fv) {g : Nat} (hg : vb.ownBlock = some g) : w0.heap.size ≤ g ∧ ¬ P g := h.own g (Or.inr (Or.inr (Or.inr (Or.inr (Or.inl hg)))))
theorem StQ.k6 (h : StQ P w0 w be bw tx inp s bl lv l vo vb gs fv) {g : Nat} (hg : lv.ownBlock = some g) : w0.heap.size ≤ g ∧ ¬ P g := h.own g (Or.inr (Or.inr (Or.inr (Or.inr (Or.inr (Or.inl hg))))))
theorem StQ.k7 (h : StQ P w0 w be bw tx inp s bl lv l vo vb gs fv) {g : Nat} (hg : g ∈ gs) : w0.heap.size ≤ g ∧ ¬ P g := h.own g (Or.inr (Or.inr (Or.inr (Or.inr (Or.inr (Or.inr (Or.inl hg)))))))
theorem StQ.k8 (h : StQ P w0 w be bw tx inp s bl lv l vo vb gs fv) {v : Value} {g : Nat} (hv : v ∈ fv) (hg : v.ownBlock = some g) : w0.heap.size ≤ g ∧ ¬ P g := h.own g (Or.inr (Or.inr (Or.inr (Or.inr (Or.inr (Or.inr (Or.inr ⟨v, hv, hg⟩)))))))
theorem StQ.obj (h : StQ P w0 w be bw tx inp s bl lv l vo vb gs fv) {k : Nat} (hk : k < s.heap.length) : ∃ (o : Ob) (g : Nat) (v : Value), s.heap[k]? = some o ∧ gs[k]? = some g ∧ fv[k]? = some v ∧ XoB w g (65 + o.cls) v ∧ w.ownsRow w0.heap.size 168 2 v o.fs.length (xvalCells o.fs) := by
 have h1 := List.getElem?_eq_getElem hk
 have h2 := List.getElem?_eq_getElem (show k < gs.length by rw [h.lg]; exact hk)
 have h3 := List.getElem?_eq_getElem (show k < fv.length by rw [h.lf]; exact hk)
 exact ⟨_, _, _, h1, h2, h3, (h.obs k _ _ _ h1 h2 h3).1, (h.obs k _ _ _ h1 h2 h3).2⟩
theorem StQ.mg (h : StQ P w0 w be bw tx inp s bl lv l vo vb gs fv) {g : Nat} (hg : g ∈ gs) : ∃ (c : Nat) (v : Value), XoB w g c v := by
 obtain ⟨k, hk, rfl⟩ := List.getElem_of_mem hg
 obtain ⟨o, g', v, _, h2, _, h4, _⟩ := h.obj (by rw [← h.lg]; exact hk)
 rw [List.getElem?_eq_getElem hk] at h2
 cases h2
 exact ⟨_, _, h4⟩
theorem StQ.mv (h : StQ P w0 w be bw tx inp s bl lv l vo vb gs fv) {v : Value} (hv : v ∈ fv) : ∃ (n : Nat) (xs : List Value), w.ownsRow w0.heap.size 168 2 v n xs := by
 obtain ⟨k, hk, rfl⟩ := List.getElem_of_mem hv
 obtain ⟨o, g', v, _, _, h3, _, h5⟩ := h.obj (by rw [← h.lf]; exact hk)
 rw [List.getElem?_eq_getElem hk] at h3
 cases h3
 exact ⟨_, _, h5⟩
theorem StQ.lt (h : StQ P w0 w be bw tx inp s bl lv l vo vb gs fv) {k : Nat} (hk : OwnQ be bw bl vo vb lv gs fv k) : k < w.heap.size := by
 rcases hk with rfl | rfl | rfl | hk | hk | hk | hk | ⟨v, hv, hk⟩
 ·exact h.ev.lt
 ·exact h.wd.lt
 ·exact lt_of_block h.lb
 ·exact owns_lt h.out k hk
 ·exact owns_lt h.ob k hk
 ·exact owns_lt h.lo k hk
 ·obtain ⟨c, v, ho⟩ := h.mg hk; exact lt_of_block ho
 ·obtain ⟨n, xs, ho⟩ := h.mv hv; exact owns_lt ho k hk
theorem StQ.but {F : Nat → Prop} (h : StQ P w0 w be bw tx inp s bl lv l vo vb gs fv) (hB : But F w w') (h0 : ∀ k, F k → w0.heap.size ≤ k) (h1 : ∀ k, OwnQ be bw bl vo vb lv gs fv k → ¬ F k) (hp : ∀ k, P k → ¬ F k) : StQ P w0 w' be bw tx inp s bl lv l vo vb gs fv := by
 refine ⟨h.old.next hB (fun k hk hf => by have := h0 k hf; omega), h.ev.but hB (h1 _ (Or.inl rfl)), h.wd.but hB (h1 _ (Or.inr (Or.inl rfl))), owns_but h.out hB (fun g hg => h1 g (Or.inr (Or.inr (Or.inr (Or.inl hg))))), owns_but h.ob hB (fun g hg => h1 g (Or.inr (Or.inr (Or.inr (Or.inr (Or.inl hg)))))), h.lg, h.lf, fun k o g v a b c => ?_, h.nd, (hB.block bl (lt_of_block h.lb) (h1 _ (Or.inr (Or.inr (Or.inl rfl))))).trans h.lb, owns_but h.lo hB (fun g hg => h1 g (Or.inr (Or.inr (Or.inr (Or.inr (Or.inr (Or.inl hg))))))), h.own, fun k hk => ?_, h.sl, h.sf⟩
 ·obtain ⟨x, y⟩ := h.obs k o g v a b c
  exact ⟨(hB.block g (lt_of_block x) (h1 g (Or.inr (Or.inr (Or.inr (Or.inr (Or.inr (Or.inr (Or.inl (List.mem_of_getElem? b)))))))))).trans x, owns_but y hB (fun q hq => h1 q (Or.inr (Or.inr (Or.inr (Or.inr (Or.inr (Or.inr (Or.inr ⟨v, List.mem_of_getElem? c, hq⟩))))))))⟩
 ·obtain ⟨a, b⟩ := h.pl k hk
  refine ⟨Nat.lt_of_lt_of_le a hB.size, fun c fz e => ?_⟩
  rw [hB.block k a (hp k hk)] at e
  exact b c fz e
theorem StQ.new (h : StQ P w0 w be bw tx inp s bl lv l vo vb gs fv) (hB : But (fun _ => False) w w') : StQ P w0 w' be bw tx inp s bl lv l vo vb gs fv := h.but hB (fun _ h => h.elim) (fun _ _ h => h) (fun _ _ h => h)
theorem StQ.grow (h : StQ P w0 w be bw tx inp s bl lv l vo vb gs fv) (hB : But (fun _ => False) w w') (ht : ∀ k, w.heap.size ≤ k → k < w'.heap.size → ∀ c fz, w'.heap[k]? ≠ some (.cells c 5 fz)) : StQ (fun k => P k ∨ (w.heap.size ≤ k ∧ k < w'.heap.size)) w0 w' be bw tx inp s bl lv l vo vb gs fv := by
 have h1 := h.new hB
 refine ⟨h1.old, h1.ev, h1.wd, h1.out, h1.ob, h1.lg, h1.lf, h1.obs, h1.nd, h1.lb, h1.lo, fun k hk => ⟨(h1.own k hk).1, fun hp => ?_⟩, fun k hk => ?_, h1.sl, h1.sf⟩
 ·rcases hp with hp | hp
  ·exact (h1.own k hk).2 hp
  ·have := h.lt hk; omega
 ·rcases hk with hk | hk
  ·exact h1.pl k hk
  ·exact ⟨hk.2, ht k hk.1 hk.2⟩
theorem StQ.less {Q : Nat → Prop} (h : StQ P w0 w be bw tx inp s bl lv l vo vb gs fv) (hs : ∀ k, Q k → P k) : StQ Q w0 w be bw tx inp s bl lv l vo vb gs fv :=
 ⟨h.old, h.ev, h.wd, h.out, h.ob, h.lg, h.lf, h.obs, h.nd, h.lb, h.lo, fun k hk => ⟨(h.own k hk).1, fun hp => (h.own k hk).2 (hs k hp)⟩, fun k hk => h.pl k (hs k hk), h.sl, h.sf⟩
end
theorem off_type {w : World} {g k : Nat} {c c' : Array Value} {t t' : TypeId} {fr fr' : Nat × Nat} (hk : w.heap[k]? = some (.cells c' t' fr')) (hg : w.heap[g]? = some (.cells c t fr)) (h : t ≠ t') : k ≠ g := fun e => by
 subst e
 rw [hk] at hg
 injection hg with hg
 injection hg with _ h2
 exact h h2.symm
section
variable {P : Nat → Prop} {w0 w w' : World} {be bw tx bl : Nat} {inp : ByteArray} {s : Ev} {lv vo vb : Value} {l : List V} {gs : List Nat} {fv : List Value}
structure Stand (P : Nat → Prop) (w0 w' : World) (be bw tx : Nat) (inp : ByteArray) (s : Ev) (bl : Nat) (lv : Value) (l : List V) (vo vb : Value) (gs : List Nat) (fv : List Value) (t : TypeId) : Prop where
 old : But (fun _ => False) w0 w'
 ev : t ≠ 164 → XeB w' be tx bw s.left
 wd : t ≠ 211 → XwB w' bw tx inp (min s.read inp.size : Nat) vo vb
 out : t ≠ 5 → w'.ownsRow w0.heap.size 5 1 vo s.out.length (Lib.byteCells s.out)
 ob : t ≠ 315 → w'.ownsRow w0.heap.size 315 1 vb s.heap.length (ptrCells gs)
 obj : t ≠ 318 → ∀ (k : Nat) o g v, s.heap[k]? = some o → gs[k]? = some g → fv[k]? = some v → XoB w' g (65 + o.cls) v
 fld : t ≠ 168 → ∀ (k : Nat) o g v, s.heap[k]? = some o → gs[k]? = some g → fv[k]? = some v → w'.ownsRow w0.heap.size 168 2 v o.fs.length (xvalCells o.fs)
 lb : t ≠ 280 → w'.heap[bl]? = some (.cells #[lv] 280)
 lo : t ≠ 168 → w'.ownsRow w0.heap.size 168 2 lv l.length (xvalCells l)
 pl : ∀ k, P k → k < w'.heap.size ∧ ∀ c fz, w'.heap[k]? ≠ some (.cells c 5 fz)
theorem StQ.stand (h : StQ P w0 w be bw tx inp s bl lv l vo vb gs fv) {g : Nat} {c : Array Value} {t : TypeId} {fr : Nat × Nat} (hg : w.heap[g]? = some (.cells c t fr)) (hg0 : w0.heap.size ≤ g) (hgp : ¬ P g) (hB : But (· = g) w w') : Stand P w0 w' be bw tx inp s bl lv l vo vb gs fv t := by
 refine ⟨h.old.next hB (fun k hk e => by have e : k = g := e; omega), fun ht => h.ev.but hB (off_type h.ev hg ht), fun ht => h.wd.but hB (off_type h.wd hg ht), fun ht => owns_but h.out hB (fun k hk e => owns_offE h.out hg (Ne.symm ht) (e ▸ hk)), fun ht => owns_but h.ob hB (fun k hk e => owns_offE h.ob hg (Ne.symm ht) (e ▸ hk)), fun ht k o q v a b d => ?_, fun ht k o q v a b d => ?_, fun ht => (hB.block bl (lt_of_block h.lb) (off_type h.lb hg ht)).trans h.lb, fun ht => owns_but h.lo hB (fun k hk e => owns_offE h.lo hg (Ne.symm ht) (e ▸ hk)), fun k hk => ?_⟩
 ·have x := (h.obs k o q v a b d).1
  exact (hB.block q (lt_of_block x) (off_type x hg ht)).trans x
 ·have y := (h.obs k o q v a b d).2
  exact owns_but y hB (fun j hj e => owns_offE y hg (Ne.symm ht) (e ▸ hj))
 ·obtain ⟨a, b⟩ := h.pl k hk
  refine ⟨Nat.lt_of_lt_of_le a hB.size, fun c fz e => ?_⟩
  rw [hB.block k a (fun e => hgp (e ▸ hk))] at e
  exact b c fz e
theorem StQ.fuel (h : StQ P w0 w be bw tx inp s bl lv l vo vb gs fv) (n : Nat) : StQ P w0 (w.setCell ⟨be, 2, none⟩ (.int .i64 n)) be bw tx inp { s with left := n } bl lv l vo vb gs fv := by
 have a := h.stand h.ev h.k1.1 h.k1.2 (But.setB w be 2 (.int .i64 n))
 exact ⟨a.old, h.ev.set2 _, a.wd (by decide), a.out (by decide), a.ob (by decide), h.lg, h.lf, fun k o g v x y z => ⟨a.obj (by decide) k o g v x y z, a.fld (by decide) k o g v x y z⟩, h.nd, a.lb (by decide), a.lo (by decide), h.own, a.pl, h.sl, h.sf⟩
theorem StQ.readd (h : StQ P w0 w be bw tx inp s bl lv l vo vb gs fv) {n : Nat} (hn : n = min (s.read + 1) inp.size) : StQ P w0 (w.setCell ⟨bw, 2, none⟩ (.int .i64 n)) be bw tx inp { s with read := s.read + 1 } bl lv l vo vb gs fv := by
 have a := h.stand h.wd h.k2.1 h.k2.2 (But.setB w bw 2 (.int .i64 n))
 refine ⟨a.old, a.ev (by decide), ?_, a.out (by decide), a.ob (by decide), h.lg, h.lf, fun k o g v x y z => ⟨a.obj (by decide) k o g v x y z, a.fld (by decide) k o g v x y z⟩, h.nd, a.lb (by decide), a.lo (by decide), h.own, a.pl, h.sl, h.sf⟩
 have := h.wd.set2 (n : Int)
 rw [hn] at this ⊢
 exact this
theorem StQ.unread (h : StQ P w0 w be bw tx inp s bl lv l vo vb gs fv) (hn : inp.size ≤ s.read) : StQ P w0 w be bw tx inp { s with read := s.read + 1 } bl lv l vo vb gs fv :=
 ⟨h.old, h.ev, by have := h.wd; rw [show min s.read inp.size = min (s.read + 1) inp.size from by omega] at this; exact this, h.out, h.ob, h.lg, h.lf, h.obs, h.nd, h.lb, h.lo, h.own, h.pl, h.sl, h.sf⟩
theorem xowns_put {w : World} {base n g j : Nat} {v : Value} {l : List V} (u : V) (h : w.ownsRow base 168 2 v n (xvalCells l)) (hg : v.ownBlock = some g) :
  ((w.setCell ⟨g, j * 2, none⟩ (.int .i32 (xN u))).setCell ⟨g, j * 2 + 1, none⟩ (.int .i64 (xO u))).ownsRow base 168 2 v n (xvalCells (l.set j u)) := by
 have hlen := h.1
 rcases h.2 with ⟨rfl, _⟩ | ⟨g', cap, cur, rfl, hb, hh, hc1, hc2, hc3, hc4⟩
 ·cases hg
 ·simp [Value.ownBlock] at hg
  subst hg
  refine ⟨by rw [← hlen, xvalCells_len, xvalCells_len]; simp, Or.inr ⟨g', cap, (cur.setIfInBounds (j * 2) (.int .i32 (xN u))).setIfInBounds (j * 2 + 1) (.int .i64 (xO u)), rfl, hb, ?_, hc1, hc2, by simpa using hc3, ?_⟩⟩
  ·exact heap_setCell_same _ g' _ _ _ _ (heap_setCell_same _ g' _ _ _ _ hh)
  ·rw [xvalCells_set, ← hc4]
   simp [List.take_set]
theorem StQ.setL (h : StQ P w0 w be bw tx inp s bl lv l vo vb gs fv) {g : Nat} (hg : lv.ownBlock = some g) (j : Nat) (u : V) : StQ P w0 ((w.setCell ⟨g, j * 2, none⟩ (.int .i32 (xN u))).setCell ⟨g, j * 2 + 1, none⟩ (.int .i64 (xO u))) be bw tx inp s bl lv (l.set j u) vo vb gs fv := by
 have hB : But (· = g) w ((w.setCell ⟨g, j * 2, none⟩ (.int .i32 (xN u))).setCell ⟨g, j * 2 + 1, none⟩ (.int .i64 (xO u))) := (But.setB _ _ _ _).trans (But.setB _ _ _ _)
 obtain ⟨cur, hcur⟩ := owns_type h.lo hg
 have a := h.stand hcur (h.k6 hg).1 (h.k6 hg).2 hB
 refine ⟨a.old, a.ev (by decide), a.wd (by decide), a.out (by decide), a.ob (by decide), h.lg, h.lf, fun k o q v x y z => ⟨a.obj (by decide) k o q v x y z, owns_but (h.obs k o q v x y z).2 hB (fun i hi e => h.sl v (List.mem_of_getElem? z) i hi (e ▸ hg))⟩, h.nd, a.lb (by decide), ?_, h.own, a.pl, h.sl, h.sf⟩
 rw [List.length_set]
 exact xowns_put u h.lo hg
theorem StQ.setF (h : StQ P w0 w be bw tx inp s bl lv l vo vb gs fv) {k g q : Nat} {o : Ob} {v : Value} (hk : s.heap[k]? = some o) (hq : gs[k]? = some q) (hv : fv[k]? = some v) (hg : v.ownBlock = some g) (j : Nat) (u : V) : StQ P w0 ((w.setCell ⟨g, j * 2, none⟩ (.int .i32 (xN u))).setCell ⟨g, j * 2 + 1, none⟩ (.int .i64 (xO u))) be bw tx inp (s.put k j u) bl lv l vo vb gs fv := by
 have hB : But (· = g) w ((w.setCell ⟨g, j * 2, none⟩ (.int .i32 (xN u))).setCell ⟨g, j * 2 + 1, none⟩ (.int .i64 (xO u))) := (But.setB _ _ _ _).trans (But.setB _ _ _ _)
 have hr := (h.obs k o q v hk hq hv).2
 have hm := List.mem_of_getElem? hv
 obtain ⟨cur, hcur⟩ := owns_type hr hg
 have a := h.stand hcur (h.k8 hm hg).1 (h.k8 hm hg).2 hB
 have e1 : (s.put k j u).heap = s.heap.set k ⟨o.cls, o.fs.set j u⟩ := by simp [Ev.put, (Ev.at hk).1, (Ev.at hk).2]
 refine ⟨a.old, a.ev (by decide), a.wd (by decide), a.out (by decide), ?_, by rw [e1]; simpa using h.lg, by rw [e1]; simpa using h.lf, ?_, h.nd, a.lb (by decide), owns_but h.lo hB (fun i hi e => h.sl v hm g hg (e ▸ hi)), h.own, a.pl, h.sl, h.sf⟩
 ·rw [e1, List.length_set]
  exact a.ob (by decide)
 ·intro i o' q' v' hi hqi hvi
  rw [e1, List.getElem?_set] at hi
  split at hi
  ·rename_i he
   subst he
   rw [hv] at hvi
   rw [hq] at hqi
   cases hvi
   cases hqi
   split at hi
   ·cases hi
    refine ⟨a.obj (by decide) k o q v hk hq hv, ?_⟩
    simp only [List.length_set]
    exact xowns_put u hr hg
   ·cases hi
  ·rename_i he
   exact ⟨a.obj (by decide) i o' q' v' hi hqi hvi, owns_but (h.obs i o' q' v' hi hqi hvi).2 hB (fun i' hi' e => he (h.sf k i v v' g hv hvi hg (e ▸ hi')))⟩
theorem StQ.tmp {F : Nat → Prop} (h : StQ P w0 w be bw tx inp s bl lv l vo vb gs fv) (hB : But F w w') (hF : ∀ k, F k → P k ∧ w0.heap.size ≤ k) (ht : ∀ k, F k → ∀ c fz, w'.heap[k]? ≠ some (.cells c 5 fz)) : StQ P w0 w' be bw tx inp s bl lv l vo vb gs fv := by
 have h1 : ∀ k, OwnQ be bw bl vo vb lv gs fv k → ¬ F k := fun k hk hf => (h.own k hk).2 (hF k hf).1
 have a := (h.less (Q := fun _ => False) (fun _ h => h.elim)).but hB (fun k hf => (hF k hf).2) h1 (fun _ h => h.elim)
 refine ⟨a.old, a.ev, a.wd, a.out, a.ob, a.lg, a.lf, a.obs, a.nd, a.lb, a.lo, h.own, fun k hk => ?_, a.sl, a.sf⟩
 obtain ⟨x, y⟩ := h.pl k hk
 refine ⟨Nat.lt_of_lt_of_le x hB.size, fun c fz e => ?_⟩
 by_cases hf : F k
 ·exact ht k hf c fz e
 ·rw [hB.block k x hf] at e
  exact y c fz e
end
structure RdV where
 bods : Value
 hc : Value
 hm : Value
 ha : Value
 hl : Value
 hi : Value
 main : Bool
def XrB (w : World) (b : Nat) (s : ByteArray) (i : Nat) (bad : Bool) (v0 v1 : Value) (v2 : RdV) : Prop :=
 w.heap[b]? = some (.cells #[v0, v1, v2.bods, v2.hc, v2.hm, v2.ha, v2.hl, v2.hi, .int .i64 i, .bool bad, .bool v2.main, .string s] 250)
section
variable {w : World} {b : Nat} {s : ByteArray} {i : Nat} {bad : Bool} {v0 v1 : Value} {v2 : RdV}
theorem XrB.lt (h : XrB w b s i bad v0 v1 v2) : b < w.heap.size := lt_of_block h
theorem XrB.c0 (h : XrB w b s i bad v0 v1 v2) : w.cell? ⟨b, 0, none⟩ = some v0 := by rw [cell_of_row w b 0 _ _ (0, 0) h]; rfl
theorem XrB.c1 (h : XrB w b s i bad v0 v1 v2) : w.cell? ⟨b, 1, none⟩ = some v1 := by rw [cell_of_row w b 1 _ _ (0, 0) h]; rfl
theorem XrB.c2 (h : XrB w b s i bad v0 v1 v2) : w.cell? ⟨b, 2, none⟩ = some v2.bods := by rw [cell_of_row w b 2 _ _ (0, 0) h]; rfl
theorem XrB.d0 (h : XrB w b s i bad v0 v1 v2) : w.cell? ⟨b, 3, none⟩ = some v2.hc := by rw [cell_of_row w b 3 _ _ (0, 0) h]; rfl
theorem XrB.d1 (h : XrB w b s i bad v0 v1 v2) : w.cell? ⟨b, 4, none⟩ = some v2.hm := by rw [cell_of_row w b 4 _ _ (0, 0) h]; rfl
theorem XrB.d2 (h : XrB w b s i bad v0 v1 v2) : w.cell? ⟨b, 5, none⟩ = some v2.ha := by rw [cell_of_row w b 5 _ _ (0, 0) h]; rfl
theorem XrB.d3 (h : XrB w b s i bad v0 v1 v2) : w.cell? ⟨b, 6, none⟩ = some v2.hl := by rw [cell_of_row w b 6 _ _ (0, 0) h]; rfl
theorem XrB.d4 (h : XrB w b s i bad v0 v1 v2) : w.cell? ⟨b, 7, none⟩ = some v2.hi := by rw [cell_of_row w b 7 _ _ (0, 0) h]; rfl
theorem XrB.c3 (h : XrB w b s i bad v0 v1 v2) : w.cell? ⟨b, 8, none⟩ = some (.int .i64 i) := by rw [cell_of_row w b 8 _ _ (0, 0) h]; rfl
theorem XrB.c4 (h : XrB w b s i bad v0 v1 v2) : w.cell? ⟨b, 9, none⟩ = some (.bool bad) := by rw [cell_of_row w b 9 _ _ (0, 0) h]; rfl
theorem XrB.d5 (h : XrB w b s i bad v0 v1 v2) : w.cell? ⟨b, 10, none⟩ = some (.bool v2.main) := by rw [cell_of_row w b 10 _ _ (0, 0) h]; rfl
theorem XrB.c5 (h : XrB w b s i bad v0 v1 v2) : w.cell? ⟨b, 11, none⟩ = some (.string s) := by rw [cell_of_row w b 11 _ _ (0, 0) h]; rfl
theorem XrB.fz (h : XrB w b s i bad v0 v1 v2) (j : Nat) : w.frozen? ⟨b, j, none⟩ = false := frozen_of_row w b j _ _ h
theorem XrB.but {F : Nat → Prop} {w' : World} (h : XrB w b s i bad v0 v1 v2) (hb : But F w w') (hf : ¬ F b) : XrB w' b s i bad v0 v1 v2 := (hb.block b h.lt hf).trans h
theorem XrB.set0 (h : XrB w b s i bad v0 v1 v2) (u : Value) : XrB (w.setCell ⟨b, 0, none⟩ u) b s i bad u v1 v2 := heap_setCell_same w b 0 _ _ _ h
theorem XrB.set1 (h : XrB w b s i bad v0 v1 v2) (u : Value) : XrB (w.setCell ⟨b, 1, none⟩ u) b s i bad v0 u v2 := heap_setCell_same w b 1 _ _ _ h
theorem XrB.set2 (h : XrB w b s i bad v0 v1 v2) (u : Value) : XrB (w.setCell ⟨b, 2, none⟩ u) b s i bad v0 v1 ⟨u, v2.hc, v2.hm, v2.ha, v2.hl, v2.hi, v2.main⟩ := heap_setCell_same w b 2 _ _ _ h
theorem XrB.setB (h : XrB w b s i bad v0 v1 v2) (x0 x1 x2 x3 x4 : Value) : XrB (((((w.setCell ⟨b, 3, none⟩ x0).setCell ⟨b, 4, none⟩ x1).setCell ⟨b, 5, none⟩ x2).setCell ⟨b, 6, none⟩ x3).setCell ⟨b, 7, none⟩ x4) b s i bad v0 v1 ⟨v2.bods, x0, x1, x2, x3, x4, v2.main⟩ :=
 heap_setCell_same _ b 7 _ _ _ (heap_setCell_same _ b 6 _ _ _ (heap_setCell_same _ b 5 _ _ _ (heap_setCell_same _ b 4 _ _ _ (heap_setCell_same w b 3 _ _ _ h))))
theorem XrB.setI (h : XrB w b s i bad v0 v1 v2) (u : Value) : XrB (w.setCell ⟨b, 7, none⟩ u) b s i bad v0 v1 ⟨v2.bods, v2.hc, v2.hm, v2.ha, v2.hl, u, v2.main⟩ := heap_setCell_same w b 7 _ _ _ h
theorem XrB.setM (h : XrB w b s i bad v0 v1 v2) (d : Bool) : XrB (w.setCell ⟨b, 10, none⟩ (.bool d)) b s i bad v0 v1 ⟨v2.bods, v2.hc, v2.hm, v2.ha, v2.hl, v2.hi, d⟩ := heap_setCell_same w b 10 _ _ _ h
theorem XrB.set3 (h : XrB w b s i bad v0 v1 v2) (j : Nat) : XrB (w.setCell ⟨b, 8, none⟩ (.int .i64 j)) b s j bad v0 v1 v2 := heap_setCell_same w b 8 _ _ _ h
theorem XrB.set4 (h : XrB w b s i bad v0 v1 v2) (d : Bool) : XrB (w.setCell ⟨b, 9, none⟩ (.bool d)) b s i d v0 v1 v2 := heap_setCell_same w b 9 _ _ _ h
theorem XrB.drewN (h : XrB w b s i bad v0 v1 v2) (n : Nat) : XrB (w.drewN n) b s i bad v0 v1 v2 := h
end
section
variable (b : Nat) (s : ByteArray) (i : Nat) (bad : Bool) (v0 v1 : Value) (v2 : RdV) (w : World)
theorem xnext_any (hR : XrB w b s i bad v0 v1 v2) :
  Calls Tryz.prog 214 #[.pointer (some ⟨b, 0, none⟩)] w fun e w' => e = .returned (.int .u8 (pk s i).toNat) ∧ ∃ n, w' = w.drewN n := by
 have h3 := hR.c3
 have h5 := hR.c5
 clear hR
 have h0 : ¬ (i : Int) < 0 := by omega
 by_cases hi : (i : Int) < (s.size : Int)
 ·have hp : pk s i = s[i]'(by omega) := by unfold pk; rw [dif_pos (by omega)]
  rw [hp]; clear hp
  go_enter Tryz.func214, Tryz.ntmps214
  go_wp2
  go_quiet (fail)
  go_wp2
  go_quiet (fail)
  go_wp2
  go_ret
  exact ⟨rfl, _, World.drewN_drewN _ _ _⟩
 ·have hp : pk s i = 0 := by unfold pk; rw [dif_neg (by omega)]
  rw [hp]; clear hp
  go_enter Tryz.func214, Tryz.ntmps214
  go_wp2
  go_quiet (fail)
  go_wp2
  go_ret
  exact ⟨rfl, _, rfl⟩
theorem xrefuse_bad (j : Nat) (hR : XrB w b s i true v0 v1 v2) :
  Calls Tryz.prog 201 #[.pointer (some ⟨b, 0, none⟩), .int .i64 j] w fun e w' => e = .returned (.tuple #[]) ∧ But (· = b) w w' ∧ XrB w' b s i true v0 v1 v2 := by
 have h4 := hR.c4
 go_enter Tryz.func201, Tryz.ntmps201
 go_wp2
 go_end0
 exact ⟨rfl, But.refl _ _, hR⟩
theorem xrefuse_ok (j : Nat) (hR : XrB w b s i false v0 v1 v2) :
  Calls Tryz.prog 201 #[.pointer (some ⟨b, 0, none⟩), .int .i64 j] w fun e w' => e = .returned (.tuple #[]) ∧ But (· = b) w w' ∧ XrB w' b s j true v0 v1 v2 := by
 have h4 := hR.c4
 have h3 := hR.c3
 have f3 := hR.fz 8
 have f4 := hR.fz 9
 go_enter Tryz.func201, Tryz.ntmps201
 go_wp2
 go_end0
 exact ⟨rfl, (But.setB _ _ _ _).trans (But.setB _ _ _ _), (hR.set4 true).set3 j⟩
theorem xbefore_any (c : UInt8) (hR : XrB w b s i bad v0 v1 v2) :
  Calls Tryz.prog 163 #[.pointer (some ⟨b, 0, none⟩), .int .u8 c.toNat] w fun e w' => e = .returned (.bool (!bad && !decide (pk s i = c))) ∧ ∃ n, w' = w.drewN n := by
 have h4 := hR.c4
 cases bad with
 | true =>
  go_enter Tryz.func163, Tryz.ntmps163
  go_wp2_with fail
  exact bodyPost_ret (v := .bool false) (by simp [results, Tryz.results163, go_sem]) rfl ⟨rfl, 0, rfl⟩
 | false =>
  by_cases hc : pk s i = c
  ·have e : (((pk s i).toNat : Int) == (c.toNat : Int)) = true := by rw [hc]; simp
   have e' : (((pk s i).toNat : Int) != (c.toNat : Int)) = false := by simp [bne, e]
   have ev : (!false && !decide (pk s i = c)) = false := by simp [hc]
   rw [ev]
   clear ev hc
   go_enter Tryz.func163, Tryz.ntmps163
   go_wp2_with fail
   refine (xnext_any b s i false v0 v1 v2 _ hR).mono ?_
   rintro en w' ⟨rfl, n, rfl⟩
   go_wp2_with fail
   exact bodyPost_ret (v := .bool false) (by simp [results, Tryz.results163, go_sem, e, e']) rfl ⟨rfl, n, rfl⟩
  ·have e : (((pk s i).toNat : Int) == (c.toNat : Int)) = false := by rw [beq_eq_false_iff_ne]; intro h; exact hc (UInt8.toNat_inj.1 (by omega))
   have e' : (((pk s i).toNat : Int) != (c.toNat : Int)) = true := by simp [bne, e]
   have ev : (!false && !decide (pk s i = c)) = true := by simp [hc]
   rw [ev]
   clear ev hc
   go_enter Tryz.func163, Tryz.ntmps163
   go_wp2_with fail
   refine (xnext_any b s i false v0 v1 v2 _ hR).mono ?_
   rintro en w' ⟨rfl, n, rfl⟩
   go_wp2_with fail
   exact bodyPost_ret (v := .bool true) (by simp [results, Tryz.results163, go_sem, e, e']) rfl ⟨rfl, n, rfl⟩
def tbP (s : ByteArray) (i : Nat) (bad : Bool) : UInt8 × Nat × Bool :=
 if bad = true ∨ s.size ≤ i then (0, i, true) else (pk s i, i + 1, false)
theorem xtakeByte_any (hs : s.size ≤ 2000) (hR : XrB w b s i bad v0 v1 v2) :
  Calls Tryz.prog 217 #[.pointer (some ⟨b, 0, none⟩)] w fun e w' => e = .returned (.int .u8 (tbP s i bad).1.toNat) ∧ But (· = b) w w' ∧ XrB w' b s (tbP s i bad).2.1 (tbP s i bad).2.2 v0 v1 v2 := by
 have h3 := hR.c3
 have h4 := hR.c4
 have h5 := hR.c5
 have f3 := hR.fz 8
 have f4 := hR.fz 9
 have blt := hR.lt
 by_cases hi : (i : Int) < (s.size : Int)
 ·cases bad with
  | true =>
   rw [show tbP s i true = (0, i, true) from by simp [tbP]]
   go_enter Tryz.func217, Tryz.ntmps217
   go_wp2
   go_quiet (fail)
   go_wp2
   go_ret
   exact ⟨rfl, But.drewN _ _ _, hR.drewN _⟩
  | false =>
   rw [show tbP s i false = (pk s i, i + 1, false) from by unfold tbP; rw [if_neg (by simp; omega)]]
   go_enter Tryz.func217, Tryz.ntmps217
   go_wp2
   go_quiet (fail)
   go_wp2_with fail
   refine (xnext_any b s i false v0 v1 v2 _ (hR.drewN _)).mono ?_
   rintro en w' ⟨rfl, n, rfl⟩
   go_wp2_with fail
   go_ret
   exact ⟨rfl, (But.drewN _ _ _).trans (But.setB _ _ _ _), by simpa using (hR.drewN _).set3 (i + 1)⟩
 ·rw [show tbP s i bad = (0, i, true) from by unfold tbP; rw [if_pos (by right; omega)]]
  go_enter Tryz.func217, Tryz.ntmps217
  go_wp2
  go_quiet (fail)
  go_wp2
  go_ret
  exact ⟨rfl, (But.drewN _ _ _).trans (But.setB _ _ _ _), (hR.drewN _).set4 true⟩
end
def tkP (s : ByteArray) (c : UInt8) (i : Nat) (bad : Bool) : Nat × Bool := if bad = false ∧ pk s i = c then (i + 1, false) else (i, true)
section
variable (b : Nat) (s : ByteArray) (i : Nat) (bad : Bool) (v0 v1 : Value) (v2 : RdV) (w : World)
theorem tbP_zero {s : ByteArray} {i : Nat} {bad : Bool} (h : bad = true ∨ s.size ≤ i) : tbP s i bad = (0, i, true) := by unfold tbP; rw [if_pos h]
theorem tbP_ok {s : ByteArray} {i : Nat} (h : i < s.size) : tbP s i false = (pk s i, i + 1, false) := by unfold tbP; rw [if_neg (by simp; omega)]
theorem pk_end {s : ByteArray} {i : Nat} (h : s.size ≤ i) : pk s i = 0 := by unfold pk; rw [dif_neg (by omega)]
theorem xtake_any (c : UInt8) (hc0 : 0 < c.toNat) (hs : s.size ≤ 2000) (hR : XrB w b s i bad v0 v1 v2) :
  Calls Tryz.prog 165 #[.pointer (some ⟨b, 0, none⟩), .int .u8 c.toNat] w fun e w' => e = .returned (.tuple #[]) ∧ But (· = b) w w' ∧ XrB w' b s (tkP s c i bad).1 (tkP s c i bad).2 v0 v1 v2 := by
 have h3 := hR.c3
 by_cases hz : bad = true ∨ s.size ≤ i
 ·have htk : tkP s c i bad = (i, true) := by
   unfold tkP
   rw [if_neg]
   rintro ⟨h1, h2⟩
   rcases hz with h | h
   ·rw [h] at h1; cases h1
   ·rw [pk_end h] at h2; subst h2; simp at hc0
  rw [htk]
  have hb := xtakeByte_any b s i bad v0 v1 v2 w hs hR
  rw [tbP_zero hz] at hb
  have HB := hid hb
  clear hb htk
  have e : ((0 : Int) == (c.toNat : Int)) = false := by rw [beq_eq_false_iff_ne]; omega
  have e' : ((0 : Int) != (c.toNat : Int)) = true := by simp [bne, e]
  have e2 : ¬ ((0 : Int) = (c.toNat : Int)) := by omega
  go_enter Tryz.func165, Tryz.ntmps165
  go_wp2_with fail
  refine HB.out.mono ?_
  rintro en w1 ⟨rfl, hB1, hR1⟩
  go_wp2_with fail
  refine (xrefuse_bad b s i v0 v1 v2 w1 i hR1).mono ?_
  rintro en w2 ⟨rfl, hB2, hR2⟩
  go_wp2_with fail
  go_end0
  exact ⟨rfl, hB1.trans hB2, hR2⟩
 ·have hz' := not_or.1 hz
  have hbf : bad = false := by simpa using hz'.1
  subst hbf
  have hb := xtakeByte_any b s i false v0 v1 v2 w hs hR
  rw [tbP_ok (by omega)] at hb
  have HB := hid hb
  clear hb
  by_cases hc : pk s i = c
  ·rw [show tkP s c i false = (i + 1, false) from by unfold tkP; rw [if_pos ⟨rfl, hc⟩]]
   have e : (((pk s i).toNat : Int) == (c.toNat : Int)) = true := by rw [hc]; simp
   have e' : (((pk s i).toNat : Int) != (c.toNat : Int)) = false := by simp [bne, e]
   have e2 : (((pk s i).toNat : Int) = (c.toNat : Int)) := by rw [hc]
   have E2 := hid e2
   clear hc e2 hz hz'
   go_enter Tryz.func165, Tryz.ntmps165
   go_wp2_with fail
   refine HB.out.mono ?_
   rintro en w1 ⟨rfl, hB1, hR1⟩
   go_wp2_with fail
   go_end0
   exact ⟨rfl, hB1, hR1⟩
  ·rw [show tkP s c i false = (i, true) from by unfold tkP; rw [if_neg (fun h => hc h.2)]]
   have e : (((pk s i).toNat : Int) == (c.toNat : Int)) = false := by rw [beq_eq_false_iff_ne]; intro h; exact hc (UInt8.toNat_inj.1 (by omega))
   have e' : (((pk s i).toNat : Int) != (c.toNat : Int)) = true := by simp [bne, e]
   have e2 : ¬ (((pk s i).toNat : Int) = (c.toNat : Int)) := by simpa using e
   clear hc hz hz'
   go_enter Tryz.func165, Tryz.ntmps165
   go_wp2_with fail
   refine HB.out.mono ?_
   rintro en w1 ⟨rfl, hB1, hR1⟩
   go_wp2_with fail
   refine (xrefuse_ok b s (i + 1) v0 v1 v2 w1 i hR1).mono ?_
   rintro en w2 ⟨rfl, hB2, hR2⟩
   go_wp2_with fail
   go_end0
   exact ⟨rfl, hB1.trans hB2, hR2⟩
def dgX (s : ByteArray) (n i : Nat) (bad : Bool) : Nat × Nat × Bool := if bad = false ∧ isDig n (pk s i) = true then ((pk s i).toNat - 48, i + 1, false) else (0, i, true)
theorem xtakeDigit_any (n : Nat) (hn : n ≤ 100) (hs : s.size ≤ 2000) (hR : XrB w b s i bad v0 v1 v2) :
  Calls Tryz.prog 220 #[.pointer (some ⟨b, 0, none⟩), .int .i64 n] w fun e w' => e = .returned (.int .i64 (dgX s n i bad).1) ∧ But (· = b) w w' ∧ XrB w' b s (dgX s n i bad).2.1 (dgX s n i bad).2.2 v0 v1 v2 := by
 have h3 := hR.c3
 by_cases hz : bad = true ∨ s.size ≤ i
 ·have htk : dgX s n i bad = (0, i, true) := by
   unfold dgX
   rw [if_neg]
   rintro ⟨h1, h2⟩
   rcases hz with h | h
   ·rw [h] at h1; cases h1
   ·rw [pk_end h] at h2; simp [isDig] at h2
  rw [htk]
  have hb := xtakeByte_any b s i bad v0 v1 v2 w hs hR
  rw [tbP_zero hz] at hb
  have HB := hid hb
  clear hb htk
  go_enter Tryz.func220, Tryz.ntmps220
  go_wp2_with fail
  refine HB.out.mono ?_
  rintro en w1 ⟨rfl, hB1, hR1⟩
  go_wp2_with fail
  refine (xrefuse_bad b s i v0 v1 v2 w1 i hR1).mono ?_
  rintro en w2 ⟨rfl, hB2, hR2⟩
  go_wp2_with fail
  go_ret
  exact ⟨rfl, hB1.trans hB2, hR2⟩
 ·have hz' := not_or.1 hz
  have hbf : bad = false := by simpa using hz'.1
  subst hbf
  have hb := xtakeByte_any b s i false v0 v1 v2 w hs hR
  rw [tbP_ok (by omega)] at hb
  have HB := hid hb
  clear hb
  by_cases hd : isDig n (pk s i) = true
  ·rw [show dgX s n i false = ((pk s i).toNat - 48, i + 1, false) from by unfold dgX; rw [if_pos ⟨rfl, hd⟩]]
   simp only [isDig, Bool.and_eq_true, decide_eq_true_eq] at hd
   revert HB
   generalize pk s i = c at *
   intro HB
   have a1 : ¬ ((c.toNat : Int) < 48) := by omega
   have a2 : ¬ (57 < (c.toNat : Int)) := by omega
   have hsub : IntKind.u8.wrap ((c.toNat : Int) - 48) = ((c.toNat - 48 : Nat) : Int) := by
    rw [IntWalk.u8_in _ (by omega)]; omega
   have a3 : ¬ ((n : Int) ≤ ((c.toNat - 48 : Nat) : Int)) := by omega
   clear hz hz' hd
   go_enter Tryz.func220, Tryz.ntmps220
   go_wp2_with fail
   refine HB.out.mono ?_
   rintro en w1 ⟨rfl, hB1, hR1⟩
   go_wp2_with fail
   go_ret
   exact ⟨rfl, hB1, hR1⟩
  ·rw [show dgX s n i false = (0, i, true) from by unfold dgX; rw [if_neg (fun h => hd h.2)]]
   simp only [isDig, Bool.and_eq_true, decide_eq_true_eq] at hd
   revert HB
   generalize pk s i = c at *
   intro HB
   clear hz hz'
   by_cases a1 : (c.toNat : Int) < 48
   ·clear hd
    go_enter Tryz.func220, Tryz.ntmps220
    go_wp2_with fail
    refine HB.out.mono ?_
    rintro en w1 ⟨rfl, hB1, hR1⟩
    go_wp2_with fail
    refine (xrefuse_ok b s (i + 1) v0 v1 v2 w1 i hR1).mono ?_
    rintro en w2 ⟨rfl, hB2, hR2⟩
    go_wp2_with fail
    go_ret
    exact ⟨rfl, hB1.trans hB2, hR2⟩
   ·by_cases a2 : 57 < (c.toNat : Int)
    ·clear hd
     go_enter Tryz.func220, Tryz.ntmps220
     go_wp2_with fail
     refine HB.out.mono ?_
     rintro en w1 ⟨rfl, hB1, hR1⟩
     go_wp2_with fail
     refine (xrefuse_ok b s (i + 1) v0 v1 v2 w1 i hR1).mono ?_
     rintro en w2 ⟨rfl, hB2, hR2⟩
     go_wp2_with fail
     go_ret
     exact ⟨rfl, hB1.trans hB2, hR2⟩
    ·have hsub : IntKind.u8.wrap ((c.toNat : Int) - 48) = ((c.toNat - 48 : Nat) : Int) := by
      rw [IntWalk.u8_in _ (by omega)]; omega
     have a3 : (n : Int) ≤ ((c.toNat - 48 : Nat) : Int) := by omega
     clear hd
     go_enter Tryz.func220, Tryz.ntmps220
     go_wp2_with fail
     refine HB.out.mono ?_
     rintro en w1 ⟨rfl, hB1, hR1⟩
     go_wp2_with fail
     refine (xrefuse_ok b s (i + 1) v0 v1 v2 w1 i hR1).mono ?_
     rintro en w2 ⟨rfl, hB2, hR2⟩
     go_wp2_with fail
     go_ret
     exact ⟨rfl, hB1.trans hB2, hR2⟩
end
end Go.Proofs.YtpfkkmacakjmbaaGreatDoor
