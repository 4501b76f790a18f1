import Derived.Test.YtpfkkmacakjmbaaGreatDoorP24
import Derived.Test.YtpfkkmacakjmbaaGreatDoorP25
import Derived.Test.YtpfkkmacakjmbaaGreatDoorP26
set_option maxRecDepth 100000
set_option maxHeartbeats 6400000
namespace Go.Proofs.YtpfkkmacakjmbaaGreatDoor
open Go Go.RowKit Sp
set_option linter.unusedSimpArgs false
set_option linter.unusedVariables false
attribute [local go_sem ↓] Go.wp_at_zero Go.wp_at_succ
def xN : V → Int
 | .i n => n
 | _ => 0
def xO : V → Int
 | .o k => k + 1
 | _ => 0
def xAgg (v : V) : Value := .agg #[.int .i32 (xN v), .int .i64 (xO v)]
def xCells (v : V) : List Value := [.int .i32 (xN v), .int .i64 (xO v)]
def xvalCells (l : List V) : List Value := l.flatMap xCells
theorem xvalCells_len (l : List V) : (xvalCells l).length = l.length * 2 := by
 induction l with
 | nil => rfl
 | cons v l ih => simp [xvalCells, xCells] at ih ⊢; omega
theorem xvalCells_at {l : List V} {j k : Nat} {v : V} (h : l[j]? = some v) (hk : k < 2) : (xvalCells l)[j * 2 + k]? = (xCells v)[k]? := flat_at xCells 2 (fun _ => rfl) l j k v h hk
theorem xvalCells_set (l : List V) (j : Nat) (u : V) : xvalCells (l.set j u) = ((xvalCells l).set (j * 2) (.int .i32 (xN u))).set (j * 2 + 1) (.int .i64 (xO u)) := by
 induction l generalizing j with
 | nil => simp [xvalCells]
 | cons v l ih =>
  cases j with
  | zero => simp [xvalCells, xCells]
  | succ j =>
   have := ih j
   simp only [xvalCells] at this
   simp [xvalCells, xCells, Nat.succ_mul, this]
theorem xplain (t : UInt8) : xN (plainV t) = 0 ∧ xO (plainV t) = 0 := by unfold plainV; split <;> exact ⟨rfl, rfl⟩
def faultN (e : Nat) : Int := if e = 5 then 1 else if e = 6 then 2 else if e = 7 then 3 else if e = 8 then 4 else if e = 9 then 5 else if e = 10 then 6 else 0
theorem xtruth_any (b : Bool) (w : World) :
  Calls Tryz.prog 235 #[.bool b] w fun en w' => en = .returned (xAgg (if b = true then .i 1 else .i 0)) ∧ But (fun _ => False) w w' := by
 cases b
 ·go_enter Tryz.func235, Tryz.ntmps235
  go_wp2_with fail
  exact bodyPost_ret (v := xAgg (.i 0)) (by simp [results, Tryz.results235, go_sem, xAgg, xN, xO]) rfl ⟨rfl, But.alloc _ _ _⟩
 ·go_enter Tryz.func235, Tryz.ntmps235
  go_wp2_with fail
  exact bodyPost_ret (v := xAgg (.i 1)) (by simp [results, Tryz.results235, go_sem, xAgg, xN, xO]) rfl ⟨rfl, But.alloc _ _ _⟩
def calcV (op : Nat) (a b : Int) : Value := if op = 47 ∧ b = 0 then .tuple #[xAgg .z, .int .i64 3] else .tuple #[xAgg (.i (if op = 47 then w32 (Int.tdiv a b) else aluV op a b)), .int .i64 0]
theorem retX {fn : Func} {Rr : Ending → World → Prop} {a : Act} {w : World} {c f r : Nat} {K N e : Int} (hf : fn.results = #[.cell c 168, .tmp f]) (hd : a.defers = []) (hc : a.tmps.getD c undef = .pointer (some ⟨r, 0, none⟩)) (he : a.tmps.getD f undef = .int .i64 e)
  (h0 : w.heap[r]? = some (.cells #[.int .i32 K, .int .i64 N] 168)) (hR : Rr (.returned (.tuple #[.agg #[.int .i32 K, .int .i64 N], .int .i64 e])) w) : bodyPost Tryz.prog fn Rr .ret a w := by
 have r0 : w.cell? ⟨r, 0, none⟩ = some (.int .i32 K) := by rw [cell_of_row w r 0 _ _ (0, 0) h0]; rfl
 have r1 : w.cell? ⟨r, 1, none⟩ = some (.int .i64 N) := by rw [cell_of_row w r 1 _ _ (0, 0) h0]; rfl
 refine bodyPost_ret (v := .tuple #[.agg #[.int .i32 K, .int .i64 N], .int .i64 e]) ?_ hd hR
 have hc' : a.tmps[c]?.getD undef = .pointer (some ⟨r, 0, none⟩) := by simpa using hc
 have he' : a.tmps[f]?.getD undef = .int .i64 e := by simpa using he
 simp [results, hf, hc', he', go_sem, r0, r1]
def ResX (w : World) (r : Nat) : Prop := ∃ K N : Int, w.heap[r]? = some (.cells #[.int .i32 K, .int .i64 N] 168)
theorem ResX.but {F : Nat → Prop} {w w' : World} {r : Nat} (h : ResX w r) (hb : But F w w') (hf : ¬ F r) : ResX w' r := by
 obtain ⟨K, N, h⟩ := h
 exact ⟨K, N, (hb.block r (lt_of_block h) hf).trans h⟩
theorem ResX.parts {w : World} {r : Nat} (h : ResX w r) : ∃ K N : Int, w.cell? ⟨r, 0, none⟩ = some (.int .i32 K) ∧ w.cell? ⟨r, 1, none⟩ = some (.int .i64 N) ∧ w.frozen? ⟨r, 0, none⟩ = false ∧ w.frozen? ⟨r, 1, none⟩ = false ∧ r < w.heap.size := by
 obtain ⟨K, N, h⟩ := h
 exact ⟨K, N, by rw [cell_of_row w r 0 _ _ (0, 0) h]; rfl, by rw [cell_of_row w r 1 _ _ (0, 0) h]; rfl, frozen_of_row w r 0 _ _ h, frozen_of_row w r 1 _ _ h, lt_of_block h⟩
theorem ResX.put {w : World} {r : Nat} (h : ResX w r) (K N : Int) : ((w.setCell ⟨r, 0, none⟩ (.int .i32 K)).setCell ⟨r, 1, none⟩ (.int .i64 N)).heap[r]? = some (.cells #[.int .i32 K, .int .i64 N] 168) := by
 obtain ⟨K', N', h⟩ := h
 exact heap_setCell_same _ r 1 _ _ _ (heap_setCell_same _ r 0 _ _ _ h)
theorem xcalc_any (op : Nat) (hop : op = 43 ∨ op = 45 ∨ op = 42 ∨ op = 60 ∨ op = 61 ∨ op = 47) (a b : Int) (a1 : -2147483648 ≤ a) (a2 : a < 2147483648) (b1 : -2147483648 ≤ b) (b2 : b < 2147483648) (w : World) :
  Calls Tryz.prog 234 #[.int .u8 op, .int .i32 a, .int .i32 b] w fun en w' => en = .returned (calcV op a b) ∧ But (fun _ => False) w w' := by
 rcases hop with rfl | rfl | rfl | rfl | rfl | rfl
 ·go_enter Tryz.func234, Tryz.ntmps234
  go_wp2_with fail
  exact retX Tryz.results234 rfl rfl rfl (heap_alloc_at rfl _) ⟨rfl, But.alloc _ _ _⟩
 ·go_enter Tryz.func234, Tryz.ntmps234
  go_wp2_with fail
  exact retX Tryz.results234 rfl rfl rfl (heap_alloc_at rfl _) ⟨rfl, But.alloc _ _ _⟩
 ·go_enter Tryz.func234, Tryz.ntmps234
  go_wp2_with fail
  exact retX Tryz.results234 rfl rfl rfl (heap_alloc_at rfl _) ⟨rfl, But.alloc _ _ _⟩
 ·rw [show calcV 60 a b = .tuple #[xAgg (if decide (a < b) = true then .i 1 else .i 0), .int .i64 0] from by unfold calcV aluV; by_cases h : a < b <;> simp [h]]
  obtain ⟨u, hu⟩ : ∃ u, (if decide (a < b) = true then V.i 1 else V.i 0) = u := ⟨_, rfl⟩
  have HT := hid (fun w => xtruth_any (decide (a < b)) w)
  rw [hu] at HT ⊢
  clear hu
  go_enter Tryz.func234, Tryz.ntmps234
  go_wp2_with fail
  refine (HT.out _).mono ?_
  rintro en w1 ⟨rfl, hB1⟩
  simp only [xAgg]
  have hr1 : ResX w1 w.heap.size := ResX.but ⟨0, 0, heap_alloc_new w _⟩ hB1 (fun h => h)
  have hBw : But (fun _ => False) w w1 := (But.alloc _ _ _).trans hB1
  obtain ⟨K9, N9, r0, r1, f0, f1, hrl⟩ := hr1.parts
  clear hB1 HT
  go_wp2_with fail
  exact retX Tryz.results234 rfl rfl rfl (hr1.put _ _) ⟨rfl, hBw.next (but_put _ _ _ _) (fun k hk e => by have e : k = w.heap.size := e; omega)⟩
 ·rw [show calcV 61 a b = .tuple #[xAgg (if decide (a = b) = true then .i 1 else .i 0), .int .i64 0] from by unfold calcV aluV; by_cases h : a = b <;> simp [h]]
  obtain ⟨u, hu⟩ : ∃ u, (if decide (a = b) = true then V.i 1 else V.i 0) = u := ⟨_, rfl⟩
  have HT := hid (fun w => xtruth_any (decide (a = b)) w)
  rw [hu] at HT ⊢
  clear hu
  go_enter Tryz.func234, Tryz.ntmps234
  go_wp2_with fail
  refine (HT.out _).mono ?_
  rintro en w1 ⟨rfl, hB1⟩
  simp only [xAgg]
  have hr1 : ResX w1 w.heap.size := ResX.but ⟨0, 0, heap_alloc_new w _⟩ hB1 (fun h => h)
  have hBw : But (fun _ => False) w w1 := (But.alloc _ _ _).trans hB1
  obtain ⟨K9, N9, r0, r1, f0, f1, hrl⟩ := hr1.parts
  clear hB1 HT
  go_wp2_with fail
  exact retX Tryz.results234 rfl rfl rfl (hr1.put _ _) ⟨rfl, hBw.next (but_put _ _ _ _) (fun k hk e => by have e : k = w.heap.size := e; omega)⟩
 ·by_cases h0 : b = 0
  ·subst h0
   rw [show calcV 47 a 0 = .tuple #[.agg #[.int .i32 0, .int .i64 0], .int .i64 3] from rfl]
   go_enter Tryz.func234, Tryz.ntmps234
   go_wp2_with fail
   exact retX Tryz.results234 rfl rfl rfl (heap_alloc_at rfl _) ⟨rfl, But.alloc _ _ _⟩
  ·rw [show calcV 47 a b = .tuple #[.agg #[.int .i32 (wrap32 (Int.tdiv a b)), .int .i64 0], .int .i64 0] from by unfold calcV; rw [if_neg (by omega)]; rfl]
   have h0' : (b == 0) = false := by simpa using h0
   go_enter Tryz.func234, Tryz.ntmps234
   go_wp2_with fail
   exact retX Tryz.results234 rfl rfl rfl (heap_alloc_at rfl _) ⟨rfl, But.alloc _ _ _⟩
end Go.Proofs.YtpfkkmacakjmbaaGreatDoor
namespace Go.Proofs.YtpfkkmacakjmbaaGreatDoor
open Go Go.RowKit Sp
set_option linter.unusedSimpArgs false
set_option linter.unusedVariables false
def XwC (w : World) (b tx : Nat) (inp : ByteArray) (r : Int) (vo vb : Value) (cn : Int) : Prop :=
 w.heap[b]? = some (.cells #[.pointer (some ⟨tx, 0, none⟩), .string inp, .int .i64 r, vo, vb, .int .i64 cn] 211)
section
variable {w : World} {b tx : Nat} {inp : ByteArray} {r : Int} {vo vb : Value} {cn : Int}
theorem XwC.lt (h : XwC w b tx inp r vo vb cn) : b < w.heap.size := lt_of_block h
theorem XwC.c0 (h : XwC w b tx inp r vo vb cn) : w.cell? ⟨b, 0, none⟩ = some (.pointer (some ⟨tx, 0, none⟩)) := by rw [cell_of_row w b 0 _ _ (0, 0) h]; rfl
theorem XwC.c1 (h : XwC w b tx inp r vo vb cn) : w.cell? ⟨b, 1, none⟩ = some (.string inp) := by rw [cell_of_row w b 1 _ _ (0, 0) h]; rfl
theorem XwC.c2 (h : XwC w b tx inp r vo vb cn) : w.cell? ⟨b, 2, none⟩ = some (.int .i64 r) := by rw [cell_of_row w b 2 _ _ (0, 0) h]; rfl
theorem XwC.c3 (h : XwC w b tx inp r vo vb cn) : w.cell? ⟨b, 3, none⟩ = some vo := by rw [cell_of_row w b 3 _ _ (0, 0) h]; rfl
theorem XwC.c4 (h : XwC w b tx inp r vo vb cn) : w.cell? ⟨b, 4, none⟩ = some vb := by rw [cell_of_row w b 4 _ _ (0, 0) h]; rfl
theorem XwC.c5 (h : XwC w b tx inp r vo vb cn) : w.cell? ⟨b, 5, none⟩ = some (.int .i64 cn) := by rw [cell_of_row w b 5 _ _ (0, 0) h]; rfl
theorem XwC.fz (h : XwC w b tx inp r vo vb cn) (j : Nat) : w.frozen? ⟨b, j, none⟩ = false := frozen_of_row w b j _ _ h
theorem XwC.but {F : Nat → Prop} {w' : World} (h : XwC w b tx inp r vo vb cn) (hb : But F w w') (hf : ¬ F b) : XwC w' b tx inp r vo vb cn := (hb.block b h.lt hf).trans h
theorem XwC.set2 (h : XwC w b tx inp r vo vb cn) (n : Int) : XwC (w.setCell ⟨b, 2, none⟩ (.int .i64 n)) b tx inp n vo vb cn := heap_setCell_same w b 2 _ _ _ h
theorem XwC.set3 (h : XwC w b tx inp r vo vb cn) (v : Value) : XwC (w.setCell ⟨b, 3, none⟩ v) b tx inp r v vb cn := heap_setCell_same w b 3 _ _ _ h
theorem XwC.set4 (h : XwC w b tx inp r vo vb cn) (v : Value) : XwC (w.setCell ⟨b, 4, none⟩ v) b tx inp r vo v cn := heap_setCell_same w b 4 _ _ _ h
theorem XwC.set5 (h : XwC w b tx inp r vo vb cn) (n : Int) : XwC (w.setCell ⟨b, 5, none⟩ (.int .i64 n)) b tx inp r vo vb n := heap_setCell_same w b 5 _ _ _ h
end
def XoC (w : World) (g c : Nat) (v : Value) (sn : Int) : Prop := w.heap[g]? = some (.cells #[.int .u8 c, v, .int .i64 sn] 318)
def ptrCells (gs : List Nat) : List Value := gs.map fun g => .pointer (some ⟨g, 0, none⟩)
abbrev FrQ (P : Nat → Prop) (w0 : World) (k : Nat) : Prop := w0.heap.size ≤ k ∧ ¬ P k
def OwnW (bw : Nat) (vo vb : Value) (gs : List Nat) (fv : List Value) (k : Nat) : Prop :=
 k = bw ∨ vo.ownBlock = some k ∨ vb.ownBlock = some k ∨ k ∈ gs ∨ ∃ v ∈ fv, v.ownBlock = some k
structure WdQ (P : Nat → Prop) (w0 w : World) (bw tx : Nat) (inp : ByteArray) (s : Ev) (vo vb : Value) (gs : List Nat) (fv : List Value) (cn : Int) (sn : Nat → Int) : Prop where
 old : But (fun _ => False) w0 w
 wd : XwC w bw tx inp (min s.read inp.size : Nat) vo vb cn
 out : w.ownsRow w0.heap.size 5 1 vo s.out.length (Lib.byteCells s.out)
 ob : w.ownsRow w0.heap.size 315 1 vb s.heap.length (ptrCells gs)
 lg : gs.length = s.heap.length
 lf : fv.length = s.heap.length
 obs : ∀ (k : Nat) o g v, s.heap[k]? = some o → gs[k]? = some g → fv[k]? = some v → XoC w g (65 + o.cls) v (sn k) ∧ w.ownsRow w0.heap.size 168 2 v o.fs.length (xvalCells o.fs)
 nd : ∀ (j k : Nat) g, gs[j]? = some g → gs[k]? = some g → j = k
 own : ∀ k, OwnW bw vo vb gs fv k → w0.heap.size ≤ k ∧ ¬ P k
 pl : ∀ k, P k → k < w.heap.size ∧ ∀ c fz, w.heap[k]? ≠ some (.cells c 5 fz)
 sf : ∀ (j k : Nat) v v' g, fv[j]? = some v → fv[k]? = some v' → v.ownBlock = some g → v'.ownBlock = some g → j = k
 se : 0 ≤ cn ∧ ∀ k, sn k ≤ cn
theorem off_type {w : World} {g k : Nat} {c c' : Array Value} {t t' : TypeId} {fr fr' : Nat × Nat} (hk : w.heap[k]? = some (.cells c' t' fr')) (hg : w.heap[g]? = some (.cells c t fr)) (h : t ≠ t') : k ≠ g := fun e => by
 subst e
 rw [hk] at hg
 injection hg with hg
 injection hg with _ h2
 exact h h2.symm
section
variable {P : Nat → Prop} {w0 w w' : World} {bw tx : Nat} {inp : ByteArray} {s : Ev} {vo vb : Value} {gs : List Nat} {fv : List Value} {cn : Int} {sn : Nat → Int}
theorem WdQ.k2 (h : WdQ P w0 w bw tx inp s vo vb gs fv cn sn) : w0.heap.size ≤ bw ∧ ¬ P bw := h.own bw (Or.inl rfl)
theorem WdQ.k4 (h : WdQ P w0 w bw tx inp s vo vb gs fv cn sn) {g : Nat} (hg : vo.ownBlock = some g) : w0.heap.size ≤ g ∧ ¬ P g := h.own g (Or.inr (Or.inl hg))
theorem WdQ.k5 (h : WdQ P w0 w bw tx inp s vo vb gs fv cn sn) {g : Nat} (hg : vb.ownBlock = some g) : w0.heap.size ≤ g ∧ ¬ P g := h.own g (Or.inr (Or.inr (Or.inl hg)))
theorem WdQ.k7 (h : WdQ P w0 w bw tx inp s vo vb gs fv cn sn) {g : Nat} (hg : g ∈ gs) : w0.heap.size ≤ g ∧ ¬ P g := h.own g (Or.inr (Or.inr (Or.inr (Or.inl hg))))
theorem WdQ.k8 (h : WdQ P w0 w bw tx inp s vo vb gs fv cn sn) {v : Value} {g : Nat} (hv : v ∈ fv) (hg : v.ownBlock = some g) : w0.heap.size ≤ g ∧ ¬ P g := h.own g (Or.inr (Or.inr (Or.inr (Or.inr ⟨v, hv, hg⟩))))
theorem WdQ.obj (h : WdQ P w0 w bw tx inp s vo vb gs fv cn sn) {k : Nat} (hk : k < s.heap.length) : ∃ (o : Ob) (g : Nat) (v : Value), s.heap[k]? = some o ∧ gs[k]? = some g ∧ fv[k]? = some v ∧ XoC w g (65 + o.cls) v (sn k) ∧ w.ownsRow w0.heap.size 168 2 v o.fs.length (xvalCells o.fs) := by
 have h1 := List.getElem?_eq_getElem hk
 have h2 := List.getElem?_eq_getElem (show k < gs.length by rw [h.lg]; exact hk)
 have h3 := List.getElem?_eq_getElem (show k < fv.length by rw [h.lf]; exact hk)
 exact ⟨_, _, _, h1, h2, h3, (h.obs k _ _ _ h1 h2 h3).1, (h.obs k _ _ _ h1 h2 h3).2⟩
theorem WdQ.mg (h : WdQ P w0 w bw tx inp s vo vb gs fv cn sn) {g : Nat} (hg : g ∈ gs) : ∃ (c : Nat) (v : Value) (q : Int), XoC w g c v q := by
 obtain ⟨k, hk, rfl⟩ := List.getElem_of_mem hg
 obtain ⟨o, g', v, _, h2, _, h4, _⟩ := h.obj (by rw [← h.lg]; exact hk)
 rw [List.getElem?_eq_getElem hk] at h2
 cases h2
 exact ⟨_, _, _, h4⟩
theorem WdQ.mv (h : WdQ P w0 w bw tx inp s vo vb gs fv cn sn) {v : Value} (hv : v ∈ fv) : ∃ (n : Nat) (xs : List Value), w.ownsRow w0.heap.size 168 2 v n xs := by
 obtain ⟨k, hk, rfl⟩ := List.getElem_of_mem hv
 obtain ⟨o, g', v, _, _, h3, _, h5⟩ := h.obj (by rw [← h.lf]; exact hk)
 rw [List.getElem?_eq_getElem hk] at h3
 cases h3
 exact ⟨_, _, h5⟩
theorem WdQ.lt (h : WdQ P w0 w bw tx inp s vo vb gs fv cn sn) {k : Nat} (hk : OwnW bw vo vb gs fv k) : k < w.heap.size := by
 rcases hk with rfl | hk | hk | hk | ⟨v, hv, hk⟩
 ·exact h.wd.lt
 ·exact owns_lt h.out k hk
 ·exact owns_lt h.ob k hk
 ·obtain ⟨c, v, q, ho⟩ := h.mg hk; exact lt_of_block ho
 ·obtain ⟨n, xs, ho⟩ := h.mv hv; exact owns_lt ho k hk
theorem WdQ.but {F : Nat → Prop} (h : WdQ P w0 w bw tx inp s vo vb gs fv cn sn) (hB : But F w w') (h0 : ∀ k, F k → w0.heap.size ≤ k) (h1 : ∀ k, OwnW bw vo vb gs fv k → ¬ F k) (hp : ∀ k, P k → ¬ F k) : WdQ P w0 w' bw tx inp s vo vb gs fv cn sn := by
 refine ⟨h.old.next hB (fun k hk hf => by have := h0 k hf; omega), h.wd.but hB (h1 _ (Or.inl rfl)), owns_but h.out hB (fun g hg => h1 g (Or.inr (Or.inl hg))), owns_but h.ob hB (fun g hg => h1 g (Or.inr (Or.inr (Or.inl hg)))), h.lg, h.lf, fun k o g v a b c => ?_, h.nd, h.own, fun k hk => ?_, h.sf, h.se⟩
 ·obtain ⟨x, y⟩ := h.obs k o g v a b c
  exact ⟨(hB.block g (lt_of_block x) (h1 g (Or.inr (Or.inr (Or.inr (Or.inl (List.mem_of_getElem? b))))))).trans x, owns_but y hB (fun q hq => h1 q (Or.inr (Or.inr (Or.inr (Or.inr ⟨v, List.mem_of_getElem? c, hq⟩)))))⟩
 ·obtain ⟨a, b⟩ := h.pl k hk
  refine ⟨Nat.lt_of_lt_of_le a hB.size, fun c fz e => ?_⟩
  rw [hB.block k a (hp k hk)] at e
  exact b c fz e
theorem WdQ.new (h : WdQ P w0 w bw tx inp s vo vb gs fv cn sn) (hB : But (fun _ => False) w w') : WdQ P w0 w' bw tx inp s vo vb gs fv cn sn := h.but hB (fun _ h => h.elim) (fun _ _ h => h) (fun _ _ h => h)
theorem WdQ.grow (h : WdQ P w0 w bw tx inp s vo vb gs fv cn sn) (hB : But (fun _ => False) w w') (ht : ∀ k, w.heap.size ≤ k → k < w'.heap.size → ∀ c fz, w'.heap[k]? ≠ some (.cells c 5 fz)) : WdQ (fun k => P k ∨ (w.heap.size ≤ k ∧ k < w'.heap.size)) w0 w' bw tx inp s vo vb gs fv cn sn := by
 have h1 := h.new hB
 refine ⟨h1.old, h1.wd, h1.out, h1.ob, h1.lg, h1.lf, h1.obs, h1.nd, fun k hk => ⟨(h1.own k hk).1, fun hp => ?_⟩, fun k hk => ?_, h1.sf, h1.se⟩
 ·rcases hp with hp | hp
  ·exact (h1.own k hk).2 hp
  ·have := h.lt hk; omega
 ·rcases hk with hk | hk
  ·exact h1.pl k hk
  ·exact ⟨hk.2, ht k hk.1 hk.2⟩
theorem WdQ.less {Q : Nat → Prop} (h : WdQ P w0 w bw tx inp s vo vb gs fv cn sn) (hs : ∀ k, Q k → P k) : WdQ Q w0 w bw tx inp s vo vb gs fv cn sn :=
 ⟨h.old, h.wd, h.out, h.ob, h.lg, h.lf, h.obs, h.nd, fun k hk => ⟨(h.own k hk).1, fun hp => (h.own k hk).2 (hs k hp)⟩, fun k hk => h.pl k (hs k hk), h.sf, h.se⟩
theorem WdQ.add (h : WdQ P w0 w bw tx inp s vo vb gs fv cn sn) {Q : Nat → Prop} (hQ : ∀ k, Q k → ∃ c t fz, w.heap[k]? = some (.cells c t fz) ∧ t ≠ 5 ∧ (t = 168 → ∀ v ∈ fv, v.ownBlock ≠ some k) ∧ t ≠ 211 ∧ t ≠ 315 ∧ t ≠ 318) : WdQ (fun k => P k ∨ Q k) w0 w bw tx inp s vo vb gs fv cn sn := by
 refine ⟨h.old, h.wd, h.out, h.ob, h.lg, h.lf, h.obs, h.nd, fun j hj => ⟨(h.own j hj).1, fun hp => ?_⟩, fun j hj => ?_, h.sf, h.se⟩
 ·rcases hp with hp | hq
  ·exact (h.own j hj).2 hp
  ·obtain ⟨c, t, fz, hk, t1, t2, t3, t4, t5⟩ := hQ j hq
   rcases hj with rfl | hj | hj | hj | ⟨v, hv, hj⟩
   ·exact off_type h.wd hk t3 rfl
   ·exact owns_offE h.out hk (Ne.symm t1) hj
   ·exact owns_offE h.ob hk (Ne.symm t4) hj
   ·obtain ⟨c', v', q, ho⟩ := h.mg hj; exact off_type ho hk t5 rfl
   ·by_cases e : t = 168
    ·exact t2 e v hv hj
    ·obtain ⟨n', xs, ho⟩ := h.mv hv; exact owns_offE ho hk (Ne.symm e) hj
 ·rcases hj with hj | hj
  ·exact h.pl j hj
  ·obtain ⟨c, t, fz, hk, t1, _⟩ := hQ j hj
   exact ⟨lt_of_block hk, fun c' fz' e => by rw [hk] at e; injection e with e; injection e with _ h2; exact t1 h2⟩
structure StandW (P : Nat → Prop) (w0 w' : World) (bw tx : Nat) (inp : ByteArray) (s : Ev) (vo vb : Value) (gs : List Nat) (fv : List Value) (cn : Int) (sn : Nat → Int) (t : TypeId) : Prop where
 old : But (fun _ => False) w0 w'
 wd : t ≠ 211 → XwC w' bw tx inp (min s.read inp.size : Nat) vo vb cn
 out : t ≠ 5 → w'.ownsRow w0.heap.size 5 1 vo s.out.length (Lib.byteCells s.out)
 ob : t ≠ 315 → w'.ownsRow w0.heap.size 315 1 vb s.heap.length (ptrCells gs)
 obj : t ≠ 318 → ∀ (k : Nat) o g v, s.heap[k]? = some o → gs[k]? = some g → fv[k]? = some v → XoC w' g (65 + o.cls) v (sn k)
 fld : t ≠ 168 → ∀ (k : Nat) o g v, s.heap[k]? = some o → gs[k]? = some g → fv[k]? = some v → w'.ownsRow w0.heap.size 168 2 v o.fs.length (xvalCells o.fs)
 pl : ∀ k, P k → k < w'.heap.size ∧ ∀ c fz, w'.heap[k]? ≠ some (.cells c 5 fz)
theorem WdQ.stand (h : WdQ P w0 w bw tx inp s vo vb gs fv cn sn) {g : Nat} {c : Array Value} {t : TypeId} {fr : Nat × Nat} (hg : w.heap[g]? = some (.cells c t fr)) (hg0 : w0.heap.size ≤ g) (hgp : ¬ P g) (hB : But (· = g) w w') : StandW P w0 w' bw tx inp s vo vb gs fv cn sn t := by
 refine ⟨h.old.next hB (fun k hk e => by have e : k = g := e; omega), fun ht => h.wd.but hB (off_type h.wd hg ht), fun ht => owns_but h.out hB (fun k hk e => owns_offE h.out hg (Ne.symm ht) (e ▸ hk)), fun ht => owns_but h.ob hB (fun k hk e => owns_offE h.ob hg (Ne.symm ht) (e ▸ hk)), fun ht k o q v a b d => ?_, fun ht k o q v a b d => ?_, fun k hk => ?_⟩
 ·have x := (h.obs k o q v a b d).1
  exact (hB.block q (lt_of_block x) (off_type x hg ht)).trans x
 ·have y := (h.obs k o q v a b d).2
  exact owns_but y hB (fun j hj e => owns_offE y hg (Ne.symm ht) (e ▸ hj))
 ·obtain ⟨a, b⟩ := h.pl k hk
  refine ⟨Nat.lt_of_lt_of_le a hB.size, fun c fz e => ?_⟩
  rw [hB.block k a (fun e => hgp (e ▸ hk))] at e
  exact b c fz e
theorem WdQ.left (h : WdQ P w0 w bw tx inp s vo vb gs fv cn sn) (n : Nat) : WdQ P w0 w bw tx inp { s with left := n } vo vb gs fv cn sn :=
 ⟨h.old, h.wd, h.out, h.ob, h.lg, h.lf, h.obs, h.nd, h.own, h.pl, h.sf, h.se⟩
theorem WdQ.readd (h : WdQ P w0 w bw tx inp s vo vb gs fv cn sn) {n : Nat} (hn : n = min (s.read + 1) inp.size) : WdQ P w0 (w.setCell ⟨bw, 2, none⟩ (.int .i64 n)) bw tx inp { s with read := s.read + 1 } vo vb gs fv cn sn := by
 have a := h.stand h.wd h.k2.1 h.k2.2 (But.setB w bw 2 (.int .i64 n))
 refine ⟨a.old, ?_, a.out (by decide), a.ob (by decide), h.lg, h.lf, fun k o g v x y z => ⟨a.obj (by decide) k o g v x y z, a.fld (by decide) k o g v x y z⟩, h.nd, h.own, a.pl, h.sf, h.se⟩
 have := h.wd.set2 (n : Int)
 rw [hn] at this ⊢
 exact this
theorem WdQ.unread (h : WdQ P w0 w bw tx inp s vo vb gs fv cn sn) (hn : inp.size ≤ s.read) : WdQ P w0 w bw tx inp { s with read := s.read + 1 } vo vb gs fv cn sn :=
 ⟨h.old, by have := h.wd; rw [show min s.read inp.size = min (s.read + 1) inp.size from by omega] at this; exact this, h.out, h.ob, h.lg, h.lf, h.obs, h.nd, h.own, h.pl, h.sf, h.se⟩
theorem xowns_put {w : World} {base n g j : Nat} {v : Value} {l : List V} (u : V) (h : w.ownsRow base 168 2 v n (xvalCells l)) (hg : v.ownBlock = some g) :
  ((w.setCell ⟨g, j * 2, none⟩ (.int .i32 (xN u))).setCell ⟨g, j * 2 + 1, none⟩ (.int .i64 (xO u))).ownsRow base 168 2 v n (xvalCells (l.set j u)) := by
 have hlen := h.1
 rcases h.2 with ⟨rfl, _⟩ | ⟨g', cap, cur, rfl, hb, hh, hc1, hc2, hc3, hc4⟩
 ·cases hg
 ·simp [Value.ownBlock] at hg
  subst hg
  refine ⟨by rw [← hlen, xvalCells_len, xvalCells_len]; simp, Or.inr ⟨g', cap, (cur.setIfInBounds (j * 2) (.int .i32 (xN u))).setIfInBounds (j * 2 + 1) (.int .i64 (xO u)), rfl, hb, ?_, hc1, hc2, by simpa using hc3, ?_⟩⟩
  ·exact heap_setCell_same _ g' _ _ _ _ (heap_setCell_same _ g' _ _ _ _ hh)
  ·rw [xvalCells_set, ← hc4]
   simp [List.take_set]
theorem WdQ.setF (h : WdQ P w0 w bw tx inp s vo vb gs fv cn sn) {k g q : Nat} {o : Ob} {v : Value} (hk : s.heap[k]? = some o) (hq : gs[k]? = some q) (hv : fv[k]? = some v) (hg : v.ownBlock = some g) (j : Nat) (u : V) : WdQ P w0 ((w.setCell ⟨g, j * 2, none⟩ (.int .i32 (xN u))).setCell ⟨g, j * 2 + 1, none⟩ (.int .i64 (xO u))) bw tx inp (s.put k j u) vo vb gs fv cn sn := by
 have hB : But (· = g) w ((w.setCell ⟨g, j * 2, none⟩ (.int .i32 (xN u))).setCell ⟨g, j * 2 + 1, none⟩ (.int .i64 (xO u))) := (But.setB _ _ _ _).trans (But.setB _ _ _ _)
 have hr := (h.obs k o q v hk hq hv).2
 have hm := List.mem_of_getElem? hv
 obtain ⟨cur, hcur⟩ := owns_type hr hg
 have a := h.stand hcur (h.k8 hm hg).1 (h.k8 hm hg).2 hB
 have e1 : (s.put k j u).heap = s.heap.set k ⟨o.cls, o.fs.set j u⟩ := by simp [Ev.put, (Ev.at hk).1, (Ev.at hk).2]
 refine ⟨a.old, a.wd (by decide), a.out (by decide), ?_, by rw [e1]; simpa using h.lg, by rw [e1]; simpa using h.lf, ?_, h.nd, h.own, a.pl, h.sf, h.se⟩
 ·rw [e1, List.length_set]
  exact a.ob (by decide)
 ·intro i o' q' v' hi hqi hvi
  rw [e1, List.getElem?_set] at hi
  split at hi
  ·rename_i he
   subst he
   rw [hv] at hvi
   rw [hq] at hqi
   cases hvi
   cases hqi
   split at hi
   ·cases hi
    refine ⟨a.obj (by decide) k o q v hk hq hv, ?_⟩
    simp only [List.length_set]
    exact xowns_put u hr hg
   ·cases hi
  ·rename_i he
   exact ⟨a.obj (by decide) i o' q' v' hi hqi hvi, owns_but (h.obs i o' q' v' hi hqi hvi).2 hB (fun i' hi' e => he (h.sf k i v v' g hv hvi hg (e ▸ hi')))⟩
theorem WdQ.tmp {F : Nat → Prop} (h : WdQ P w0 w bw tx inp s vo vb gs fv cn sn) (hB : But F w w') (hF : ∀ k, F k → P k ∧ w0.heap.size ≤ k) (ht : ∀ k, F k → ∀ c fz, w'.heap[k]? ≠ some (.cells c 5 fz)) : WdQ P w0 w' bw tx inp s vo vb gs fv cn sn := by
 have h1 : ∀ k, OwnW bw vo vb gs fv k → ¬ F k := fun k hk hf => (h.own k hk).2 (hF k hf).1
 have a := (h.less (Q := fun _ => False) (fun _ h => h.elim)).but hB (fun k hf => (hF k hf).2) h1 (fun _ h => h.elim)
 refine ⟨a.old, a.wd, a.out, a.ob, a.lg, a.lf, a.obs, a.nd, h.own, fun k hk => ?_, a.sf, a.se⟩
 obtain ⟨x, y⟩ := h.pl k hk
 refine ⟨Nat.lt_of_lt_of_le x hB.size, fun c fz e => ?_⟩
 by_cases hf : F k
 ·exact ht k hf c fz e
 ·rw [hB.block k x hf] at e
  exact y c fz e
end
def XwB (w : World) (b tx : Nat) (inp : ByteArray) (r : Int) (vo vb : Value) : Prop :=
 w.heap[b]? = some (.cells #[.pointer (some ⟨tx, 0, none⟩), .string inp, .int .i64 r, vo, vb, .int .i64 0] 211)
section
variable {w : World} {b tx : Nat} {inp : ByteArray} {r : Int} {vo vb : Value}
theorem XwB.lt (h : XwB w b tx inp r vo vb) : b < w.heap.size := lt_of_block h
theorem XwB.c0 (h : XwB w b tx inp r vo vb) : w.cell? ⟨b, 0, none⟩ = some (.pointer (some ⟨tx, 0, none⟩)) := by rw [cell_of_row w b 0 _ _ (0, 0) h]; rfl
theorem XwB.c1 (h : XwB w b tx inp r vo vb) : w.cell? ⟨b, 1, none⟩ = some (.string inp) := by rw [cell_of_row w b 1 _ _ (0, 0) h]; rfl
theorem XwB.c2 (h : XwB w b tx inp r vo vb) : w.cell? ⟨b, 2, none⟩ = some (.int .i64 r) := by rw [cell_of_row w b 2 _ _ (0, 0) h]; rfl
theorem XwB.c3 (h : XwB w b tx inp r vo vb) : w.cell? ⟨b, 3, none⟩ = some vo := by rw [cell_of_row w b 3 _ _ (0, 0) h]; rfl
theorem XwB.c4 (h : XwB w b tx inp r vo vb) : w.cell? ⟨b, 4, none⟩ = some vb := by rw [cell_of_row w b 4 _ _ (0, 0) h]; rfl
theorem XwB.fz (h : XwB w b tx inp r vo vb) (j : Nat) : w.frozen? ⟨b, j, none⟩ = false := frozen_of_row w b j _ _ h
theorem XwB.but {F : Nat → Prop} {w' : World} (h : XwB w b tx inp r vo vb) (hb : But F w w') (hf : ¬ F b) : XwB w' b tx inp r vo vb := (hb.block b h.lt hf).trans h
theorem XwB.set2 (h : XwB w b tx inp r vo vb) (n : Int) : XwB (w.setCell ⟨b, 2, none⟩ (.int .i64 n)) b tx inp n vo vb := heap_setCell_same w b 2 _ _ _ h
theorem XwB.set3 (h : XwB w b tx inp r vo vb) (v : Value) : XwB (w.setCell ⟨b, 3, none⟩ v) b tx inp r v vb := heap_setCell_same w b 3 _ _ _ h
theorem XwB.set4 (h : XwB w b tx inp r vo vb) (v : Value) : XwB (w.setCell ⟨b, 4, none⟩ v) b tx inp r vo v := heap_setCell_same w b 4 _ _ _ h
end
def XeB (w : World) (b tx bw : Nat) (f : Int) : Prop := w.heap[b]? = some (.cells #[.pointer (some ⟨tx, 0, none⟩), .pointer (some ⟨bw, 0, none⟩), .int .i64 f] 164)
section
variable {w : World} {b tx bw : Nat} {f : Int}
theorem XeB.lt (h : XeB w b tx bw f) : b < w.heap.size := lt_of_block h
theorem XeB.c0 (h : XeB w b tx bw f) : w.cell? ⟨b, 0, none⟩ = some (.pointer (some ⟨tx, 0, none⟩)) := by rw [cell_of_row w b 0 _ _ (0, 0) h]; rfl
theorem XeB.c1 (h : XeB w b tx bw f) : w.cell? ⟨b, 1, none⟩ = some (.pointer (some ⟨bw, 0, none⟩)) := by rw [cell_of_row w b 1 _ _ (0, 0) h]; rfl
theorem XeB.c2 (h : XeB w b tx bw f) : w.cell? ⟨b, 2, none⟩ = some (.int .i64 f) := by rw [cell_of_row w b 2 _ _ (0, 0) h]; rfl
theorem XeB.fz (h : XeB w b tx bw f) (j : Nat) : w.frozen? ⟨b, j, none⟩ = false := frozen_of_row w b j _ _ h
theorem XeB.but {F : Nat → Prop} {w' : World} (h : XeB w b tx bw f) (hb : But F w w') (hf : ¬ F b) : XeB w' b tx bw f := (hb.block b h.lt hf).trans h
theorem XeB.set2 (h : XeB w b tx bw f) (n : Int) : XeB (w.setCell ⟨b, 2, none⟩ (.int .i64 n)) b tx bw n := heap_setCell_same w b 2 _ _ _ h
end
def XoB (w : World) (g c : Nat) (v : Value) : Prop := w.heap[g]? = some (.cells #[.int .u8 c, v, .int .i64 0] 318)
def OwnQ (be bw bl : Nat) (vo vb lv : Value) (gs : List Nat) (fv : List Value) (k : Nat) : Prop :=
 k = be ∨ k = bw ∨ k = bl ∨ vo.ownBlock = some k ∨ vb.ownBlock = some k ∨ lv.ownBlock = some k ∨ k ∈ gs ∨ ∃ v ∈ fv, v.ownBlock = some k
structure StQ (P : Nat → Prop) (w0 w : World) (be bw tx : Nat) (inp : ByteArray) (s : Ev) (bl : Nat) (lv : Value) (l : List V) (vo vb : Value) (gs : List Nat) (fv : List Value) : Prop where
 old : But (fun _ => False) w0 w
 ev : XeB w be tx bw s.left
 wd : XwB w bw tx inp (min s.read inp.size : Nat) vo vb
 out : w.ownsRow w0.heap.size 5 1 vo s.out.length (Lib.byteCells s.out)
 ob : w.ownsRow w0.heap.size 315 1 vb s.heap.length (ptrCells gs)
 lg : gs.length = s.heap.length
 lf : fv.length = s.heap.length
 obs : ∀ (k : Nat) o g v, s.heap[k]? = some o → gs[k]? = some g → fv[k]? = some v → XoB w g (65 + o.cls) v ∧ w.ownsRow w0.heap.size 168 2 v o.fs.length (xvalCells o.fs)
 nd : ∀ (j k : Nat) g, gs[j]? = some g → gs[k]? = some g → j = k
 lb : w.heap[bl]? = some (.cells #[lv] 280)
 lo : w.ownsRow w0.heap.size 168 2 lv l.length (xvalCells l)
 own : ∀ k, OwnQ be bw bl vo vb lv gs fv k → w0.heap.size ≤ k ∧ ¬ P k
 pl : ∀ k, P k → k < w.heap.size ∧ ∀ c fz, w.heap[k]? ≠ some (.cells c 5 fz)
 sl : ∀ v ∈ fv, ∀ g, v.ownBlock = some g → lv.ownBlock ≠ some g
 sf : ∀ (j k : Nat) v v' g, fv[j]? = some v → fv[k]? = some v' → v.ownBlock = some g → v'.ownBlock = some g → j = k
section
variable {P : Nat → Prop} {w0 w w' : World} {be bw tx bl : Nat} {inp : ByteArray} {s : Ev} {lv vo vb : Value} {l : List V} {gs : List Nat} {fv : List Value}
theorem StQ.k1 (h : StQ P w0 w be bw tx inp s bl lv l vo vb gs fv) : w0.heap.size ≤ be ∧ ¬ P be := h.own be (Or.inl rfl)
theorem StQ.k2 (h : StQ P w0 w be bw tx inp s bl lv l vo vb gs fv) : w0.heap.size ≤ bw ∧ ¬ P bw := h.own bw (Or.inr (Or.inl rfl))
theorem StQ.k3 (h : StQ P w0 w be bw tx inp s bl lv l vo vb gs fv) : w0.heap.size ≤ bl ∧ ¬ P bl := h.own bl (Or.inr (Or.inr (Or.inl rfl)))
theorem StQ.k4 (h : StQ P w0 w be bw tx inp s bl lv l vo vb gs fv) {g : Nat} (hg : vo.ownBlock = some g) : w0.heap.size ≤ g ∧ ¬ P g := h.own g (Or.inr (Or.inr (Or.inr (Or.inl hg))))
theorem StQ.k5 (h : StQ P w0 w be bw tx inp s bl lv l vo vb gs fv) {g : Nat} (hg : vb.ownBlock = some g) : w0.heap.size ≤ g ∧ ¬ P g := h.own g (Or.inr (Or.inr (Or.inr (Or.inr (Or.inl hg)))))
theorem StQ.k6 (h : StQ P w0 w be bw tx inp s bl lv l vo vb gs fv) {g : Nat} (hg : lv.ownBlock = some g) : w0.heap.size ≤ g ∧ ¬ P g := h.own g (Or.inr (Or.inr (Or.inr (Or.inr (Or.inr (Or.inl hg))))))
theorem StQ.k7 (h : StQ P w0 w be bw tx inp s bl lv l vo vb gs fv) {g : Nat} (hg : g ∈ gs) : w0.heap.size ≤ g ∧ ¬ P g := h.own g (Or.inr (Or.inr (Or.inr (Or.inr (Or.inr (Or.inr (Or.inl hg)))))))
theorem StQ.k8 (h : StQ P w0 w be bw tx inp s bl lv l vo vb gs fv) {v : Value} {g : Nat} (hv : v ∈ fv) (hg : v.ownBlock = some g) : w0.heap.size ≤ g ∧ ¬ P g := h.own g (Or.inr (Or.inr (Or.inr (Or.inr (Or.inr (Or.inr (Or.inr ⟨v, hv, hg⟩)))))))
theorem StQ.obj (h : StQ P w0 w be bw tx inp s bl lv l vo vb gs fv) {k : Nat} (hk : k < s.heap.length) : ∃ (o : Ob) (g : Nat) (v : Value), s.heap[k]? = some o ∧ gs[k]? = some g ∧ fv[k]? = some v ∧ XoB w g (65 + o.cls) v ∧ w.ownsRow w0.heap.size 168 2 v o.fs.length (xvalCells o.fs) := by
 have h1 := List.getElem?_eq_getElem hk
 have h2 := List.getElem?_eq_getElem (show k < gs.length by rw [h.lg]; exact hk)
 have h3 := List.getElem?_eq_getElem (show k < fv.length by rw [h.lf]; exact hk)
 exact ⟨_, _, _, h1, h2, h3, (h.obs k _ _ _ h1 h2 h3).1, (h.obs k _ _ _ h1 h2 h3).2⟩
theorem StQ.mg (h : StQ P w0 w be bw tx inp s bl lv l vo vb gs fv) {g : Nat} (hg : g ∈ gs) : ∃ (c : Nat) (v : Value), XoB w g c v := by
 obtain ⟨k, hk, rfl⟩ := List.getElem_of_mem hg
 obtain ⟨o, g', v, _, h2, _, h4, _⟩ := h.obj (by rw [← h.lg]; exact hk)
 rw [List.getElem?_eq_getElem hk] at h2
 cases h2
 exact ⟨_, _, h4⟩
theorem StQ.mv (h : StQ P w0 w be bw tx inp s bl lv l vo vb gs fv) {v : Value} (hv : v ∈ fv) : ∃ (n : Nat) (xs : List Value), w.ownsRow w0.heap.size 168 2 v n xs := by
 obtain ⟨k, hk, rfl⟩ := List.getElem_of_mem hv
 obtain ⟨o, g', v, _, _, h3, _, h5⟩ := h.obj (by rw [← h.lf]; exact hk)
 rw [List.getElem?_eq_getElem hk] at h3
 cases h3
 exact ⟨_, _, h5⟩
theorem StQ.lt (h : StQ P w0 w be bw tx inp s bl lv l vo vb gs fv) {k : Nat} (hk : OwnQ be bw bl vo vb lv gs fv k) : k < w.heap.size := by
 rcases hk with rfl | rfl | rfl | hk | hk | hk | hk | ⟨v, hv, hk⟩
 ·exact h.ev.lt
 ·exact h.wd.lt
 ·exact lt_of_block h.lb
 ·exact owns_lt h.out k hk
 ·exact owns_lt h.ob k hk
 ·exact owns_lt h.lo k hk
 ·obtain ⟨c, v, ho⟩ := h.mg hk; exact lt_of_block ho
 ·obtain ⟨n, xs, ho⟩ := h.mv hv; exact owns_lt ho k hk
theorem StQ.but {F : Nat → Prop} (h : StQ P w0 w be bw tx inp s bl lv l vo vb gs fv) (hB : But F w w') (h0 : ∀ k, F k → w0.heap.size ≤ k) (h1 : ∀ k, OwnQ be bw bl vo vb lv gs fv k → ¬ F k) (hp : ∀ k, P k → ¬ F k) : StQ P w0 w' be bw tx inp s bl lv l vo vb gs fv := by
 refine ⟨h.old.next hB (fun k hk hf => by have := h0 k hf; omega), h.ev.but hB (h1 _ (Or.inl rfl)), h.wd.but hB (h1 _ (Or.inr (Or.inl rfl))), owns_but h.out hB (fun g hg => h1 g (Or.inr (Or.inr (Or.inr (Or.inl hg))))), owns_but h.ob hB (fun g hg => h1 g (Or.inr (Or.inr (Or.inr (Or.inr (Or.inl hg)))))), h.lg, h.lf, fun k o g v a b c => ?_, h.nd, (hB.block bl (lt_of_block h.lb) (h1 _ (Or.inr (Or.inr (Or.inl rfl))))).trans h.lb, owns_but h.lo hB (fun g hg => h1 g (Or.inr (Or.inr (Or.inr (Or.inr (Or.inr (Or.inl hg))))))), h.own, fun k hk => ?_, h.sl, h.sf⟩
 ·obtain ⟨x, y⟩ := h.obs k o g v a b c
  exact ⟨(hB.block g (lt_of_block x) (h1 g (Or.inr (Or.inr (Or.inr (Or.inr (Or.inr (Or.inr (Or.inl (List.mem_of_getElem? b)))))))))).trans x, owns_but y hB (fun q hq => h1 q (Or.inr (Or.inr (Or.inr (Or.inr (Or.inr (Or.inr (Or.inr ⟨v, List.mem_of_getElem? c, hq⟩))))))))⟩
 ·obtain ⟨a, b⟩ := h.pl k hk
  refine ⟨Nat.lt_of_lt_of_le a hB.size, fun c fz e => ?_⟩
  rw [hB.block k a (hp k hk)] at e
  exact b c fz e
theorem StQ.new (h : StQ P w0 w be bw tx inp s bl lv l vo vb gs fv) (hB : But (fun _ => False) w w') : StQ P w0 w' be bw tx inp s bl lv l vo vb gs fv := h.but hB (fun _ h => h.elim) (fun _ _ h => h) (fun _ _ h => h)
theorem StQ.grow (h : StQ P w0 w be bw tx inp s bl lv l vo vb gs fv) (hB : But (fun _ => False) w w') (ht : ∀ k, w.heap.size ≤ k → k < w'.heap.size → ∀ c fz, w'.heap[k]? ≠ some (.cells c 5 fz)) : StQ (fun k => P k ∨ (w.heap.size ≤ k ∧ k < w'.heap.size)) w0 w' be bw tx inp s bl lv l vo vb gs fv := by
 have h1 := h.new hB
 refine ⟨h1.old, h1.ev, h1.wd, h1.out, h1.ob, h1.lg, h1.lf, h1.obs, h1.nd, h1.lb, h1.lo, fun k hk => ⟨(h1.own k hk).1, fun hp => ?_⟩, fun k hk => ?_, h1.sl, h1.sf⟩
 ·rcases hp with hp | hp
  ·exact (h1.own k hk).2 hp
  ·have := h.lt hk; omega
 ·rcases hk with hk | hk
  ·exact h1.pl k hk
  ·exact ⟨hk.2, ht k hk.1 hk.2⟩
theorem StQ.less {Q : Nat → Prop} (h : StQ P w0 w be bw tx inp s bl lv l vo vb gs fv) (hs : ∀ k, Q k → P k) : StQ Q w0 w be bw tx inp s bl lv l vo vb gs fv :=
 ⟨h.old, h.ev, h.wd, h.out, h.ob, h.lg, h.lf, h.obs, h.nd, h.lb, h.lo, fun k hk => ⟨(h.own k hk).1, fun hp => (h.own k hk).2 (hs k hp)⟩, fun k hk => h.pl k (hs k hk), h.sl, h.sf⟩
end
end Go.Proofs.YtpfkkmacakjmbaaGreatDoor
