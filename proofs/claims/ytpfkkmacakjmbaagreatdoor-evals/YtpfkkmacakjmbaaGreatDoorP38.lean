import Derived.Test.YtpfkkmacakjmbaaGreatDoorP37
set_option maxRecDepth 100000
set_option maxHeartbeats 6400000
namespace Go.Proofs.YtpfkkmacakjmbaaGreatDoor
open Go Go.RowKit Sp
set_option linter.unusedSimpArgs false
set_option linter.unusedVariables false
attribute [local go_sem ↓] Go.wp_at_zero Go.wp_at_succ
theorem info_val : (Tryz.prog.info? 168).map (fun i => (i.zero, i.size, i.bytes)) = some (some (.agg #[.int .i32 0, .int .i64 0]), 2, 16) := by kernel_rfl
def zeroV (n : Nat) : List Value := (List.replicate n [Value.int .i32 0, .int .i64 0]).flatten
theorem made_val (n : Nat) : madeCells #[.int .i32 0, .int .i64 0] (n * 2) = (zeroV n).toArray := by
 apply Array.ext
 ·rw [size_madeCells]; simp [zeroV]
 ·intro k h1 h2
  rw [size_madeCells] at h1
  have hk : k < n * 2 := by simpa using h1
  have key : ∀ (n k : Nat), k < n * 2 → (zeroV n)[k]? = some (if k % 2 = 0 then Value.int .i32 0 else .int .i64 0) := by
   intro n
   induction n with
   | zero => intro k h; omega
   | succ n ih =>
    intro k h
    match k, h with
    | 0, _ => simp [zeroV, List.replicate_succ]
    | 1, _ => simp [zeroV, List.replicate_succ]
    | k + 2, h =>
     have := ih k (by omega)
     simp only [zeroV, List.replicate_succ, List.flatten_cons, List.cons_append, List.nil_append, List.getElem?_cons_succ] at this ⊢
     rw [this]
     simp [Nat.add_mod]
  have := key n k hk
  have h2' : (zeroV n)[k]? = some ((zeroV n).toArray[k]) := by simp
  rw [h2'] at this
  have e := Option.some.inj this
  rw [e]
  rcases Nat.mod_two_eq_zero_or_one k with hm | hm <;> simp [madeCells, hm]
theorem make_val (n : Nat) (hn : n ≤ 1000) (w : World) : (Instr.makeSlice 213 (.int .i64 (n : Int)) (.int .i64 (n : Int))).run Tryz.prog w = .ok (.slice (some ⟨w.heap.size, 0, none⟩) n n) (w.alloc (.cells (zeroV n).toArray 168)) := by
 have hinf := info_val
 cases hi : Tryz.prog.info? 168 with
 | none => rw [hi] at hinf; cases hinf
 | some i =>
  rw [hi] at hinf
  simp only [Option.map_some, Option.some.injEq, Prod.mk.injEq] at hinf
  obtain ⟨hz, hs, hb⟩ := hinf
  have := run_make (P := Tryz.prog) w 213 168 i _ (by kernel_rfl) hi hz .i64 .i64 n n (by omega) (by omega) (by rw [hb]; omega) (by omega)
  rw [this, hs]
  simp only [Int.toNat_natCast, Value.cells]
  rw [made_val]
theorem zero_plain (ts : List UInt8) : zeroV ts.length = xvalCells (ts.map plainV) := by
 induction ts with
 | nil => rfl
 | cons t ts ih =>
  obtain ⟨h1, h2⟩ := xplain t
  simp only [zeroV, xvalCells] at ih
  simp [zeroV, List.replicate_succ, xvalCells, xCells, h1, h2, ih]
theorem made_row {w : World} {g base : Nat} {ts : List UInt8} (hb : base ≤ g) (hg : w.heap[g]? = some (.cells (zeroV ts.length).toArray 168)) (hl : ts.length ≤ 1000) : w.ownsRow base 168 2 (.slice (some ⟨g, 0, none⟩) ts.length ts.length) ts.length (xvalCells (ts.map plainV)) := by
 have hz := zero_plain ts
 have hn : (zeroV ts.length).length = ts.length * 2 := by rw [hz, xvalCells_len]; simp
 refine ⟨by rw [xvalCells_len]; simp, Or.inr ⟨g, ts.length, (zeroV ts.length).toArray, rfl, hb, hg, Nat.le_refl _, by unfold maxLen; omega, by simpa using hn, ?_⟩⟩
 rw [← hz]
 simp only
 rw [List.take_of_length_le (by omega)]
section
variable {P : Nat → Prop} {w0 w : World} {be bw tx bl : Nat} {inp : ByteArray} {s : Ev} {lv vo vb : Value} {l : List V} {gs : List Nat} {fv : List Value}
theorem StQ.res {X : World} (h : StQ P w0 w be bw tx inp s bl lv l vo vb gs fv) (hB : But (fun _ => False) w X) {r : Nat} (hr : w.heap.size ≤ r) (a b : Value) : StQ P w0 ((X.setCell ⟨r, 0, none⟩ a).setCell ⟨r, 1, none⟩ b) be bw tx inp s bl lv l vo vb gs fv :=
 (h.new hB).but (but_put X r a b) (fun k e => by have e : k = r := e; have := h.old.size; omega) (fun k hk e => by have e : k = r := e; have := h.lt hk; omega) (fun k hk e => by have e : k = r := e; have := (h.pl k hk).1; omega)
theorem nextByte_any (h : StQ P w0 w be bw tx inp s bl lv l vo vb gs fv) (h40 : inp.size ≤ 40) :
  Calls Tryz.prog 232 #[.pointer (some ⟨bw, 0, none⟩)] w fun en w' => But (FrQ P w0) w w' ∧ en = .returned (xAgg (.i (nextV inp s.read))) ∧ StQ P w0 w' be bw tx inp { s with read := s.read + 1 } bl lv l vo vb gs fv := by
 unfold xAgg
 simp only [xN, xO]
 have hbl := h.wd.lt
 have c1 := h.wd.c1
 have c2 := h.wd.c2
 have z2 := h.wd.fz 2
 by_cases hr : s.read < inp.size
 ·have e : min s.read inp.size = s.read := by omega
  rw [e] at c2
  have d1 : decide ((s.read : Int) < 0) = false := decide_eq_false (by omega)
  have d2 : decide ((inp.size : Int) ≤ (s.read : Int)) = false := decide_eq_false (by omega)
  have hI : (s.read : Int) < (inp.size : Int) := by omega
  have hNV : nextV inp s.read = (inp[s.read].toNat : Int) := by unfold nextV; rw [dif_pos hr]
  rw [hNV]
  have HS := hid h
  have HH := hid h
  have hlt := inp[s.read].toNat_lt
  have hk2 := h.k2
  clear e hNV h
  go_enter Tryz.func232, Tryz.ntmps232
  go_wp2_with fail
  go_quiet (fail)
  go_wp2_with fail
  have hBX : But (fun _ => False) w ((w.alloc (.cells #[.int .i32 0, .int .i64 0] 168)).drewN nq) := (But.alloc _ _ _).trans (But.drewN _ _ _)
  have hr1 : ResX ((w.alloc (.cells #[.int .i32 0, .int .i64 0] 168)).drewN nq) w.heap.size := ⟨0, 0, heap_alloc_new _ _⟩
  revert hBX hr1
  generalize ((w.alloc (.cells #[.int .i32 0, .int .i64 0] 168)).drewN nq) = X
  intro hBX hr1
  have e1 := (hBX.cell (p := ⟨bw, 1, none⟩) hbl (fun h => h)).trans c1
  have e2 := (hBX.cell (p := ⟨bw, 2, none⟩) hbl (fun h => h)).trans c2
  have e3 := (hBX.frozen (p := ⟨bw, 2, none⟩) hbl (fun h => h)).trans z2
  have hblX := Nat.lt_of_lt_of_le hbl hBX.size
  clear nq
  go_quiet (fail)
  have hBY := hBX.trans (But.drewN (fun _ => False) X nq)
  have hr2 := hr1.but (But.drewN (fun _ => False) X nq) (fun h => h)
  have HS2 := hid ((HS.out.new hBY).readd (n := s.read + 1) (by omega))
  have q2 := (hBY.cell (p := ⟨bw, 2, none⟩) hbl (fun h => h)).trans c2
  have q3 := (hBY.frozen (p := ⟨bw, 2, none⟩) hbl (fun h => h)).trans z2
  clear e1 e2 e3 hr1 HS
  revert hBY hr2 HS2 q2 q3
  generalize X.drewN nq = Y
  intro hBY hr2 HS2 q2 q3
  have hblY := Nat.lt_of_lt_of_le hbl hBY.size
  obtain ⟨K9, N9, r0, r1, f0, f1, hrl⟩ := hr2.parts
  have hne : ¬ bw = w.heap.size := by omega
  have HS3 := HS2.out
  rw [show ((s.read + 1 : Nat) : Int) = (s.read : Int) + 1 from by simp] at HS3
  go_wp2_with fail
  have hBZ : But (FrQ P w0) w (Y.setCell ⟨bw, 2, none⟩ (.int .i64 ((s.read : Int) + 1))) := (hBY.mono (fun _ _ h => h.elim)).trans (But.setCell Y (a := ⟨bw, 2, none⟩) (F := FrQ P w0) hk2 _)
  exact retX1 Tryz.results232 rfl rfl ((hr2.but (But.setB _ _ _ _) (fun e => hne e.symm)).put _ _) ⟨hBZ.next (but_put _ _ _ _) (fun k hk e => by have e : k = w.heap.size := e; omega), rfl,
   HS3.but (but_put _ _ _ _) (fun k e => by have e : k = w.heap.size := e; have := HH.out.old.size; omega) (fun k hk e => by have e : k = w.heap.size := e; have := HH.out.lt hk; omega) (fun k hk e => by have e : k = w.heap.size := e; have := (HH.out.pl k hk).1; omega)⟩
 ·have e : min s.read inp.size = inp.size := by omega
  rw [e] at c2
  have d1 : decide ((inp.size : Int) < 0) = false := decide_eq_false (by omega)
  have d2 : decide ((inp.size : Int) ≤ (inp.size : Int)) = true := decide_eq_true (by omega)
  have hNV : nextV inp s.read = -1 := by unfold nextV; rw [dif_neg hr]
  rw [hNV]
  have HS := hid (h.unread (by omega))
  clear e hNV h
  go_enter Tryz.func232, Tryz.ntmps232
  go_wp2_with fail
  go_quiet (fail)
  go_wp2_with fail
  have hBX : But (fun _ => False) w ((w.alloc (.cells #[.int .i32 0, .int .i64 0] 168)).drewN nq) := (But.alloc _ _ _).trans (But.drewN _ _ _)
  have hr1 : ResX ((w.alloc (.cells #[.int .i32 0, .int .i64 0] 168)).drewN nq) w.heap.size := ⟨0, 0, heap_alloc_new _ _⟩
  exact retX1 Tryz.results232 rfl rfl (hr1.put _ _) ⟨(hBX.mono (fun _ _ h => h.elim)).next (but_put _ _ _ _) (fun k hk e => by have e : k = w.heap.size := e; omega), rfl, HS.out.res hBX (Nat.le_refl _) _ _⟩
theorem newLocals_any (b : UInt8) (m : Int) (a : UInt8) (lo : List UInt8) (al : Option Addr) (capl : Nat) (ai : Option Addr) (ni ci : Nat) (w : World) (hl : lo.length ≤ 5) :
  Calls Tryz.prog 138 #[.agg #[.int .u8 b.toNat, .int .i64 m, .int .u8 a.toNat, .slice al lo.length capl, .slice ai ni ci]] w fun en w' => ∃ (bl : Nat) (lv : Value), en = .returned (.pointer (some ⟨bl, 0, none⟩)) ∧ But (fun _ => False) w w' ∧ w'.heap[bl]? = some (.cells #[lv] 280) ∧ w'.ownsRow w.heap.size 168 2 lv lo.length (xvalCells (lo.map plainV)) ∧ w.heap.size ≤ bl := by
 have hmk := make_val lo.length (by omega)
 go_enter Tryz.func138, Tryz.ntmps138
 go_wp2_with fail
 go_ret
 refine ⟨w.heap.size + 1 + 1, .slice (some ⟨w.heap.size + 1, 0, none⟩) lo.length lo.length, rfl, ((But.alloc _ _ _).trans (But.alloc _ _ _)).trans (But.alloc _ _ _), heap_alloc_at (by simp) _, ?_, by omega⟩
 refine made_row (by omega) (((But.alloc (fun _ => False) _ _).block _ (by simp) (fun h => h)).trans (heap_alloc_at (by simp) _)) (by omega)
end
theorem ptrInfo : (Tryz.prog.info? 315).map (fun i => (i.zero, i.size, i.bytes)) = some (some (.pointer none), 1, 8) := by kernel_rfl
section
variable {P : Nat → Prop} {w0 w : World} {be bw tx bl : Nat} {inp : ByteArray} {s : Ev} {lv vo vb : Value} {l : List V} {gs : List Nat} {fv : List Value}
theorem snoc_at {α : Type} {xs : List α} {x u : α} {i : Nat} (h : (xs ++ [x])[i]? = some u) : (i < xs.length ∧ xs[i]? = some u) ∨ (i = xs.length ∧ u = x) := by
 rcases Nat.lt_or_ge i xs.length with hl | hl
 ·rw [List.getElem?_append_left hl] at h; exact Or.inl ⟨hl, h⟩
 ·rw [List.getElem?_append_right hl] at h
  cases hq : i - xs.length with
  | zero => rw [hq] at h; cases h; exact Or.inr ⟨by omega, rfl⟩
  | succ q => rw [hq] at h; simp at h
theorem StQ.newOb {w2 : World} {gq base : Nat} {vf vb' : Value} {o : Ob} (h : StQ P w0 w be bw tx inp s bl lv l vo vb gs fv) (ho : XoB w gq (65 + o.cls) vf) (hf : w.ownsRow base 168 2 vf o.fs.length (xvalCells o.fs)) (hb : w0.heap.size ≤ base)
  (hq : w0.heap.size ≤ gq ∧ ¬ P gq ∧ gq ∉ gs) (hfn : ∀ g, vf.ownBlock = some g → ¬ P g ∧ lv.ownBlock ≠ some g ∧ ∀ v ∈ fv, v.ownBlock ≠ some g) (hB : But (fun k => vb.ownBlock = some k) w w2) (hown : w2.ownsRow w0.heap.size 315 1 vb' (s.heap.length + 1) (ptrCells gs ++ [.pointer (some ⟨gq, 0, none⟩)])) (hP : ∀ g, vb'.ownBlock = some g → ¬ P g) :
  StQ P w0 (w2.setCell ⟨bw, 4, none⟩ vb') be bw tx inp { s with heap := s.heap ++ [o] } bl lv l vo vb' (gs ++ [gq]) (fv ++ [vf]) := by
 have hS : But (· = bw) w2 (w2.setCell ⟨bw, 4, none⟩ vb') := But.setB _ _ _ _
 have hkw : XwB w2 bw tx inp (min s.read inp.size : Nat) vo vb := h.wd.but hB (owns_offE h.ob h.wd (by decide))
 have row : ∀ {v : Value} {t b n z : Nat} {xs : List Value}, t ≠ 315 → t ≠ 211 → w.ownsRow b t z v n xs → (w2.setCell ⟨bw, 4, none⟩ vb').ownsRow b t z v n xs := fun h1 h2 hr => owns_but (owns_but hr hB (fun g hg => owns_apartE hr h.ob h1 hg)) hS (fun g hg e => owns_offE hr h.wd h2 (e ▸ hg))
 have blk : ∀ {k t : Nat} {c : Array Value} {fr : Nat × Nat}, t ≠ 315 → t ≠ 211 → w.heap[k]? = some (.cells c t fr) → (w2.setCell ⟨bw, 4, none⟩ vb').heap[k]? = some (.cells c t fr) := fun h1 h2 hk => by
  have e1 := (hB.block _ (lt_of_block hk) (fun hv => owns_offE h.ob hk (Ne.symm h1) hv)).trans hk
  exact (hS.block _ (lt_of_block e1) (off_type hk h.wd (Ne.symm h2))).trans e1
 refine ⟨(h.old.next hB (fun k hk hv => by have := (h.k5 hv).1; omega)).next hS (fun k hk e => by have e : k = bw := e; have := h.k2.1; omega), blk (by decide) (by decide) h.ev, hkw.set4 vb', row (by decide) (by decide) h.out, ?_, by simp [h.lg], by simp [h.lf], ?_, ?_, blk (by decide) (by decide) h.lb, row (by decide) (by decide) h.lo, ?_, ?_, ?_, ?_⟩
 ·rw [List.length_append, show ptrCells (gs ++ [gq]) = ptrCells gs ++ [.pointer (some ⟨gq, 0, none⟩)] from by simp [ptrCells]]
  exact owns_but hown hS (fun g hg e => owns_offE hown hkw (by decide) (e ▸ hg))
 ·intro k o' g v hk hg hv
  rcases snoc_at hk with ⟨h1, h2⟩ | ⟨h1, rfl⟩
  ·rcases snoc_at hg with ⟨h3, h4⟩ | ⟨h3, _⟩
   ·rcases snoc_at hv with ⟨h5, h6⟩ | ⟨h5, _⟩
    ·obtain ⟨x, y⟩ := h.obs k o' g v h2 h4 h6
     exact ⟨blk (by decide) (by decide) x, row (by decide) (by decide) y⟩
    ·rw [h.lf] at h5; omega
   ·rw [h.lg] at h3; omega
  ·rcases snoc_at hg with ⟨h3, _⟩ | ⟨_, rfl⟩
   ·rw [h.lg] at h3; omega
   ·rcases snoc_at hv with ⟨h5, _⟩ | ⟨_, rfl⟩
    ·rw [h.lf] at h5; omega
    ·exact ⟨blk (by decide) (by decide) ho, owns_mono (row (by decide) (by decide) hf) hb⟩
 ·intro j k g hj hk
  rcases snoc_at hj with ⟨h1, h2⟩ | ⟨h1, rfl⟩
  ·rcases snoc_at hk with ⟨h3, h4⟩ | ⟨h3, rfl⟩
   ·exact h.nd j k g h2 h4
   ·exact absurd (List.mem_of_getElem? h2) hq.2.2
  ·rcases snoc_at hk with ⟨h3, h4⟩ | ⟨h3, _⟩
   ·exact absurd (List.mem_of_getElem? h4) hq.2.2
   ·omega
 ·intro k hk
  rcases hk with rfl | rfl | rfl | hk | hk | hk | hk | ⟨v, hv, hk⟩
  ·exact h.k1
  ·exact h.k2
  ·exact h.k3
  ·exact h.k4 hk
  ·exact ⟨owns_ge hown k hk, hP k hk⟩
  ·exact h.k6 hk
  ·rcases List.mem_append.1 hk with hk | hk
   ·exact h.k7 hk
   ·rw [List.mem_singleton] at hk; subst hk; exact ⟨hq.1, hq.2.1⟩
  ·rcases List.mem_append.1 hv with hv | hv
   ·exact h.k8 hv hk
   ·rw [List.mem_singleton] at hv; subst hv; exact ⟨Nat.le_trans hb (owns_ge hf k hk), (hfn k hk).1⟩
 ·intro k hk
  obtain ⟨a, b⟩ := h.pl k hk
  have e1 := hB.block k a (fun hv => (h.k5 hv).2 hk)
  have e2 := hS.block k (Nat.lt_of_lt_of_le a hB.size) (fun e => h.k2.2 (e ▸ hk))
  refine ⟨by rw [size_setCell]; exact Nat.lt_of_lt_of_le a hB.size, fun c fz e => ?_⟩
  rw [e2, e1] at e
  exact b c fz e
 ·intro v hv g hg
  rcases List.mem_append.1 hv with hv | hv
  ·exact h.sl v hv g hg
  ·rw [List.mem_singleton] at hv; subst hv; exact (hfn g hg).2.1
 ·intro j k v v' g hj hk hg hg'
  rcases snoc_at hj with ⟨h1, h2⟩ | ⟨h1, rfl⟩
  ·rcases snoc_at hk with ⟨h3, h4⟩ | ⟨h3, rfl⟩
   ·exact h.sf j k v v' g h2 h4 hg hg'
   ·exact absurd hg ((hfn g hg').2.2 v (List.mem_of_getElem? h2))
  ·rcases snoc_at hk with ⟨h3, h4⟩ | ⟨h3, rfl⟩
   ·exact absurd hg' ((hfn g hg).2.2 v' (List.mem_of_getElem? h4))
   ·omega
theorem newObject_any (h : StQ P w0 w be bw tx inp s bl lv l vo vb gs fv) (h4 : s.heap.length ≤ 4000) (cs : List XCls) (hn : cs.length ≤ 100) (hT : TxC w0 tx cs) (c : UInt8) (o : Ob) (hc : c.toNat = 65 + o.cls) (ts : List UInt8) (hts : fldsX cs c = ts) (ht5 : ts.length ≤ 100) (hof : o.fs = ts.map plainV) :
  Calls Tryz.prog 236 #[.pointer (some ⟨bw, 0, none⟩), .int .u8 c.toNat] w fun en w' => But (FrQ P w0) w w' ∧ en = .returned (xAgg (.o s.heap.length)) ∧ ∃ vb' gs' fv', StQ P w0 w' be bw tx inp { s with heap := s.heap ++ [o] } bl lv l vo vb' gs' fv' := by
 have HF := hid (fun X (hX : But (fun _ => False) w X) => xfc_any tx cs c X hn (hT.but (h.old.trans hX)))
 rw [hts] at HF
 have hmk := make_val ts.length (by omega)
 have c0 := h.wd.c0
 have hbl := h.wd.lt
 obtain ⟨ab, capb, rfl⟩ := owns_len h.ob
 have c4 := h.wd.c4
 have z4 := h.wd.fz 4
 have hOb := h.ob
 have h0w := h.old.size
 have HH := hid h
 have HC := hid hc
 have HO := hid hof
 clear h hc hts hof
 have hgA : bw < w.heap.size + 1 := by omega
 have hgB : bw < w.heap.size + 1 + 1 := by omega
 have hgC : bw < w.heap.size + 1 + 1 + 1 := by omega
 obtain ⟨i0, hi0, hz0, hz1, hz2⟩ := info_parts ptrInfo
 obtain ⟨W, hWW⟩ : ∃ W, ((w.alloc (.cells #[.int .i32 0, .int .i64 0] 168)).alloc (.cells (zeroV ts.length).toArray 168)).alloc (.cells #[.int .u8 c.toNat, .slice (some ⟨w.heap.size + 1, 0, none⟩) ts.length ts.length, .int .i64 0] 318) = W := ⟨_, rfl⟩
 have hBW : But (fun _ => False) w W := by rw [← hWW]; exact ((But.alloc _ _ _).trans (But.alloc _ _ _)).trans (But.alloc _ _ _)
 have hsW : W.heap.size = w.heap.size + 1 + 1 + 1 := by rw [← hWW]; simp
 have hgR : ResX W w.heap.size := by rw [← hWW]; exact ⟨0, 0, (((But.alloc (fun _ => False) _ _).trans (But.alloc _ _ _)).block _ (by simp) (fun h => h)).trans (heap_alloc_new w _)⟩
 have hgF : W.heap[w.heap.size + 1]? = some (.cells (zeroV ts.length).toArray 168) := by rw [← hWW]; exact ((But.alloc (fun _ => False) _ _).block _ (by simp) (fun h => h)).trans (heap_alloc_at (by simp) _)
 have hgO : W.heap[w.heap.size + 1 + 1]? = some (.cells #[.int .u8 c.toNat, .slice (some ⟨w.heap.size + 1, 0, none⟩) ts.length ts.length, .int .i64 0] 318) := by rw [← hWW]; exact heap_alloc_at (by simp) _
 have HWW := hid hWW
 clear hWW
 have hOW := owns_but hOb hBW (fun _ _ h => h)
 go_enter Tryz.func236, Tryz.ntmps236
 go_wp2_with fail
 refine (HF.out _ (But.alloc _ _ _)).mono ?_
 rintro en w1 ⟨rfl, hw1⟩
 rw [hw1]
 clear hw1 w1
 go_wp2_with (at_builtin; rw [HWW.out]; refine wpList_append_lies _ rfl _ _ _ rfl w0.heap.size 315 i0 _ 1 8 (by kernel_rfl) hi0 hz0 hz1 hz2 rfl (by omega) _ s.heap.length (ptrCells gs) rfl (owns_but hOW (But.alloc (fun _ => False) _ _) (fun _ _ h => h)) ⟨w.heap.size + 1 + 1 + 1, 0, none⟩ 1 1 [.pointer (some ⟨w.heap.size + 1 + 1, 0, none⟩)] rfl rfl (World.news_of_block (cs := #[.pointer (some ⟨w.heap.size + 1 + 1, 0, none⟩)]) (t := 315) (fr := (0, 0)) (heap_alloc_at hsW _)) (by simp [Value.oneCell']) (by omega) (by unfold maxLen; omega) (by omega) (by simp; omega) (w.heap.size + 1 + 1 + 1 + 1) (by simp [hsW]) ?_)
 intro gg cap2 w2 hown2 hgrow hat hlt2
 have hSW : But (fun k => (Value.slice ab s.heap.length capb).ownBlock = some k) W w2 := (But.alloc _ _ _).trans (but_grown hgrow)
 have hnb : (Value.slice ab s.heap.length capb).ownBlock ≠ some bw := owns_offE hOb HH.out.wd (by decide)
 have hbW : bw < W.heap.size := by omega
 have y4 := (hSW.cell (p := ⟨bw, 4, none⟩) hbW hnb).trans ((hBW.cell (p := ⟨bw, 4, none⟩) hbl (fun h => h)).trans c4)
 have y5 := (hSW.frozen (p := ⟨bw, 4, none⟩) hbW hnb).trans ((hBW.frozen (p := ⟨bw, 4, none⟩) hbl (fun h => h)).trans z4)
 have hb2 : bw < w2.heap.size := Nat.lt_of_lt_of_le hbW hSW.size
 have hr2 : ResX w2 w.heap.size := hgR.but hSW (fun hv => by have := owns_lt hOb _ hv; omega)
 have hlo : ∀ k, OwnQ be bw bl vo (.slice ab s.heap.length capb) lv gs fv k → k < w.heap.size := fun k hk => HH.out.lt hk
 have hs3 := (HH.out.new hBW).newOb (o := o) (gq := w.heap.size + 1 + 1) (vf := .slice (some ⟨w.heap.size + 1, 0, none⟩) ts.length ts.length) (vb' := .slice (some ⟨gg, 0, none⟩) (s.heap.length + 1) cap2) (by rw [← HC.out]; exact hgO) (by rw [HO.out, List.length_map]; exact made_row (base := w.heap.size) (by omega) hgF (by omega)) h0w
  ⟨by omega, fun hp => by have := (HH.out.pl _ hp).1; omega, fun hm => by have := hlo _ (Or.inr (Or.inr (Or.inr (Or.inr (Or.inr (Or.inr (Or.inl hm))))))); omega⟩
  (fun g hg => by
   simp only [Value.ownBlock, Option.some.injEq] at hg
   subst hg
   exact ⟨fun hp => by have := (HH.out.pl _ hp).1; omega, fun hl => by have := hlo _ (Or.inr (Or.inr (Or.inr (Or.inr (Or.inr (Or.inl hl)))))); omega, fun v hv hl => by have := hlo _ (Or.inr (Or.inr (Or.inr (Or.inr (Or.inr (Or.inr (Or.inr ⟨v, hv, hl⟩))))))); omega⟩)
  hSW hown2 (fun g hg hp => by
   simp only [Value.ownBlock, Option.some.injEq] at hg
   subst hg
   rcases hat with hat | hat
   ·exact (HH.out.k5 hat).2 hp
   ·have := (HH.out.pl _ hp).1; omega)
 have hB3 : But (FrQ P w0) w (w2.setCell ⟨bw, 4, none⟩ (.slice (some ⟨gg, 0, none⟩) (s.heap.length + 1) cap2)) := ((hBW.mono (fun _ _ h => h.elim)).trans (hSW.mono (fun k _ hv => HH.out.k5 hv))).trans (But.setCell w2 (a := ⟨bw, 4, none⟩) (F := FrQ P w0) HH.out.k2 _)
 have hr3 := hr2.but (But.setB w2 bw 4 (.slice (some ⟨gg, 0, none⟩) (s.heap.length + 1) cap2)) (fun e => by have e : w.heap.size = bw := e; omega)
 have hOO : ∀ k, OwnQ be bw bl vo (.slice (some ⟨gg, 0, none⟩) (s.heap.length + 1) cap2) lv (gs ++ [w.heap.size + 1 + 1]) (fv ++ [.slice (some ⟨w.heap.size + 1, 0, none⟩) ts.length ts.length]) k → k ≠ w.heap.size := by
  intro k hk
  have old : ∀ {k}, OwnQ be bw bl vo (.slice ab s.heap.length capb) lv gs fv k → k ≠ w.heap.size := fun hk => by have := hlo _ hk; omega
  rcases hk with rfl | rfl | rfl | hk | hk | hk | hk | ⟨v, hv, hk⟩
  ·exact old (Or.inl rfl)
  ·exact old (Or.inr (Or.inl rfl))
  ·exact old (Or.inr (Or.inr (Or.inl rfl)))
  ·exact old (Or.inr (Or.inr (Or.inr (Or.inl hk))))
  ·simp only [Value.ownBlock, Option.some.injEq] at hk
   subst hk
   rcases hat with hat | hat
   ·exact old (Or.inr (Or.inr (Or.inr (Or.inr (Or.inl hat)))))
   ·omega
  ·exact old (Or.inr (Or.inr (Or.inr (Or.inr (Or.inr (Or.inl hk))))))
  ·rcases List.mem_append.1 hk with hk | hk
   ·exact old (Or.inr (Or.inr (Or.inr (Or.inr (Or.inr (Or.inr (Or.inl hk)))))))
   ·rw [List.mem_singleton] at hk; omega
  ·rcases List.mem_append.1 hv with hv | hv
   ·exact old (Or.inr (Or.inr (Or.inr (Or.inr (Or.inr (Or.inr (Or.inr ⟨v, hv, hk⟩)))))))
   ·rw [List.mem_singleton] at hv; subst hv; simp only [Value.ownBlock, Option.some.injEq] at hk; omega
 have HPL : Hid (∀ k, P k → k < w.heap.size) := fun k hk => (HH.out.pl k hk).1
 obtain ⟨K9, N9, r0, r1, f0, f1, hrl⟩ := hr2.parts
 have hne : ¬ bw = w.heap.size := by omega
 have hne2 : ¬ w.heap.size = bw := by omega
 clear HF hmk c0 c4 z4 HO HC hgF hgO hgR hOW hOb hown2 hgrow hat HWW hr2 hSW HH
 go_wp2_with fail
 exact retX1 Tryz.results236 rfl rfl (hr3.put _ _) ⟨hB3.next (but_put _ _ _ _) (fun k hk e => by have e : k = w.heap.size := e; omega), rfl, _, _, _,
  hs3.but (but_put _ _ _ _) (fun k e => by have e : k = w.heap.size := e; omega) (fun k hk e => hOO k hk e) (fun k hk e => by have e : k = w.heap.size := e; have := HPL.out k hk; omega)⟩
end
theorem byteInfo : (Tryz.prog.info? 5).map (fun i => (i.zero, i.size, i.bytes)) = some (some (.int .u8 0), 1, 1) := by kernel_rfl
theorem but_below {w w' : World} (h : But (fun _ => False) w w') : Below w.heap.size w w' := h.toBelow (Nat.le_refl _) (fun _ h => h.elim)
section
variable {P : Nat → Prop} {w0 w w' : World} {be bw tx bl : Nat} {inp : ByteArray} {s : Ev} {lv vo vb : Value} {l : List V} {gs : List Nat} {fv : List Value}
structure BytesTurned (w0 w w' : World) : Prop where
 bel : Below w0.heap.size w w'
 kept : ∀ (k : Nat) o, w.heap[k]? = some o → (∀ c fz, o ≠ .cells c 5 fz) → w'.heap[k]? = some o
theorem BytesTurned.frame (h : StQ P w0 w be bw tx inp s bl lv l vo vb gs fv) (ht : BytesTurned w0 w w') : But (FrQ P w0) w w' := by
 refine ⟨ht.bel.os, ht.bel.tape, ht.bel.output, ht.bel.size, fun k hk hf => ?_⟩
 by_cases h0 : k < w0.heap.size
 ·exact ht.bel.block k h0
 ·have hp : P k := Classical.byContradiction fun hp => hf ⟨by omega, hp⟩
  rw [ht.kept k _ (Array.getElem?_eq_getElem hk) (fun c fz e => (h.pl k hp).2 c fz (by rw [Array.getElem?_eq_getElem hk, e])), Array.getElem?_eq_getElem hk]
theorem StQ.say {vo' : Value} {o : List UInt8} (h : StQ P w0 w be bw tx inp s bl lv l vo vb gs fv) (ht : BytesTurned w0 w w') (hrow : w'.ownsRow w0.heap.size 5 1 vo' o.length (Lib.byteCells o)) :
  StQ P w0 (w'.setCell ⟨bw, 3, none⟩ vo') be bw tx inp { s with out := o } bl lv l vo' vb gs fv := by
 have hS : But (· = bw) w' (w'.setCell ⟨bw, 3, none⟩ vo') := But.setB _ _ _ _
 have blk0 : ∀ {k t : Nat} {c : Array Value} {fr : Nat × Nat}, t ≠ 5 → w.heap[k]? = some (.cells c t fr) → w'.heap[k]? = some (.cells c t fr) := fun h1 hk => ht.kept _ _ hk (fun c fz e => by injection e with _ e2; exact h1 e2)
 have hwd : XwB w' bw tx inp (min s.read inp.size : Nat) vo vb := blk0 (by decide) h.wd
 have blk : ∀ {k t : Nat} {c : Array Value} {fr : Nat × Nat}, t ≠ 5 → t ≠ 211 → w.heap[k]? = some (.cells c t fr) → (w'.setCell ⟨bw, 3, none⟩ vo').heap[k]? = some (.cells c t fr) := fun h1 h2 hk => (hS.block _ (lt_of_block (blk0 h1 hk)) (off_type hk h.wd (Ne.symm h2))).trans (blk0 h1 hk)
 have row : ∀ {v : Value} {t b n z : Nat} {xs : List Value}, t ≠ 5 → t ≠ 211 → w.ownsRow b t z v n xs → (w'.setCell ⟨bw, 3, none⟩ vo').ownsRow b t z v n xs := fun h1 h2 hr => by
  refine ⟨hr.1, ?_⟩
  rcases hr.2 with hr2 | ⟨g, cap, cur, hv, hg, hh, r⟩
  ·exact Or.inl hr2
  ·exact Or.inr ⟨g, cap, cur, hv, hg, blk h1 h2 hh, r⟩
 have hbel : But (fun _ => False) w0 w' := ⟨ht.bel.os.trans h.old.os, ht.bel.tape.trans h.old.tape, ht.bel.output.trans h.old.output, Nat.le_trans h.old.size ht.bel.size, fun k hk _ => (ht.bel.block k hk).trans (h.old.block k hk (fun h => h))⟩
 have hnP : ∀ g, vo'.ownBlock = some g → ¬ P g := fun g hg hp => by
  obtain ⟨cur, hc⟩ := owns_type hrow hg
  obtain ⟨a, b⟩ := h.pl g hp
  have e1 := ht.kept g _ (Array.getElem?_eq_getElem a) (fun c fz e => b c fz (by rw [Array.getElem?_eq_getElem a, e]))
  rw [e1] at hc
  exact b cur (0, 0) (by rw [Array.getElem?_eq_getElem a]; exact hc)
 refine ⟨hbel.next hS (fun k hk e => by have e : k = bw := e; have := h.k2.1; omega), blk (by decide) (by decide) h.ev, hwd.set3 vo', owns_but hrow hS (fun g hg e => owns_offE hrow hwd (by decide) (e ▸ hg)), row (by decide) (by decide) h.ob, h.lg, h.lf, fun k o g v a b c => ⟨blk (by decide) (by decide) (h.obs k o g v a b c).1, row (by decide) (by decide) (h.obs k o g v a b c).2⟩, h.nd, blk (by decide) (by decide) h.lb, row (by decide) (by decide) h.lo, fun k hk => ?_, fun k hk => ?_, h.sl, h.sf⟩
 ·rcases hk with rfl | rfl | rfl | hk | hk | hk | hk | ⟨v, hv, hk⟩
  ·exact h.k1
  ·exact h.k2
  ·exact h.k3
  ·exact ⟨owns_ge hrow k hk, hnP k hk⟩
  ·exact h.k5 hk
  ·exact h.k6 hk
  ·exact h.k7 hk
  ·exact h.k8 hv hk
 ·obtain ⟨a, b⟩ := h.pl k hk
  have e1 := ht.kept k _ (Array.getElem?_eq_getElem a) (fun c fz e => b c fz (by rw [Array.getElem?_eq_getElem a, e]))
  have e2 := hS.block k (lt_of_block e1) (fun e => h.k2.2 (e ▸ hk))
  refine ⟨by rw [size_setCell]; exact lt_of_block e1, fun c fz e => ?_⟩
  rw [e2, e1] at e
  exact b c fz (by rw [Array.getElem?_eq_getElem a]; exact e)
theorem BytesTurned.grown {X w2 : World} {v : Value} {n : Nat} {xs : List Value} (h0 : w0.heap.size ≤ X.heap.size) (ho : X.ownsRow w0.heap.size 5 1 v n xs) (hB : But (fun k => v.ownBlock = some k) X w2) : BytesTurned w0 X w2 := by
 refine ⟨⟨hB.os, hB.tape, hB.output, hB.size, fun k hk => ?_⟩, fun k o hk hn => ?_⟩
 ·exact hB.block k (by omega) (fun hv => by have := owns_ge ho k hv; omega)
 ·refine (hB.block k (lt_of_block hk) (fun hv => ?_)).trans hk
  obtain ⟨cur, hc⟩ := owns_type ho hv
  rw [hk] at hc
  cases hc
  exact hn _ _ rfl
theorem putOut_any (h : StQ P w0 w be bw tx inp s bl lv l vo vb gs fv) (ht : TabW w0) (n : Int) (h1 : -2147483648 ≤ n) (h2 : n < 2147483648) (hol : s.out.length ≤ 90000) :
  Calls Tryz.prog 233 #[.pointer (some ⟨bw, 0, none⟩), .int .i32 n] w fun en w' => But (FrQ P w0) w w' ∧ en = .returned (.tuple #[]) ∧ ∃ vo', StQ P w0 w' be bw tx inp (s.say n) bl lv l vo' vb gs fv := by
 have hT : Lib.TabBelow Tryz.prog w0.heap.size w0 "internal/strconv.uint64pow10" .u64 Lib.pow10Tab := Lib.tabBelow_of_tabIs ht
 have hTw := hT.on (but_below h.old)
 have HA := hid (appendInt_any w0.heap.size s.out.length n h1 h2 vo _ w h.out h.old.size (by omega) hTw)
 have c3 := h.wd.c3
 have hbl := h.wd.lt
 have HH := hid h
 obtain ⟨ao, capo, rfl⟩ := owns_len h.out
 clear h hT hTw
 have hil := Lib.itoa_length_le n (by omega) (by omega)
 obtain ⟨D, hD⟩ : ∃ D, Lib.itoa n = D := ⟨_, rfl⟩
 rw [hD] at HA hil
 have HD := hid hD
 clear hD
 go_enter Tryz.func233, Tryz.ntmps233
 go_wp2_with fail
 refine HA.out.mono ?_
 rintro en w1 ⟨v', rfl, hrow, hbel, hkept⟩
 rw [← Lib.byteCells_append, ← List.length_append] at hrow
 have hbt : BytesTurned w0 w w1 := ⟨hbel, fun k o hk hn => hkept k o hk (by simp) hn⟩
 have hs1 := HH.out.say hbt hrow
 have hB1 := BytesTurned.frame HH.out hbt
 obtain ⟨av, capv, rfl⟩ := owns_len hrow
 have hwd1 : XwB w1 bw tx inp (min s.read inp.size : Nat) (.slice ao s.out.length capo) vb := hkept _ _ HH.out.wd (by simp) (fun c fz e => by injection e with _ e2; exact absurd e2 (by decide))
 have e3 := hwd1.c3
 have z3 := hwd1.fz 3
 have m1 := hwd1.lt
 obtain ⟨m, hm⟩ : ∃ m, (s.out ++ D).length = m := ⟨_, rfl⟩
 have hm9 : m ≤ 95000 := by rw [← hm]; simp; omega
 have hO1 := hs1.out
 simp only at hO1
 rw [hm] at hs1 hO1 ⊢
 have HM := hid hm
 have h0W := hs1.old.size
 have hk2 := HH.out.k2
 have HS1 := hid hs1
 clear HA hbel hkept hrow hbt hwd1 hm hs1
 have hsz3 : (w1.setCell ⟨bw, 3, none⟩ (.slice av m capv)).heap.size = w1.heap.size := size_setCell _ _ _
 obtain ⟨i0, hi0, hz0, hz1, hz2⟩ := info_parts byteInfo
 go_wp2_with (at_builtin; refine wpList_append_lies _ rfl _ _ _ rfl w0.heap.size 5 i0 _ 1 1 (by kernel_rfl) hi0 hz0 hz1 hz2 rfl (by omega) _ m (Lib.byteCells (s.out ++ D)) rfl (owns_but hO1 (But.alloc (fun _ => False) _ _) (fun _ _ h => h)) ⟨w1.heap.size, 0, none⟩ 1 1 [.int .u8 32] rfl rfl (World.news_of_block (cs := #[.int .u8 32]) (t := 5) (fr := (0, 0)) (heap_alloc_at hsz3 _)) (by simp [Value.oneCell']) (by omega) (by unfold maxLen; omega) (by omega) (by simp; omega) (w1.heap.size + 1) (by simp [hsz3]) ?_)
 intro gg cap2 w2 hown2 hgrow hat hlt2
 have hSW : But (fun k => (Value.slice av m capv).ownBlock = some k) (w1.setCell ⟨bw, 3, none⟩ (.slice av m capv)) w2 := (But.alloc _ _ _).trans (but_grown hgrow)
 have hbt2 : BytesTurned w0 (w1.setCell ⟨bw, 3, none⟩ (.slice av m capv)) w2 := BytesTurned.grown h0W hO1 hSW
 have hrow2 : w2.ownsRow w0.heap.size 5 1 (.slice (some ⟨gg, 0, none⟩) (m + 1) cap2) (s.out ++ D ++ [32]).length (Lib.byteCells (s.out ++ D ++ [32])) := by
  have e1 : (s.out ++ D ++ [32]).length = m + 1 := by rw [List.length_append, HM.out]; rfl
  rw [e1, Lib.byteCells_append]
  exact hown2
 have hs2 := HS1.out.say hbt2 hrow2
 have hnb := owns_offE hO1 HS1.out.wd (by decide)
 have y3 := (hSW.cell (p := ⟨bw, 3, none⟩) (by rw [hsz3]; exact m1) hnb).trans HS1.out.wd.c3
 have y4 := (hSW.frozen (p := ⟨bw, 3, none⟩) (by rw [hsz3]; exact m1) hnb).trans (HS1.out.wd.fz 3)
 have hb2 : bw < w2.heap.size := Nat.lt_of_lt_of_le (by rw [hsz3]; exact m1) hSW.size
 have hB2 : But (FrQ P w0) w (w2.setCell ⟨bw, 3, none⟩ (.slice (some ⟨gg, 0, none⟩) (m + 1) cap2)) :=
  ((hB1.trans (But.setCell w1 (a := ⟨bw, 3, none⟩) (F := FrQ P w0) hk2 _)).trans (BytesTurned.frame HS1.out hbt2)).trans (But.setCell w2 (a := ⟨bw, 3, none⟩) (F := FrQ P w0) hk2 _)
 have HSY : Hid (s.say n = { s with out := s.out ++ D ++ [32] }) := by show _ = _; simp [Ev.say, HD.out]
 clear hbt2 hrow2 hSW hown2 hgrow hat HS1 hO1 e3 z3 c3 HM HD hB1
 go_wp2_with fail
 go_end0
 exact ⟨hB2, rfl, _, by rw [HSY.out]; exact hs2⟩
end
end Go.Proofs.YtpfkkmacakjmbaaGreatDoor
