import Derived.Test.YtpfkkmacakjmbaaGreatDoorP00
set_option maxRecDepth 100000
set_option maxHeartbeats 6400000
namespace Go.Proofs.YtpfkkmacakjmbaaGreatDoor
open Go
section
variable {P : Program} {ops : Array Oper} {Q : Exit → Act → World → Prop} {S : World → Prop} {p : Nat}
def has (n : Nat) (L : List Nat) : Array Bool := ((List.range n).map fun i => L.contains i).toArray
theorem has_set (n k : Nat) (L : List Nat) : (has n L).setIfInBounds k true = has n (k :: L) := by
 unfold has
 apply Array.ext
 ·simp
 ·intro i h1 h2
  by_cases h : k = i
  ·subst h; simp
  ·rw [Array.getElem_setIfInBounds_ne (by simpa using h1) h]
   have h' : ¬ i = k := fun e => h e.symm
   simp [h']
theorem has_nil (n : Nat) : Array.replicate n false = has n [] := by
 unfold has
 apply Array.ext
 ·simp
 ·intro i h1 h2; simp
def takeOkL (ops : Array Oper) (p : Nat) (L : List Nat) (k : Nat) : Bool :=
 decide (k < p) && Region.noSelect ops && Region.free .any ops (has ops.size L) k && (Region.ready .any ops (has ops.size L)).contains k &&
 (List.range ops.size).all fun j => decide (j < p) || match ops[j]? with
  | some oj => oj.after.any fun e => Region.binds .any e && e.on == k
  | none => true
def wpP (P : Program) (ops : Array Oper) (Q : Exit → Act → World → Prop) (S : World → Prop) (p : Nat) (L : List Nat) (a : Act) (w : World) : Prop :=
 wpTL P ops Q S p (ops.size - L.length) (has ops.size L) a w
theorem wpP_begin {id : Nat} {a : Act} {w : World} (S : World → Prop) (p : Nat) (hm : P.follows .mixedOrders = true) (h : wpP P ops Q S p [] a w.drew) : (Code.region id ops true).wp P Q a w := by
 refine wp_region_any hm (wpAny_of_TL (S := S) (p := p) _ _ _ _ ?_)
 rw [has_nil]
 exact h
theorem wpP_take {k : Nat} {L : List Nat} {o : Oper} {v : Value} {a : Act} {w : World} (ho : ops[k]? = some o) (hl : L.length < ops.size) (hc : takeOkL ops p L k = true)
  (hQ : ∀ c a w, Q (.panic c) (a.put o.dst v) w → Q (.panic c) a w)
  (hw : Region.wanted o (yielded ops a.tmps) = true) (hS : S w) (hy : ∀ w, S w → (execOp a.eval o).run P w = .ok (.value v) w) (h : wpP P ops Q S p (k :: L) (a.put o.dst v) w) : wpP P ops Q S p L a w := by
 unfold takeOkL at hc
 simp only [Bool.and_eq_true, decide_eq_true_eq, List.all_eq_true, List.mem_range] at hc
 obtain ⟨⟨⟨⟨hkp, hns⟩, hfr⟩, hrd⟩, hwt⟩ := hc
 unfold wpP at *
 rw [show ops.size - L.length = (ops.size - (k :: L).length) + 1 from by simp; omega]
 refine wpTL_first ho hkp (Region.noSelect_spec hns) ?_ hQ _ _ a w (Region.free_spec ho hfr) (by simpa using hrd) (Or.inl ⟨hw, hy⟩) hS (by rw [has_set]; exact h)
 intro j oj hj hpj
 have hjs : j < ops.size := (Array.getElem?_eq_some_iff.1 hj).1
 have := hwt j hjs
 rw [hj] at this
 simp only [Bool.or_eq_true, decide_eq_true_eq, Array.any_eq_true, Bool.and_eq_true, beq_iff_eq] at this
 rcases this with h1 | ⟨i, hi, h1, h2⟩
 ·omega
 ·exact ⟨oj.after[i], Array.getElem_mem hi, h1, h2⟩
theorem wpP_step {k : Nat} {L : List Nat} {o : Oper} {a : Act} {w : World} (ho : ops[k]? = some o) (hl : L.length < ops.size) (hr : Region.ready .any ops (has ops.size L) = [k])
  (h : ∀ K' : Act → World → Prop, Go.Shut (∀ a w, (k < p → S w) → wpP P ops Q S p (k :: L) a w → K' a w) → if Region.wanted o (yielded ops a.tmps) = true then Oper.wp P o a w K' Q else K' (a.put o.dst undef) w) : wpP P ops Q S p L a w := by
 unfold wpP
 rw [show ops.size - L.length = (ops.size - (k :: L).length) + 1 from by simp; omega]
 refine ⟨fun h => (by rw [hr] at h; cases h), fun i hi => ?_⟩
 rw [hr] at hi
 simp at hi
 subst hi
 exact wpOp_step ho (fun K' hK => h K' (fun a w hS hW => hK a w ⟨hS, by rw [has_set]; exact hW⟩))
theorem wpP_done {L : List Nat} {a : Act} {w : World} (hl : L.length = ops.size) (hr : Region.ready .any ops (has ops.size L) = []) (h : Q .normal a w) : wpP P ops Q S p L a w := by
 unfold wpP
 rw [hl, Nat.sub_self]
 exact ⟨hr, h⟩
end
end Go.Proofs.YtpfkkmacakjmbaaGreatDoor
