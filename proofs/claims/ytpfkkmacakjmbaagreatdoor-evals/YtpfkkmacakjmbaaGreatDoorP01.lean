import Derived.Test.YtpfkkmacakjmbaaGreatDoorP00
set_option maxRecDepth 100000
set_option maxHeartbeats 6400000
namespace Go.Proofs.YtpfkkmacakjmbaaGreatDoor
open Go
section
variable {P : Program} {ops : Array Oper} {Q : Exit → Act → World → Prop} {S : World → Prop} {p : Nat}
def has (n : Nat) (L : List Nat) : Array Bool := ((List.range n).map fun i => L.contains i).toArray
theorem has_set (n k : Nat) (L : List Nat) : (has n L).setIfInBounds k true = has n (k :: L) := by
 unfold has
 apply Array.ext
 ·simp
 ·intro i h1 h2
  by_cases h : k = i
  ·subst h; simp
  ·rw [Array.getElem_setIfInBounds_ne (by simpa using h1) h]
   have h' : ¬ i = k := fun e => h e.symm
   simp [h']
theorem has_nil (n : Nat) : Array.replicate n false = has n [] := by
 unfold has
 apply Array.ext
 ·simp
 ·intro i h1 h2; simp
def takeOkL (ops : Array Oper) (p : Nat) (L : List Nat) (k : Nat) : Bool :=
 decide (k < p) && Region.noSelect ops && Region.free .any ops (has ops.size L) k && (Region.ready .any ops (has ops.size L)).contains k &&
 (List.range ops.size).all fun j => decide (j < p) || match ops[j]? with
  | some oj => oj.after.any fun e => Region.binds .any e && e.on == k
  | none => true
def wpP (P : Program) (ops : Array Oper) (Q : Exit → Act → World → Prop) (S : World → Prop) (p : Nat) (L : List Nat) (a : Act) (w : World) : Prop :=
 wpTL P ops Q S p (ops.size - L.length) (has ops.size L) a w
theorem wpP_begin {id : Nat} {a : Act} {w : World} (S : World → Prop) (p : Nat) (hm : P.follows .mixedOrders = true) (h : wpP P ops Q S p [] a w.drew) : (Code.region id ops true).wp P Q a w := by
 refine wp_region_any hm (wpAny_of_TL (S := S) (p := p) _ _ _ _ ?_)
 rw [has_nil]
 exact h
theorem wpP_take {k : Nat} {L : List Nat} {o : Oper} {v : Value} {a : Act} {w : World} (ho : ops[k]? = some o) (hl : L.length < ops.size) (hc : takeOkL ops p L k = true)
  (hQ : ∀ c a w, Q (.panic c) (a.put o.dst v) w → Q (.panic c) a w)
  (hw : Region.wanted o (yielded ops a.tmps) = true) (hS : S w) (hy : ∀ w, S w → (execOp a.eval o).run P w = .ok (.value v) w) (h : wpP P ops Q S p (k :: L) (a.put o.dst v) w) : wpP P ops Q S p L a w := by
 unfold takeOkL at hc
 simp only [Bool.and_eq_true, decide_eq_true_eq, List.all_eq_true, List.mem_range] at hc
 obtain ⟨⟨⟨⟨hkp, hns⟩, hfr⟩, hrd⟩, hwt⟩ := hc
 unfold wpP at *
 rw [show ops.size - L.length = (ops.size - (k :: L).length) + 1 from by simp; omega]
 refine wpTL_first ho hkp (Region.noSelect_spec hns) ?_ hQ _ _ a w (Region.free_spec ho hfr) (by simpa using hrd) (Or.inl ⟨hw, hy⟩) hS (by rw [has_set]; exact h)
 intro j oj hj hpj
 have hjs : j < ops.size := (Array.getElem?_eq_some_iff.1 hj).1
 have := hwt j hjs
 rw [hj] at this
 simp only [Bool.or_eq_true, decide_eq_true_eq, Array.any_eq_true, Bool.and_eq_true, beq_iff_eq] at this
 rcases this with h1 | ⟨i, hi, h1, h2⟩
 ·omega
 ·exact ⟨oj.after[i], Array.getElem_mem hi, h1, h2⟩
theorem wpP_step {k : Nat} {L : List Nat} {o : Oper} {a : Act} {w : World} (ho : ops[k]? = some o) (hl : L.length < ops.size) (hr : Region.ready .any ops (has ops.size L) = [k])
  (h : ∀ K' : Act → World → Prop, Go.Shut (∀ a w, (k < p → S w) → wpP P ops Q S p (k :: L) a w → K' a w) → if Region.wanted o (yielded ops a.tmps) = true then Oper.wp P o a w K' Q else K' (a.put o.dst undef) w) : wpP P ops Q S p L a w := by
 unfold wpP
 rw [show ops.size - L.length = (ops.size - (k :: L).length) + 1 from by simp; omega]
 refine ⟨fun h => (by rw [hr] at h; cases h), fun i hi => ?_⟩
 rw [hr] at hi
 simp at hi
 subst hi
 exact wpOp_step ho (fun K' hK => h K' (fun a w hS hW => hK a w ⟨hS, by rw [has_set]; exact hW⟩))
theorem wpP_done {L : List Nat} {a : Act} {w : World} (hl : L.length = ops.size) (hr : Region.ready .any ops (has ops.size L) = []) (h : Q .normal a w) : wpP P ops Q S p L a w := by
 unfold wpP
 rw [hl, Nat.sub_self]
 exact ⟨hr, h⟩
end
section
variable {P : Program} {ops : Array Oper} {Q : Exit → Act → World → Prop} {S : World → Prop} {p : Nat}
theorem wpTL_firstT {i : Nat} {oi : Oper} {v : Value} (T : Nat → Prop) (hi : ops[i]? = some oi) (hip : i < p) (hsel : ∀ (j : Nat) (o : Oper) cs b, ops[j]? = some o → o.op ≠ .select cs b)
  (hT1 : ∀ j oj, ops[j]? = some oj → p ≤ j → T j) (hT2 : ∀ j oj, ops[j]? = some oj → T j → ∃ e ∈ oj.after, Region.binds .any e = true ∧ (e.on = i ∨ T e.on))
  (hQ : ∀ c a w, Q (.panic c) (a.put oi.dst v) w → Q (.panic c) a w) :
  ∀ (fuel : Nat) (listed : Array Bool) (a : Act) (w : World), (∀ j, T j → listed.getD j false = false) →
   (∀ j oj, ops[j]? = some oj → j ≠ i → listed.getD j true = false → (∀ e ∈ oj.after, Region.binds .any e = true → e.on ≠ i) → oi.apart ops oj = true) →
   i ∈ Region.ready .any ops listed → YieldsIf P ops S oi v a → S w →
   wpTL P ops Q S p fuel (listed.setIfInBounds i true) (a.put oi.dst v) w → wpTL P ops Q S p (fuel + 1) listed a w := by
 intro fuel
 induction fuel with
 | zero =>
  intro listed a w _ _ hr hy hS H
  refine ⟨fun h => (by rw [h] at hr; cases hr), fun j hj => ?_⟩
  by_cases hji : j = i
  ·subst hji; exact hy.wpOp hi hS ⟨fun _ => hS, H⟩
  ·have := ready_mono hj hji
   rw [H.1] at this
   cases this
 | succ fuel ih =>
  intro listed a w hTl hfree hr hy hS H
  refine ⟨fun h => (by rw [h] at hr; cases hr), fun j hj => ?_⟩
  by_cases hji : j = i
  ·subst hji; exact hy.wpOp hi hS ⟨fun _ => hS, H⟩
  ·have h1 := H.2 j (ready_mono hj hji)
   obtain ⟨hjun, oj, hoj, hall⟩ := mem_ready.1 hj
   have hnot : ∀ e ∈ oj.after, Region.binds .any e = true → e.on ≠ i := fun e he hb heq => by
    have h1 := hall e he hb
    have h0 := (mem_ready.1 hr).1
    rw [heq] at h1
    rcases Nat.lt_or_ge i listed.size with h' | h'
    ·simp [h'] at h0 h1; rw [h0] at h1; cases h1
    ·simp [Array.getElem?_eq_none h'] at h1
   have hnT : ¬ T j := fun hT => by
    obtain ⟨e, he, hb, ho⟩ := hT2 j oj hoj hT
    rcases ho with ho | ho
    ·exact hnot e he hb ho
    ·have h1 := hall e he hb
     have h2 := hTl e.on ho
     rw [h2] at h1
     cases h1
   have hjp : j < p := by
    rcases Nat.lt_or_ge j p with h | h
    ·exact h
    ·exact absurd (hT1 j oj hoj h) hnT
   have h2 := wpOp_putIf hoj (hfree j oj hoj hji hjun hnot) (fun cs b => hsel i oi cs b hi) (fun cs b => hsel j oj cs b hoj) hQ hy h1
   have hfree' : ∀ k ok, ops[k]? = some ok → k ≠ i → (listed.setIfInBounds j true).getD k true = false →
     (∀ e ∈ ok.after, Region.binds .any e = true → e.on ≠ i) → oi.apart ops ok = true := fun k ok hk hki hun hno => by
    refine hfree k ok hk hki ?_ hno
    by_cases hjk : j = k
    ·subst hjk; exact hjun
    ·rw [getD_set_ne true hjk] at hun; exact hun
   have hTl' : ∀ k, T k → (listed.setIfInBounds j true).getD k false = false := fun k hk => by
    have hjk : j ≠ k := fun e => hnT (e ▸ hk)
    have := hTl k hk
    simpa [Array.getElem?_setIfInBounds_ne hjk] using this
   refine wpOp_mono (fun a' w' h3 => ⟨h3.2.1, ih (listed.setIfInBounds j true) a' w' hTl' hfree' (ready_mono hr (Ne.symm hji)) h3.1 (h3.2.1 hjp) ?_⟩) h2
   rw [Array.setIfInBounds_comm _ _ hji]
   exact h3.2.2
def waits (ops : Array Oper) (k : Nat) : List Nat := (List.range ops.size).foldl (fun L j => match ops[j]? with
 | some oj => if oj.after.any (fun e => Region.binds .any e && (e.on == k || L.contains e.on)) then j :: L else L
 | none => L) []
def takeOkT (ops : Array Oper) (p k : Nat) : Bool :=
 decide (k < p) && Region.noSelect ops && Region.free .any ops (upTo ops.size k) k && (Region.ready .any ops (upTo ops.size k)).contains k &&
 ((List.range ops.size).all fun j => decide (j < p) || (waits ops k).contains j) &&
 (waits ops k).all fun j => decide (k ≤ j) && match ops[j]? with
  | some oj => oj.after.any fun e => Region.binds .any e && (e.on == k || (waits ops k).contains e.on)
  | none => false
theorem wpTx_takeT {k : Nat} {o : Oper} {rest : List Oper} {v : Value} {a : Act} {w : World} (hod : ops.toList.drop k = o :: rest) (hc : takeOkT ops p k = true)
  (hQ : ∀ c a w, Q (.panic c) (a.put o.dst v) w → Q (.panic c) a w)
  (hw : Region.wanted o (yielded ops a.tmps) = true) (hS : S w) (hy : ∀ w, S w → (execOp a.eval o).run P w = .ok (.value v) w) (h : wpTx P ops Q S p (k + 1) (a.put o.dst v) w) : wpTx P ops Q S p k a w := by
 have ho := at_of_drop hod
 unfold takeOkT at hc
 generalize waits ops k = L at hc
 simp only [Bool.and_eq_true, decide_eq_true_eq, List.all_eq_true, List.mem_range] at hc
 obtain ⟨⟨⟨⟨⟨hkp, hns⟩, hfr⟩, hrd⟩, hwt⟩, hL⟩ := hc
 have hk : k < ops.size := (Array.getElem?_eq_some_iff.1 ho).1
 unfold wpTx at *
 rw [show ops.size - k = (ops.size - (k + 1)) + 1 from by omega]
 refine wpTL_firstT (fun j => j ∈ L) ho hkp (Region.noSelect_spec hns) ?_ ?_ hQ _ _ a w ?_ (Region.free_spec ho hfr) (by simpa using hrd) (Or.inl ⟨hw, hy⟩) hS (by rw [upTo_set]; exact h)
 ·intro j oj hj hpj
  have hjs : j < ops.size := (Array.getElem?_eq_some_iff.1 hj).1
  have := hwt j hjs
  simp only [Bool.or_eq_true, decide_eq_true_eq] at this
  rcases this with h1 | h1
  ·omega
  ·simpa using h1
 ·intro j oj hj hT
  have := (hL j hT).2
  rw [hj] at this
  simp only [Array.any_eq_true, Bool.and_eq_true, Bool.or_eq_true, beq_iff_eq] at this
  obtain ⟨i, hi, h1, h2⟩ := this
  exact ⟨oj.after[i], Array.getElem_mem hi, h1, h2.imp_right (fun h => by simpa using h)⟩
 ·intro j hT
  have := (hL j hT).1
  rcases Nat.lt_or_ge j ops.size with hj | hj
  ·simp [upTo, hj]; omega
  ·simp [upTo, hj]
theorem wpTL_firstW {i : Nat} {oi : Oper} {v : Value} (hi : ops[i]? = some oi) (hpi : p ≤ i) (hsel : ∀ (j : Nat) (o : Oper) cs b, ops[j]? = some o → o.op ≠ .select cs b)
  (hQ : ∀ c a w, Q (.panic c) (a.put oi.dst v) w → Q (.panic c) a w) :
  ∀ (fuel : Nat) (listed : Array Bool) (a : Act) (w : World),
   (∀ j oj, ops[j]? = some oj → j ≠ i → listed.getD j true = false → (∀ e ∈ oj.after, Region.binds .any e = true → e.on ≠ i) → oi.apart ops oj = true) →
   i ∈ Region.ready .any ops listed → YieldsIf P ops (fun _ => True) oi v a →
   wpTL P ops Q S p fuel (listed.setIfInBounds i true) (a.put oi.dst v) w → wpTL P ops Q S p (fuel + 1) listed a w := by
 intro fuel
 induction fuel with
 | zero =>
  intro listed a w _ hr hy H
  refine ⟨fun h => (by rw [h] at hr; cases hr), fun j hj => ?_⟩
  by_cases hji : j = i
  ·subst hji; exact hy.wpOp hi trivial ⟨fun h => by omega, H⟩
  ·have := ready_mono hj hji
   rw [H.1] at this
   cases this
 | succ fuel ih =>
  intro listed a w hfree hr hy H
  refine ⟨fun h => (by rw [h] at hr; cases hr), fun j hj => ?_⟩
  by_cases hji : j = i
  ·subst hji; exact hy.wpOp hi trivial ⟨fun h => by omega, H⟩
  ·have h1 := H.2 j (ready_mono hj hji)
   obtain ⟨hjun, oj, hoj, hall⟩ := mem_ready.1 hj
   have hnot : ∀ e ∈ oj.after, Region.binds .any e = true → e.on ≠ i := fun e he hb heq => by
    have h1 := hall e he hb
    have h0 := (mem_ready.1 hr).1
    rw [heq] at h1
    rcases Nat.lt_or_ge i listed.size with h' | h'
    ·simp [h'] at h0 h1; rw [h0] at h1; cases h1
    ·simp [Array.getElem?_eq_none h'] at h1
   have h2 := wpOp_putIf hoj (hfree j oj hoj hji hjun hnot) (fun cs b => hsel i oi cs b hi) (fun cs b => hsel j oj cs b hoj) hQ hy h1
   have hfree' : ∀ k ok, ops[k]? = some ok → k ≠ i → (listed.setIfInBounds j true).getD k true = false →
     (∀ e ∈ ok.after, Region.binds .any e = true → e.on ≠ i) → oi.apart ops ok = true := fun k ok hk hki hun hno => by
    refine hfree k ok hk hki ?_ hno
    by_cases hjk : j = k
    ·subst hjk; exact hjun
    ·rw [getD_set_ne true hjk] at hun; exact hun
   refine wpOp_mono (fun a' w' h3 => ⟨h3.2.1, ih (listed.setIfInBounds j true) a' w' hfree' (ready_mono hr (Ne.symm hji)) h3.1 ?_⟩) h2
   rw [Array.setIfInBounds_comm _ _ hji]
   exact h3.2.2
def takeOkW (ops : Array Oper) (p k : Nat) : Bool :=
 decide (p ≤ k) && decide (k < ops.size) && Region.noSelect ops && Region.free .any ops (upTo ops.size k) k && (Region.ready .any ops (upTo ops.size k)).contains k
theorem wpTx_takeW {k : Nat} {o : Oper} {rest : List Oper} {v : Value} {a : Act} {w : World} (hod : ops.toList.drop k = o :: rest) (hc : takeOkW ops p k = true)
  (hQ : ∀ c a w, Q (.panic c) (a.put o.dst v) w → Q (.panic c) a w)
  (hw : Region.wanted o (yielded ops a.tmps) = true) (hy : ∀ w, (execOp a.eval o).run P w = .ok (.value v) w) (h : wpTx P ops Q S p (k + 1) (a.put o.dst v) w) : wpTx P ops Q S p k a w := by
 have ho := at_of_drop hod
 unfold takeOkW at hc
 simp only [Bool.and_eq_true, decide_eq_true_eq] at hc
 obtain ⟨⟨⟨⟨hkp, hk⟩, hns⟩, hfr⟩, hrd⟩ := hc
 unfold wpTx at *
 rw [show ops.size - k = (ops.size - (k + 1)) + 1 from by omega]
 exact wpTL_firstW ho hkp (Region.noSelect_spec hns) hQ _ _ a w (Region.free_spec ho hfr) (by simpa using hrd) (Or.inl ⟨hw, fun w _ => hy w⟩) (by rw [upTo_set]; exact h)
end
section
variable {P : Program} {ops : Array Oper} {Q : Exit → Act → World → Prop} {S : World → Prop} {p : Nat}
def wpTy (P : Program) (ops : Array Oper) (Q : Exit → Act → World → Prop) (S : World → Prop) (p q k : Nat) (a : Act) (w : World) : Prop :=
 wpTL P ops Q S p (ops.size - (k + 1)) ((upTo ops.size k).setIfInBounds q true) a w
theorem wpTx_fork {k q : Nat} {o oq : Oper} {rest restq : List Oper} {a : Act} {w : World} (hod : ops.toList.drop k = o :: rest) (hodq : ops.toList.drop q = oq :: restq)
  (hr : Region.ready .any ops (upTo ops.size k) = [k, q])
  (h : ∀ K' : Act → World → Prop, Go.Shut (∀ a w, (k < p → S w) → wpTx P ops Q S p (k + 1) a w → K' a w) → if Region.wanted o (yielded ops a.tmps) = true then Oper.wp P o a w K' Q else K' (a.put o.dst undef) w)
  (h2 : ∀ K' : Act → World → Prop, Go.Shut (∀ a w, (q < p → S w) → wpTy P ops Q S p q k a w → K' a w) → if Region.wanted oq (yielded ops a.tmps) = true then Oper.wp P oq a w K' Q else K' (a.put oq.dst undef) w) :
  wpTx P ops Q S p k a w := by
 have ho := at_of_drop hod
 have hoq := at_of_drop hodq
 have hk : k < ops.size := (Array.getElem?_eq_some_iff.1 ho).1
 unfold wpTx
 rw [show ops.size - k = (ops.size - (k + 1)) + 1 from by omega]
 refine ⟨fun h => (by rw [hr] at h; cases h), fun i hi => ?_⟩
 rw [hr] at hi
 simp only [List.mem_cons, List.not_mem_nil, or_false] at hi
 rcases hi with rfl | rfl
 ·exact wpOp_step ho (fun K' hK => h K' (fun a w hS hW => hK a w ⟨hS, by rw [upTo_set]; exact hW⟩))
 ·exact wpOp_step hoq (fun K' hK => h2 K' (fun a w hS hW => hK a w ⟨hS, hW⟩))
theorem upTo_set_set (n k q : Nat) (h : k ≠ q) : ((upTo n k).setIfInBounds q true).setIfInBounds k true = (upTo n (k + 1)).setIfInBounds q true := by
 rw [Array.setIfInBounds_comm _ _ (Ne.symm h), upTo_set]
theorem wpTy_step {k q : Nat} {o : Oper} {rest : List Oper} {a : Act} {w : World} (hod : ops.toList.drop k = o :: rest) (hkq : (decide (k < q) && decide (k + 1 < ops.size)) = true) (hr : Region.ready .any ops ((upTo ops.size k).setIfInBounds q true) = [k])
  (h : ∀ K' : Act → World → Prop, Go.Shut (∀ a w, (k < p → S w) → wpTy P ops Q S p q (k + 1) a w → K' a w) → if Region.wanted o (yielded ops a.tmps) = true then Oper.wp P o a w K' Q else K' (a.put o.dst undef) w) : wpTy P ops Q S p q k a w := by
 have ho := at_of_drop hod
 simp only [Bool.and_eq_true, decide_eq_true_eq] at hkq
 unfold wpTy
 rw [show ops.size - (k + 1) = (ops.size - (k + 1 + 1)) + 1 from by omega]
 refine ⟨fun h => (by rw [hr] at h; cases h), fun i hi => ?_⟩
 rw [hr] at hi
 simp at hi
 subst hi
 exact wpOp_step ho (fun K' hK => h K' (fun a w hS hW => hK a w ⟨hS, by rw [upTo_set_set _ _ _ (by omega)]; exact hW⟩))
def takeOkY (ops : Array Oper) (p q k : Nat) : Bool :=
 decide (k < q) && decide (k + 1 < ops.size) && decide (k < p) && Region.noSelect ops && Region.free .any ops ((upTo ops.size k).setIfInBounds q true) k && (Region.ready .any ops ((upTo ops.size k).setIfInBounds q true)).contains k &&
 (List.range ops.size).all fun j => decide (j < p) || match ops[j]? with
  | some oj => oj.after.any fun e => Region.binds .any e && e.on == k
  | none => true
theorem wpTy_take {k q : Nat} {o : Oper} {rest : List Oper} {v : Value} {a : Act} {w : World} (hod : ops.toList.drop k = o :: rest) (hc : takeOkY ops p q k = true)
  (hQ : ∀ c a w, Q (.panic c) (a.put o.dst v) w → Q (.panic c) a w)
  (hw : Region.wanted o (yielded ops a.tmps) = true) (hS : S w) (hy : ∀ w, S w → (execOp a.eval o).run P w = .ok (.value v) w) (h : wpTy P ops Q S p q (k + 1) (a.put o.dst v) w) : wpTy P ops Q S p q k a w := by
 have ho := at_of_drop hod
 unfold takeOkY at hc
 simp only [Bool.and_eq_true, decide_eq_true_eq, List.all_eq_true, List.mem_range] at hc
 obtain ⟨⟨⟨⟨⟨⟨hkq, hks⟩, hkp⟩, hns⟩, hfr⟩, hrd⟩, hwt⟩ := hc
 unfold wpTy at *
 rw [show ops.size - (k + 1) = (ops.size - (k + 1 + 1)) + 1 from by omega]
 refine wpTL_first ho hkp (Region.noSelect_spec hns) ?_ hQ _ _ a w (Region.free_spec ho hfr) (by simpa using hrd) (Or.inl ⟨hw, hy⟩) hS (by rw [upTo_set_set _ _ _ (by omega)]; exact h)
 intro j oj hj hpj
 have hjs : j < ops.size := (Array.getElem?_eq_some_iff.1 hj).1
 have := hwt j hjs
 rw [hj] at this
 simp only [Bool.or_eq_true, decide_eq_true_eq, Array.any_eq_true, Bool.and_eq_true, beq_iff_eq] at this
 rcases this with h1 | ⟨i, hi, h1, h2⟩
 ·omega
 ·exact ⟨oj.after[i], Array.getElem_mem hi, h1, h2⟩
theorem wpTy_past {q : Nat} {a : Act} {w : World} (h : wpTx P ops Q S p (q + 1) a w) : wpTy P ops Q S p q q a w := by
 unfold wpTy
 rw [upTo_set]
 exact h
end
end Go.Proofs.YtpfkkmacakjmbaaGreatDoor
