import Derived.Test.YtmfbojnnoonidaaGreatDoorP15
/- The working out ends within its rounds, and what it comes to holds. -/
namespace Go.Proofs.YtmfbojnnoonidaaGreatDoor
open Go Sp
set_option linter.unusedSimpArgs false
set_option linter.unusedVariables false

/-- How often a type can rise, at most. -/
def rk (c : UInt8) : Nat := if c.toNat = 45 then 0 else if c.toNat = 122 then 5 else if isC c = true then 1 + (c.toNat - 65) else 1

theorem rk_le (c : UInt8) : rk c ≤ 5 := by
  unfold rk
  split
  · omega
  split
  · omega
  split
  · rename_i h; rw [isC_iff] at h; omega
  · omega

theorem rk_cls {c : UInt8} (h : isC c = true) : rk c = 1 + (c.toNat - 65) ∧ 65 ≤ c.toNat ∧ c.toNat ≤ 68 := by
  have h' := h
  rw [isC_iff] at h'
  unfold rk
  rw [if_neg (by omega), if_neg (by omega), if_pos h]
  exact ⟨rfl, h'.1, h'.2⟩

theorem rk_lt {cs : List Cls} (hw : WfC cs) {a b : UInt8} (h : subT cs a b = true) (hne : a ≠ b) : rk b < rk a := by
  have hne' : a.toNat ≠ b.toNat := fun e => hne (UInt8.toNat_inj.1 e)
  rw [subT_iff] at h
  rcases h with h | h | ⟨h1, h2⟩ | ⟨h1, h2, h3⟩
  · exact absurd h hne
  · have hb : rk b = 0 := by unfold rk; rw [if_pos h]
    have ha : 1 ≤ rk a := by
      unfold rk
      rw [if_neg (by omega)]
      split
      · omega
      split <;> omega
    omega
  · have := rk_cls h1
    have ha : rk a = 5 := by unfold rk; rw [if_neg (by omega), if_pos h2]
    omega
  · have c1 := rk_cls h1
    have c2 := rk_cls h2
    have r := kl_range hw h1
    have := U_le hw 4 (by omega) (by omega) h3
    unfold kl at this
    omega

def sumL (l : List UInt8) : Nat := (l.map rk).sum
theorem sumL_le : ∀ l : List UInt8, sumL l ≤ 5 * l.length
  | [] => by simp [sumL]
  | x :: l => by
    have := sumL_le l
    have := rk_le x
    simp only [sumL, List.map_cons, List.sum_cons, List.length_cons] at *
    omega
theorem sumL_down {cs : List Cls} (hw : WfC cs) : ∀ {a b : List UInt8}, leL cs a b → sumL b ≤ sumL a ∧ (a ≠ b → sumL b < sumL a)
  | [], [], _ => ⟨Nat.le_refl _, fun h => absurd rfl h⟩
  | x :: a, y :: b, h => by
    have ih := sumL_down hw h.2
    simp only [sumL, List.map_cons, List.sum_cons] at *
    by_cases hxy : x = y
    · subst hxy
      refine ⟨by omega, fun hn => ?_⟩
      have := ih.2 (fun e => hn (by rw [e]))
      omega
    · have := rk_lt hw h.1 hxy
      exact ⟨by omega, fun _ => by omega⟩
  | [], _ :: _, h => h.elim
  | _ :: _, [], h => h.elim

def wt : St → Nat
  | none => 700
  | some (s, l) => sumL s + sumL l
def mu (t : List St) : Nat := (t.map wt).sum

theorem mu_set : ∀ {t : List St} {j : Nat} (o : St) (hj : j < t.length), mu (t.set j o) + wt t[j] = mu t + wt o
  | x :: t, 0, o, _ => by simp [mu]; omega
  | x :: t, j + 1, o, h => by
    have := mu_set (t := t) (j := j) o (by simpa using h)
    simp only [mu, List.set_cons_succ, List.map_cons, List.sum_cons, List.getElem_cons_succ] at *
    omega
  | [], _, _, h => by simp at h

theorem mu_le : ∀ {t : List St}, (∀ o ∈ t, wt o ≤ 700) → mu t ≤ 700 * t.length
  | [], _ => by simp [mu]
  | x :: t, h => by
    have h1 := h x (by simp)
    have h2 := mu_le (t := t) (fun o ho => h o (by simp [ho]))
    simp only [mu, List.map_cons, List.sum_cons, List.length_cons] at *
    omega

/-- What comes in: nothing changes and it is below what is there; or something rises. -/
theorem intoT_case {cs : List Cls} (hw : WfC cs) (hnc : cs.length ≤ 4) {nl n : Nat} (hnl : nl ≤ 5) (hn : n ≤ 100) {T : Tn} {j : Int} {sb lb : List UInt8} (h : wfT cs.length nl n T.1) (hz : okZ cs.length nl sb lb) (hl : sb.length ≤ setN T.1) (hb : (intoT cs T j sb lb).2.2 = false) :
    T.2.2 = false ∧ leTab cs T.1 (intoT cs T j sb lb).1 ∧ ((intoT cs T j sb lb = T ∧ Reach cs T.1 j (sb, lb)) ∨ ((intoT cs T j sb lb).2.1 = true ∧ mu (intoT cs T j sb lb).1 < mu T.1)) := by
  have hwf := (intoT_wf hnc hw (j := j) h hz hl).1
  revert hb hwf
  unfold intoT
  split
  · rename_i h1
    intro hb _
    refine ⟨hb, leTab_refl _, Or.inl ⟨rfl, ?_⟩⟩
    rcases h1 with h1 | h1
    · rw [hb] at h1; cases h1
    · exact Or.inl h1
  rename_i h1
  have hb0 : T.2.2 = false := by have := (not_or.1 h1).1; simpa using this
  split
  · intro hb; cases hb
  rename_i h2
  have hjl : j.toNat < T.1.length := by omega
  have hge : T.1.getD j.toNat none = T.1[j.toNat] := by simp [List.getD, hjl]
  split
  · intro hb; cases hb
  rename_i m hm
  have hll : ∀ s l, T.1.getD j.toNat none = some (s, l) → l.length = lb.length := fun s l hh => by
    have := (h.2 j.toNat s l (getD_some.1 hh)).1.2.2
    rw [this, hz.2.2]
  have hlub := mergeT_lub hw hll hm
  split
  · rename_i hsame
    intro _ _
    refine ⟨hb0, leTab_refl _, Or.inl ⟨rfl, Or.inr ⟨m, getD_some.1 hsame.symm, hlub.2.1⟩⟩⟩
  · rename_i hdiff
    intro _ hwf
    refine ⟨hb0, ⟨by simp, fun k => ?_⟩, Or.inr ⟨rfl, ?_⟩⟩
    · by_cases hk : k = j.toNat
      · subst hk
        have hs : (T.1.set j.toNat (some m)).getD j.toNat none = some m := by simp [List.getD, hjl]
        simp only
        rw [hs]
        exact hlub.1
      · have hs : (T.1.set j.toNat (some m)).getD k none = T.1.getD k none := by simp [List.getD, List.getElem?_set, show ¬ j.toNat = k from fun h => hk h.symm]
        simp only
        rw [hs]
        exact leO_refl _
    · have hmu := mu_set (some m) hjl
      simp only
      rw [hge] at hm hdiff hlub
      suffices wt (some m) < wt T.1[j.toNat] by omega
      obtain ⟨m1, m2⟩ := m
      cases ho : T.1[j.toNat] with
      | none =>
        have hok := hwf.okS hn j.toNat m1 m2 (by simp only; rw [List.getElem?_set]; simp [hjl])
        have s1 := sumL_le m1
        have s2 := sumL_le m2
        have := hok.2.2.1
        have := hok.2.2.2
        simp only [wt]
        omega
      | some p =>
        obtain ⟨sa, la⟩ := p
        rw [ho] at hlub hdiff
        have d1 := sumL_down hw hlub.1.1
        have d2 := sumL_down hw hlub.1.2
        simp only at d1 d2
        simp only [wt]
        by_cases e1 : sa = m1
        · by_cases e2 : la = m2
          · rw [e1, e2] at hdiff; exact absurd rfl hdiff
          · have := d2.2 e2; omega
        · have := d1.2 e1; omega

/-- The table holds at number i. -/
def StabAt (im : Img) (bd : Bod) (t : List St) (i : Nat) : Prop :=
  ∀ (x : Ins) (s l : List UInt8), bd.code[i]? = some x → t[i]? = some (some (s, l)) → ∃ s' l', effT im.classes im.sigs bd x s l = some (s', l') ∧ Reach im.classes t (waysT x i).1 (s', l') ∧ Reach im.classes t (waysT x i).2 (s', l')

theorem stepT_case {im : Img} (hW : WfI im) {bd : Bod} (hbd : WfB im.classes im.sigs bd) {T T' : Tn} {i : Nat} (h : wfT im.classes.length bd.locals.length bd.code.length T.1) (hs : stepT im bd T i = some T') (hb : T'.2.2 = false) :
    leTab im.classes T.1 T'.1 ∧ ((T' = T ∧ StabAt im bd T.1 i) ∨ (T'.2.1 = true ∧ mu T'.1 < mu T.1)) := by
  cases hx : bd.code[i]? with
  | none =>
    have : stepT im bd T i = some T := by unfold stepT; rw [hx]
    rw [this] at hs
    injection hs with hs
    subst hs
    exact ⟨leTab_refl _, Or.inl ⟨rfl, fun x s l h1 => by rw [hx] at h1; cases h1⟩⟩
  | some x =>
    cases ho : T.1.getD i none with
    | none =>
      have : stepT im bd T i = some T := by unfold stepT; rw [hx, ho]
      rw [this] at hs
      injection hs with hs
      subst hs
      refine ⟨leTab_refl _, Or.inl ⟨rfl, fun x s l _ h2 => ?_⟩⟩
      rw [getD_some.2 h2] at ho
      cases ho
    | some p =>
      obtain ⟨s, l⟩ := p
      have hg := getD_some.1 ho
      cases he : effT im.classes im.sigs bd x s l with
      | none => rw [stepT_none hx hg he] at hs; cases hs
      | some q =>
        obtain ⟨s', l'⟩ := q
        rw [stepT_some hx hg he] at hs
        injection hs with hs
        subst hs
        have hz := h.2 i s l hg
        have he' := effT_ok hW (hbd.code x (List.mem_of_getElem? hx)) hz.1 he
        have hle : s'.length ≤ setN T.1 := by omega
        have w1 := intoT_wf hW.nc hW.cls (j := (waysT x i).1) h he'.1 hle
        have c2 := intoT_case hW.cls hW.nc hbd.loc.1 hbd.len.2 w1.1 he'.1 (by omega) hb
        have c1 := intoT_case hW.cls hW.nc hbd.loc.1 hbd.len.2 h he'.1 hle c2.1
        refine ⟨leTab_trans hW.cls c1.2.1 c2.2.1, ?_⟩
        rcases c1.2.2 with ⟨e1, r1⟩ | ⟨e1, r1⟩
        · rcases c2.2.2 with ⟨e2, r2⟩ | ⟨e2, r2⟩
          · left
            rw [e1] at e2 r2 ⊢
            refine ⟨e2, fun x' s'' l'' h1 h2 => ?_⟩
            rw [hx] at h1
            injection h1 with h1
            rw [hg] at h2
            injection h2 with h2
            injection h2 with h2
            injection h2 with h2 h3
            subst h1 h2 h3
            exact ⟨s', l', he, r1, r2⟩
          · right
            refine ⟨e2, ?_⟩
            rw [e1] at r2 ⊢
            exact r2
        · right
          rcases c2.2.2 with ⟨e2, r2⟩ | ⟨e2, r2⟩
          · rw [e2]; exact ⟨e1, r1⟩
          · exact ⟨e2, by omega⟩

theorem bad_stays {cs : List Cls} {T : Tn} {j : Int} {sb lb : List UInt8} (h : T.2.2 = true) : intoT cs T j sb lb = T := by
  unfold intoT; rw [if_pos (Or.inl h)]

theorem sweepT_case {im : Img} (hW : WfI im) {bd : Bod} (hbd : WfB im.classes im.sigs bd) : ∀ {f i : Nat} {T T' : Tn}, wfT im.classes.length bd.locals.length bd.code.length T.1 → sweepT im bd f i T = some T' → T'.2.2 = false →
    leTab im.classes T.1 T'.1 ∧ ((T' = T ∧ ∀ k, i ≤ k → k < i + f → StabAt im bd T.1 k) ∨ (T'.2.1 = true ∧ mu T'.1 < mu T.1)) := by
  intro f
  induction f with
  | zero =>
    intro i T T' h hs hb
    simp [sweepT] at hs
    subst hs
    exact ⟨leTab_refl _, Or.inl ⟨rfl, fun k h1 h2 => by omega⟩⟩
  | succ f ih =>
    intro i T T' h hs hb
    by_cases hbt : T.2.2 = true
    · rw [sweepT_bad _ _ _ _ _ hbt] at hs
      injection hs with hs
      subst hs
      rw [hbt] at hb
      cases hb
    · have hbf : T.2.2 = false := by simpa using hbt
      cases h1 : stepT im bd T i with
      | none => rw [sweepT_none hbf h1] at hs; cases hs
      | some T1 =>
        rw [sweepT_some hbf h1] at hs
        have hb1 : T1.2.2 = false := by
          by_cases hb1 : T1.2.2 = true
          · rw [sweepT_bad _ _ _ _ _ hb1] at hs
            injection hs with hs
            subst hs
            exact hb
          · simpa using hb1
        have c1 := stepT_case hW hbd h h1 hb1
        have c2 := ih (stepT_wf hW hbd h h1) hs hb
        refine ⟨leTab_trans hW.cls c1.1 c2.1, ?_⟩
        rcases c1.2 with ⟨e1, r1⟩ | ⟨e1, r1⟩
        · subst e1
          rcases c2.2 with ⟨e2, r2⟩ | r2
          · left
            refine ⟨e2, fun k hk1 hk2 => ?_⟩
            by_cases hk : k = i
            · subst hk; exact r1
            · exact r2 k (by omega) (by omega)
          · exact Or.inr r2
        · right
          rcases c2.2 with ⟨e2, r2⟩ | ⟨e2, r2⟩
          · rw [e2]; exact ⟨e1, r1⟩
          · exact ⟨e2, by omega⟩

theorem roundsT_case {im : Img} (hW : WfI im) {bd : Bod} (hbd : WfB im.classes im.sigs bd) : ∀ {f : Nat} {tb : List St} {ch : Bool} {t : List St}, wfT im.classes.length bd.locals.length bd.code.length tb →
    (ch = false → ∀ k, k < bd.code.length → StabAt im bd tb k) → (ch = true → mu tb < f) → roundsT im bd f (tb, ch, false) = some t → leTab im.classes tb t ∧ ∀ k, k < bd.code.length → StabAt im bd t k := by
  intro f
  induction f with
  | zero =>
    intro tb ch t h hst hmu hr
    cases ch with
    | false =>
      rw [roundsT_stop] at hr
      injection hr with hr
      subst hr
      exact ⟨leTab_refl _, hst rfl⟩
    | true => exact absurd (hmu rfl) (by omega)
  | succ f ih =>
    intro tb ch t h hst hmu hr
    cases ch with
    | false =>
      rw [roundsT_stop] at hr
      injection hr with hr
      subst hr
      exact ⟨leTab_refl _, hst rfl⟩
    | true =>
      rw [roundsT_go] at hr
      cases hs : sweepT im bd bd.code.length 0 (tb, false, false) with
      | none => rw [hs] at hr; cases hr
      | some T1 =>
        rw [hs] at hr
        obtain ⟨t1, c1, b1⟩ := T1
        simp only [afterSweep] at hr
        cases b1 with
        | true => simp at hr
        | false =>
          simp only [Bool.false_eq_true, if_false] at hr
          have c := sweepT_case hW hbd (T := (tb, false, false)) h hs rfl
          have hwf := sweepT_wf hW hbd (T := (tb, false, false)) h hs
          rcases c.2 with ⟨e, r⟩ | ⟨e, r⟩
          · injection e with e1 e2
            injection e2 with e2 _
            subst e1 e2
            have := ih hwf (fun _ k hk => r k (by omega) (by omega)) (fun h => by cases h) hr
            exact this
          · simp only at e r
            subst e
            have hm := hmu rfl
            have := ih hwf (fun h => by cases h) (fun _ => by show mu t1 < f; omega) hr
            exact ⟨leTab_trans hW.cls c.1 this.1, this.2⟩

theorem startTab_mu {im : Img} {bd : Bod} (hbd : WfB im.classes im.sigs bd) : mu (startTab bd) < 80000 := by
  have h : mu (startTab bd) ≤ 700 * (startTab bd).length := by
    apply mu_le
    intro o ho
    cases o with
    | none => simp [wt]
    | some p =>
      obtain ⟨s, l⟩ := p
      obtain ⟨k, hk⟩ := List.mem_iff_getElem?.1 ho
      have hok := (startTab_wf hbd).okS hbd.len.2 k s l hk
      have s1 := sumL_le s
      have s2 := sumL_le l
      have := hok.2.2.1
      have := hok.2.2.2
      have := hbd.loc.1
      simp only [wt]
      omega
  have h1 : (startTab bd).length = bd.code.length := (startTab_wf hbd).1
  have := hbd.len.2
  omega

/-- What the working out comes to holds. -/
theorem leastT_good {im : Img} (hW : WfI im) {bd : Bod} (hbd : WfB im.classes im.sigs bd) {t : List St} (h : leastT im bd = some t) : Good im bd t := by
  have hc := roundsT_case hW hbd (startTab_wf hbd) (fun h => by cases h) (fun _ => startTab_mu hbd) h
  have hl := (leastT_wf hW hbd h).1
  refine ⟨hl, ?_, fun i x s l hx hs => hc.2 i (List.getElem?_eq_some_iff.1 hx).1 x s l hx hs⟩
  have h0 := hc.1.2 0
  have hs : (startTab bd).getD 0 none = some ([], bd.locals) := by
    unfold startTab
    simp [List.getD, hbd.len.1]
  rw [hs] at h0
  cases ht : t.getD 0 none with
  | none => rw [ht] at h0; exact h0.elim
  | some s0 => rw [ht] at h0; exact ⟨s0, getD_some.1 ht, h0⟩

/-- Whoever finds a table that holds and is below all that hold has found this one; whoever finds none, none. -/
theorem leastT_some {im : Img} (hW : WfI im) {bd : Bod} (hbd : WfB im.classes im.sigs bd) {t : List St} (hG : Good im bd t) (hm : ∀ H, Good im bd H → leTab im.classes t H) : leastT im bd = some t := by
  obtain ⟨u, hu, hle⟩ := leastT_below hW.cls hG
  rw [hu, leTab_anti hW.cls hle (hm u (leastT_good hW hbd hu))]
theorem leastT_none {im : Img} (hW : WfI im) {bd : Bod} (hbd : WfB im.classes im.sigs bd) (h : ∀ H, ¬ Good im bd H) : leastT im bd = none := by
  cases hu : leastT im bd with
  | none => rfl
  | some u => exact absurd (leastT_good hW hbd hu) (h u)
end Go.Proofs.YtmfbojnnoonidaaGreatDoor
/- The same worked out by those that wait: what it keeps. -/
namespace Go.Proofs.YtmfbojnnoonidaaGreatDoor
open Go Sp
set_option linter.unusedSimpArgs false
set_option linter.unusedVariables false

/-- A table, who waits, whether it has failed. -/
abbrev Wn := List St × List Bool × Bool

def reachW (cs : List Cls) (W : Wn) (j : Nat) (sb lb : List UInt8) : Wn :=
  ((intoT cs (W.1, false, W.2.2) j sb lb).1, if (intoT cs (W.1, false, W.2.2) j sb lb).2.1 = true then W.2.1.set j true else W.2.1, (intoT cs (W.1, false, W.2.2) j sb lb).2.2)

/-- What the walk keeps: every number but those that wait (and those of X) holds. -/
structure InvW (im : Img) (bd : Bod) (X : Nat → Prop) (W : Wn) : Prop where
  wf : wfT im.classes.length bd.locals.length bd.code.length W.1
  wl : W.2.1.length = bd.code.length
  start : leTab im.classes (startTab bd) W.1
  stab : W.2.2 = false → ∀ k, k < bd.code.length → ¬ X k → W.2.1.getD k false = false → StabAt im bd W.1 k

/-- Nothing is above a table that holds. -/
def LowW (im : Img) (bd : Bod) (W : Wn) : Prop := ∀ H, Good im bd H → W.2.2 = false ∧ leTab im.classes W.1 H

def waitN (l : List Bool) : Nat := l.countP id
def muW (W : Wn) : Nat := 2 * mu W.1 + waitN W.2.1

theorem waitN_set_true (l : List Bool) (j : Nat) : waitN (l.set j true) ≤ waitN l + 1 := by
  unfold waitN
  by_cases h : j < l.length
  · rw [List.countP_set h]; split <;> simp <;> omega
  · rw [List.set_eq_of_length_le (by omega)]; omega
theorem waitN_set_false {l : List Bool} {j : Nat} (h : l.getD j false = true) : waitN (l.set j false) < waitN l := by
  have hj : j < l.length := by
    by_cases hj : j < l.length
    · exact hj
    · simp [List.getD, List.getElem?_eq_none (by omega : l.length ≤ j)] at h
  have hv : l[j] = true := by simpa [List.getD, hj] using h
  unfold waitN
  rw [List.countP_set hj]
  have : 0 < l.countP id := List.countP_pos_iff.2 ⟨_, List.getElem_mem hj, hv⟩
  simp [hv]
  omega

theorem Reach_up {cs : List Cls} (hw : WfC cs) {t u : List St} {j : Int} {st : Sp2} (h : leTab cs t u) (hr : Reach cs t j st) : Reach cs u j st := by
  rcases hr with hr | ⟨st', h1, h2⟩
  · exact Or.inl hr
  · have h3 := h.2 j.toNat
    rw [getD_some.2 h1] at h3
    cases hu : u.getD j.toNat none with
    | none => rw [hu] at h3; exact h3.elim
    | some q => rw [hu] at h3; exact Or.inr ⟨q, getD_some.1 hu, leS_trans hw h2 h3⟩

theorem intoT_other {cs : List Cls} {T : Tn} {j : Nat} {sb lb : List UInt8} {k : Nat} (hk : k ≠ j) : (intoT cs T j sb lb).1[k]? = T.1[k]? := by
  unfold intoT
  split
  · rfl
  split
  · rfl
  split
  · rfl
  split
  · rfl
  · simp [List.getElem?_set, show ¬ j = k from fun h => hk h.symm]

/-- Behind it the state is there. -/
theorem intoT_reach {im : Img} (hW : WfI im) {bd : Bod} (hbd : WfB im.classes im.sigs bd) {n : Nat} {T : Tn} {j : Nat} {sb lb : List UInt8} (h : wfT im.classes.length bd.locals.length n T.1) (hz : okZ im.classes.length bd.locals.length sb lb) (hr : (intoT im.classes T j sb lb).2.2 = false) :
    Reach im.classes (intoT im.classes T j sb lb).1 j (sb, lb) := by
  revert hr
  unfold intoT
  split
  · rename_i h1
    intro hr
    rcases h1 with h1 | h1
    · rw [hr] at h1; cases h1
    · omega
  split
  · intro hr; cases hr
  rename_i h1 h2
  have hjl : (j : Int).toNat < T.1.length := by omega
  split
  · intro hr; cases hr
  rename_i m hm
  have hll : ∀ s l, T.1.getD (j : Int).toNat none = some (s, l) → l.length = lb.length := fun s l hh => by
    have := (h.2 _ s l (getD_some.1 hh)).1.2.2
    rw [this, hz.2.2]
  have hlub := mergeT_lub hW.cls hll hm
  split
  · rename_i hs
    intro _
    exact Or.inr ⟨m, getD_some.1 hs.symm, hlub.2.1⟩
  · intro _
    exact Or.inr ⟨m, by simp only; rw [List.getElem?_set, if_pos rfl]; simp only [hjl, if_true], hlub.2.1⟩

/-- A state comes in: what is kept, that it is below, that the measure falls or nothing changes. -/
theorem reachW_step {im : Img} (hW : WfI im) {bd : Bod} (hbd : WfB im.classes im.sigs bd) {X : Nat → Prop} {W : Wn} {j : Nat} {sb lb : List UInt8} (hf : W.2.2 = false) (hI : InvW im bd X W) (hz : okZ im.classes.length bd.locals.length sb lb) (hl : sb.length ≤ setN W.1)
    (hr : (reachW im.classes W j sb lb).2.2 = false) :
    InvW im bd X (reachW im.classes W j sb lb) ∧ leTab im.classes W.1 (reachW im.classes W j sb lb).1 ∧ Reach im.classes (reachW im.classes W j sb lb).1 j (sb, lb) ∧ muW (reachW im.classes W j sb lb) ≤ muW W ∧ setN W.1 ≤ setN (reachW im.classes W j sb lb).1 ∧ (∀ k, k ≠ j → (reachW im.classes W j sb lb).1[k]? = W.1[k]?) ∧ ((reachW im.classes W j sb lb).1[j]? = W.1[j]? ∨ (reachW im.classes W j sb lb).2.1.getD j false = true) := by
  have hc := intoT_case hW.cls hW.nc hbd.loc.1 hbd.len.2 (T := (W.1, false, W.2.2)) (j := (j : Int)) hI.wf hz hl hr
  have hwf := intoT_wf hW.nc hW.cls (T := (W.1, false, W.2.2)) (j := (j : Int)) hI.wf hz hl
  have hoth := fun k (hk : k ≠ j) => intoT_other (cs := im.classes) (T := (W.1, false, W.2.2)) (j := j) (sb := sb) (lb := lb) hk
  rcases hc.2.2 with ⟨e, r⟩ | ⟨e, r⟩
  · have hid : reachW im.classes W j sb lb = W := by
      unfold reachW
      rw [e]
      simp
    rw [hid]
    exact ⟨hI, leTab_refl _, r, Nat.le_refl _, Nat.le_refl _, fun _ _ => rfl, Or.inl rfl⟩
  · have hR1 : (reachW im.classes W j sb lb).2.1 = W.2.1.set j true := by unfold reachW; simp only [e, if_true]
    have hR0 : (reachW im.classes W j sb lb).1 = (intoT im.classes (W.1, false, W.2.2) j sb lb).1 := rfl
    have hjl : j < bd.code.length := by
      by_cases hj : j < bd.code.length
      · exact hj
      · exfalso
        have : intoT im.classes (W.1, false, W.2.2) j sb lb = (W.1, false, true) := by
          unfold intoT
          have h1 := hI.wf.1
          rw [if_neg (by simp [hf]), if_pos (by simp only; omega)]
        have h2 : (intoT im.classes (W.1, false, W.2.2) j sb lb).2.2 = false := hr
        rw [this] at h2
        cases h2
    have hgw : (W.2.1.set j true).getD j false = true := by
      have := hI.wl
      simp [List.getD, show j < W.2.1.length by omega]
    refine ⟨⟨hwf.1, by rw [hR1, List.length_set]; exact hI.wl, leTab_trans hW.cls hI.start hc.2.1, ?_⟩, hc.2.1, ?_, ?_, hwf.2, hoth, Or.inr (by rw [hR1]; exact hgw)⟩
    · intro _ k hk hX hwk
      rw [hR1] at hwk
      by_cases hkj : k = j
      · subst hkj; rw [hgw] at hwk; cases hwk
      · have hwk' : W.2.1.getD k false = false := by
          simpa [List.getD, List.getElem?_set, show ¬ j = k from fun h => hkj h.symm] using hwk
        intro x s l hx hs
        rw [hR0, hoth k hkj] at hs
        obtain ⟨s', l', h1, h2, h3⟩ := hI.stab hf k hk hX hwk' x s l hx hs
        exact ⟨s', l', h1, Reach_up hW.cls hc.2.1 h2, Reach_up hW.cls hc.2.1 h3⟩
    · -- the state is there now
      have hcase := intoT_reach (T := (W.1, false, W.2.2)) hW hbd hI.wf hz hr
      exact hcase
    · have h1 : mu (reachW im.classes W j sb lb).1 < mu W.1 := r
      have h2 := waitN_set_true W.2.1 j
      unfold muW
      rw [hR1]
      omega
end Go.Proofs.YtmfbojnnoonidaaGreatDoor
namespace Go.Proofs.YtmfbojnnoonidaaGreatDoor
open Go Sp
set_option linter.unusedSimpArgs false
set_option linter.unusedVariables false

theorem reachW_bad {cs : List Cls} {W : Wn} {j : Nat} {sb lb : List UInt8} (h : W.2.2 = true) : (reachW cs W j sb lb).2.2 = true := by
  unfold reachW
  rw [bad_stays (by exact h)]
  exact h
theorem reachW_waits {cs : List Cls} {W : Wn} {j k : Nat} {sb lb : List UInt8} (h : W.2.1.getD k false = true) : (reachW cs W j sb lb).2.1.getD k false = true := by
  unfold reachW
  simp only
  split
  · simp only [List.getD, List.getElem?_set]
    split
    · rename_i hjk
      subst hjk
      have : j < W.2.1.length := by
        by_cases hj : j < W.2.1.length
        · exact hj
        · simp [List.getD, List.getElem?_eq_none (by omega : W.2.1.length ≤ j)] at h
      simp [this]
    · exact h
  · exact h

/-- Where an instruction goes on, in the order in which the program goes there. -/
def tgts (x : Ins) (i : Nat) : List Nat := if x.op.toNat = 116 then [] else if x.op.toNat = 106 then [x.b] else if x.op.toNat = 102 then [x.b, i + 1] else [i + 1]

def reachAll (cs : List Cls) (sb lb : List UInt8) (W : Wn) (l : List Nat) : Wn := l.foldl (fun W j => reachW cs W j sb lb) W

theorem reachAll_bad {cs : List Cls} {sb lb : List UInt8} : ∀ {l : List Nat} {W : Wn}, W.2.2 = true → (reachAll cs sb lb W l).2.2 = true := by
  intro l
  induction l with
  | nil => intro W h; exact h
  | cons j l ih => intro W h; exact ih (W := reachW cs W j sb lb) (reachW_bad h)

theorem reachAll_step {im : Img} (hW : WfI im) {bd : Bod} (hbd : WfB im.classes im.sigs bd) {X : Nat → Prop} {sb lb : List UInt8} (hz : okZ im.classes.length bd.locals.length sb lb) (a : Nat) : ∀ {l : List Nat} {W : Wn}, W.2.2 = false → InvW im bd X W → sb.length ≤ setN W.1 → (reachAll im.classes sb lb W l).2.2 = false →
    InvW im bd X (reachAll im.classes sb lb W l) ∧ leTab im.classes W.1 (reachAll im.classes sb lb W l).1 ∧ (∀ j ∈ l, Reach im.classes (reachAll im.classes sb lb W l).1 (j : Nat) (sb, lb)) ∧ muW (reachAll im.classes sb lb W l) ≤ muW W ∧ ((reachAll im.classes sb lb W l).1[a]? = W.1[a]? ∨ (reachAll im.classes sb lb W l).2.1.getD a false = true) := by
  intro l
  induction l with
  | nil => intro W hf hI hl hr; exact ⟨hI, leTab_refl _, by simp, Nat.le_refl _, Or.inl rfl⟩
  | cons j l ih =>
    intro W hf hI hl hr
    have hr1 : (reachW im.classes W j sb lb).2.2 = false := by
      by_cases h : (reachW im.classes W j sb lb).2.2 = true
      · have := reachAll_bad (cs := im.classes) (sb := sb) (lb := lb) (l := l) h
        rw [show reachAll im.classes sb lb W (j :: l) = reachAll im.classes sb lb (reachW im.classes W j sb lb) l from rfl, this] at hr
        cases hr
      · simpa using h
    obtain ⟨i1, i2, i3, i4, i5, i6, i7⟩ := reachW_step hW hbd hf hI hz hl hr1
    obtain ⟨k1, k2, k3, k4, k5⟩ := ih hr1 i1 (by omega) hr
    refine ⟨k1, leTab_trans hW.cls i2 k2, ?_, by exact Nat.le_trans k4 i4, ?_⟩
    · intro j' hj'
      simp only [List.mem_cons] at hj'
      rcases hj' with rfl | hj'
      · exact Reach_up hW.cls k2 i3
      · exact k3 j' hj'
    · have hstay : (reachW im.classes W j sb lb).2.1.getD a false = true → (reachAll im.classes sb lb W (j :: l)).2.1.getD a false = true := by
        have gen : ∀ (l : List Nat) (V : Wn), V.2.1.getD a false = true → (reachAll im.classes sb lb V l).2.1.getD a false = true := by
          intro l
          induction l with
          | nil => intro V h; exact h
          | cons q l ih2 => intro V h; exact ih2 (reachW im.classes V q sb lb) (reachW_waits h)
        exact gen l _
      rcases k5 with k5 | k5
      · by_cases haj : a = j
        · subst haj
          rcases i7 with i7 | i7
          · left; exact k5.trans i7
          · right; exact hstay i7
        · left; exact k5.trans (i6 a haj)
      · exact Or.inr k5

theorem reachAll_low {im : Img} (hw : WfC im.classes) {bd : Bod} {H : List St} {sb lb : List UInt8} : ∀ {l : List Nat} {W : Wn}, W.2.2 = false → leTab im.classes W.1 H → (∀ j ∈ l, Reach im.classes H (j : Nat) (sb, lb)) → (reachAll im.classes sb lb W l).2.2 = false ∧ leTab im.classes (reachAll im.classes sb lb W l).1 H := by
  intro l
  induction l with
  | nil => intro W hf h _; exact ⟨hf, h⟩
  | cons j l ih =>
    intro W hf h hr
    have := intoT_below hw (T := (W.1, false, W.2.2)) hf h (hr j (by simp))
    exact ih (W := reachW im.classes W j sb lb) this.1 this.2 (fun j' hj' => hr j' (by simp [hj']))

theorem tgts_ways {cs : List Cls} {H : List St} {x : Ins} {i : Nat} {st : Sp2} : (∀ j ∈ tgts x i, Reach cs H (j : Nat) st) ↔ Reach cs H (waysT x i).1 st ∧ Reach cs H (waysT x i).2 st := by
  have neg : Reach cs H (-1) st := Or.inl (by omega)
  unfold tgts waysT
  split
  · simp [neg]
  split
  · simp [neg]
  split
  · simp
    exact ⟨fun h => ⟨h.2, h.1⟩, fun h => ⟨h.2, h.1⟩⟩
  · simp [neg]

/-- One that waits is followed. -/
def followW (im : Img) (bd : Bod) (W : Wn) (a : Nat) (x : Ins) (s l : List UInt8) : Wn :=
  match effT im.classes im.sigs bd x s l with
  | none => (W.1, W.2.1.set a false, true)
  | some (s', l') => reachAll im.classes s' l' (W.1, W.2.1.set a false, W.2.2) (tgts x a)

theorem followW_low {im : Img} (hw : WfC im.classes) {bd : Bod} {W : Wn} {a : Nat} {x : Ins} {s l : List UInt8} (hL : LowW im bd W) (hx : bd.code[a]? = some x) (hs : W.1[a]? = some (some (s, l))) : LowW im bd (followW im bd W a x s l) := by
  intro H hG
  obtain ⟨h1, h2⟩ := hL H hG
  have hH := h2.2 a
  rw [getD_some.2 hs] at hH
  cases hq : H.getD a none with
  | none => rw [hq] at hH; exact hH.elim
  | some q =>
    obtain ⟨t, m⟩ := q
    rw [hq] at hH
    obtain ⟨t', m', he, r1, r2⟩ := hG.go a x t m hx (getD_some.1 hq)
    obtain ⟨s', l', he', l1, l2⟩ := effT_down hw hH.1 hH.2 he
    unfold followW
    rw [he']
    have low : ∀ j, Reach im.classes H j (t', m') → Reach im.classes H j (s', l') := fun j hj => by
      rcases hj with hj | ⟨st, e1, e2⟩
      · exact Or.inl hj
      · exact Or.inr ⟨st, e1, leS_trans hw ⟨l1, l2⟩ e2⟩
    exact reachAll_low hw (W := (W.1, W.2.1.set a false, W.2.2)) (bd := bd) h1 h2 (tgts_ways.2 ⟨low _ r1, low _ r2⟩)

theorem followW_inv {im : Img} (hW : WfI im) {bd : Bod} (hbd : WfB im.classes im.sigs bd) {W : Wn} {a : Nat} {x : Ins} {s l : List UInt8} (hf : W.2.2 = false) (hI : InvW im bd (fun _ => False) W) (hwt : W.2.1.getD a false = true) (hx : bd.code[a]? = some x) (hs : W.1[a]? = some (some (s, l)))
    (hr : (followW im bd W a x s l).2.2 = false) : InvW im bd (fun _ => False) (followW im bd W a x s l) ∧ muW (followW im bd W a x s l) < muW W := by
  revert hr
  unfold followW
  cases he : effT im.classes im.sigs bd x s l with
  | none => intro hr; cases hr
  | some q =>
    obtain ⟨s', l'⟩ := q
    simp only
    intro hr
    have hz := hI.wf.2 a s l hs
    have he' := effT_ok hW (hbd.code x (List.mem_of_getElem? hx)) hz.1 he
    have hI0 : InvW im bd (fun k => k = a) (W.1, W.2.1.set a false, W.2.2) := by
      refine ⟨hI.wf, by simp [hI.wl], hI.start, fun hb k hk hX hwk => ?_⟩
      refine hI.stab hf k hk (fun h => h) ?_
      have hX' : ¬ a = k := fun h => hX h.symm
      simpa [List.getD, List.getElem?_set, hX'] using hwk
    have hmu0 : muW (W.1, W.2.1.set a false, W.2.2) < muW W := by
      have := waitN_set_false hwt
      unfold muW
      simp only
      omega
    obtain ⟨k1, k2, k3, k4, k5⟩ := reachAll_step hW hbd he'.1 a (W := (W.1, W.2.1.set a false, W.2.2)) hf hI0 (by simp only; omega) hr
    refine ⟨⟨k1.wf, k1.wl, k1.start, fun hb k hk _ hwk => ?_⟩, by omega⟩
    by_cases hka : k = a
    · subst hka
      rcases k5 with k5 | k5
      · intro x' s'' l'' h1 h2
        rw [hx] at h1
        injection h1 with h1
        rw [k5] at h2
        simp only at h2
        rw [hs] at h2
        injection h2 with h2
        injection h2 with h2
        injection h2 with h2 h3
        subst h1 h2 h3
        have := tgts_ways.1 k3
        exact ⟨s', l', he, this.1, this.2⟩
      · rw [k5] at hwk; cases hwk
    · exact k1.stab hb k hk hka hwk

/-- None waits: the table is the least. -/
theorem InvW.done {im : Img} (hW : WfI im) {bd : Bod} (hbd : WfB im.classes im.sigs bd) {W : Wn} (hf : W.2.2 = false) (hI : InvW im bd (fun _ => False) W) (hL : LowW im bd W) (hn : ∀ k, k < bd.code.length → W.2.1.getD k false = false) : leastT im bd = some W.1 := by
  apply leastT_some hW hbd
  · refine ⟨hI.wf.1, ?_, fun i x s l hx hs => hI.stab hf i (List.getElem?_eq_some_iff.1 hx).1 (fun h => h) (hn i (List.getElem?_eq_some_iff.1 hx).1) x s l hx hs⟩
    have h0 := hI.start.2 0
    have hs : (startTab bd).getD 0 none = some ([], bd.locals) := by
      unfold startTab
      simp [List.getD, hbd.len.1]
    rw [hs] at h0
    cases ht : W.1.getD 0 none with
    | none => rw [ht] at h0; exact h0.elim
    | some s0 => rw [ht] at h0; exact ⟨s0, getD_some.1 ht, h0⟩
  · exact fun H hG => (hL H hG).2

/-- It has failed: there is none. -/
theorem LowW.none {im : Img} (hW : WfI im) {bd : Bod} (hbd : WfB im.classes im.sigs bd) {W : Wn} (hL : LowW im bd W) (hf : W.2.2 = true) : leastT im bd = none := by
  apply leastT_none hW hbd
  intro H hG
  have := (hL H hG).1
  rw [hf] at this
  cases this
end Go.Proofs.YtmfbojnnoonidaaGreatDoor
