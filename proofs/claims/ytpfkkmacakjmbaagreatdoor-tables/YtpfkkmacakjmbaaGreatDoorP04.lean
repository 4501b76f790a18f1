import Derived.Test.YtpfkkmacakjmbaaGreatDoorP03
namespace Go.Proofs.YtpfkkmacakjmbaaGreatDoor
open Go Sp
set_option linter.unusedSimpArgs false
set_option linter.unusedVariables false
theorem reachW_bad {cs : List Cls} {W : Wn} {j : Nat} {sb lb : List UInt8} (h : W.2.2 = true) : (reachW cs W j sb lb).2.2 = true := by
 unfold reachW
 rw [bad_stays (by exact h)]
 exact h
theorem reachW_waits {cs : List Cls} {W : Wn} {j k : Nat} {sb lb : List UInt8} (h : W.2.1.getD k false = true) : (reachW cs W j sb lb).2.1.getD k false = true := by
 unfold reachW
 simp only
 split
 ·simp only [List.getD, List.getElem?_set]
  split
  ·rename_i hjk
   subst hjk
   have : j < W.2.1.length := by
    by_cases hj : j < W.2.1.length
    ·exact hj
    ·simp [List.getD, List.getElem?_eq_none (by omega : W.2.1.length ≤ j)] at h
   simp [this]
  ·exact h
 ·exact h
/-- Where an instruction goes on, in the order in which the program goes there. -/
def tgts (x : Ins) (i : Nat) : List Nat := if x.op.toNat = 116 then [] else if x.op.toNat = 106 then [x.b] else if x.op.toNat = 102 then [x.b, i + 1] else [i + 1]
def reachAll (cs : List Cls) (sb lb : List UInt8) (W : Wn) (l : List Nat) : Wn := l.foldl (fun W j => reachW cs W j sb lb) W
theorem reachAll_bad {cs : List Cls} {sb lb : List UInt8} : ∀ {l : List Nat} {W : Wn}, W.2.2 = true → (reachAll cs sb lb W l).2.2 = true := by
 intro l
 induction l with
 | nil => intro W h; exact h
 | cons j l ih => intro W h; exact ih (W := reachW cs W j sb lb) (reachW_bad h)
theorem reachAll_step {im : Img} (hW : WfI im) {bd : Bod} (hbd : WfB im.classes im.sigs bd) {X : Nat → Prop} {sb lb : List UInt8} (hz : okZ im.classes.length bd.locals.length sb lb) (a : Nat) : ∀ {l : List Nat} {W : Wn}, W.2.2 = false → InvW im bd X W → sb.length ≤ setN W.1 → (reachAll im.classes sb lb W l).2.2 = false →
  InvW im bd X (reachAll im.classes sb lb W l) ∧ leTab im.classes W.1 (reachAll im.classes sb lb W l).1 ∧ (∀ j ∈ l, Reach im.classes (reachAll im.classes sb lb W l).1 (j : Nat) (sb, lb)) ∧ muW (reachAll im.classes sb lb W l) ≤ muW W ∧ ((reachAll im.classes sb lb W l).1[a]? = W.1[a]? ∨ (reachAll im.classes sb lb W l).2.1.getD a false = true) := by
 intro l
 induction l with
 | nil => intro W hf hI hl hr; exact ⟨hI, leTab_refl _, by simp, Nat.le_refl _, Or.inl rfl⟩
 | cons j l ih =>
  intro W hf hI hl hr
  have hr1 : (reachW im.classes W j sb lb).2.2 = false := by
   by_cases h : (reachW im.classes W j sb lb).2.2 = true
   ·have := reachAll_bad (cs := im.classes) (sb := sb) (lb := lb) (l := l) h
    rw [show reachAll im.classes sb lb W (j :: l) = reachAll im.classes sb lb (reachW im.classes W j sb lb) l from rfl, this] at hr
    cases hr
   ·simpa using h
  obtain ⟨i1, i2, i3, i4, i5, i6, i7⟩ := reachW_step hW hbd hf hI hz hl hr1
  obtain ⟨k1, k2, k3, k4, k5⟩ := ih hr1 i1 (by omega) hr
  refine ⟨k1, leTab_trans hW.cls i2 k2, ?_, by exact Nat.le_trans k4 i4, ?_⟩
  ·intro j' hj'
   simp only [List.mem_cons] at hj'
   rcases hj' with rfl | hj'
   ·exact Reach_up hW.cls k2 i3
   ·exact k3 j' hj'
  ·have hstay : (reachW im.classes W j sb lb).2.1.getD a false = true → (reachAll im.classes sb lb W (j :: l)).2.1.getD a false = true := by
    have gen : ∀ (l : List Nat) (V : Wn), V.2.1.getD a false = true → (reachAll im.classes sb lb V l).2.1.getD a false = true := by
     intro l
     induction l with
     | nil => intro V h; exact h
     | cons q l ih2 => intro V h; exact ih2 (reachW im.classes V q sb lb) (reachW_waits h)
    exact gen l _
   rcases k5 with k5 | k5
   ·by_cases haj : a = j
    ·subst haj
     rcases i7 with i7 | i7
     ·left; exact k5.trans i7
     ·right; exact hstay i7
    ·left; exact k5.trans (i6 a haj)
   ·exact Or.inr k5
theorem reachAll_low {im : Img} (hw : WfC im.classes) {bd : Bod} {H : List St} {sb lb : List UInt8} : ∀ {l : List Nat} {W : Wn}, W.2.2 = false → leTab im.classes W.1 H → (∀ j ∈ l, Reach im.classes H (j : Nat) (sb, lb)) → (reachAll im.classes sb lb W l).2.2 = false ∧ leTab im.classes (reachAll im.classes sb lb W l).1 H := by
 intro l
 induction l with
 | nil => intro W hf h _; exact ⟨hf, h⟩
 | cons j l ih =>
  intro W hf h hr
  have := intoT_below hw (T := (W.1, false, W.2.2)) hf h (hr j (by simp))
  exact ih (W := reachW im.classes W j sb lb) this.1 this.2 (fun j' hj' => hr j' (by simp [hj']))
theorem tgts_ways {cs : List Cls} {H : List St} {x : Ins} {i : Nat} {st : Sp2} : (∀ j ∈ tgts x i, Reach cs H (j : Nat) st) ↔ Reach cs H (waysT x i).1 st ∧ Reach cs H (waysT x i).2 st := by
 have neg : Reach cs H (-1) st := Or.inl (by omega)
 unfold tgts waysT
 split
 ·simp [neg]
 split
 ·simp [neg]
 split
 ·simp
  exact ⟨fun h => ⟨h.2, h.1⟩, fun h => ⟨h.2, h.1⟩⟩
 ·simp [neg]
/-- One that waits is followed. -/
def followW (im : Img) (bd : Bod) (W : Wn) (a : Nat) (x : Ins) (s l : List UInt8) : Wn :=
 match effT im.classes im.sigs bd x s l with
 | none => (W.1, W.2.1.set a false, true)
 | some (s', l') => reachAll im.classes s' l' (W.1, W.2.1.set a false, W.2.2) (tgts x a)
theorem followW_low {im : Img} (hw : WfC im.classes) {bd : Bod} {W : Wn} {a : Nat} {x : Ins} {s l : List UInt8} (hL : LowW im bd W) (hx : bd.code[a]? = some x) (hs : W.1[a]? = some (some (s, l))) : LowW im bd (followW im bd W a x s l) := by
 intro H hG
 obtain ⟨h1, h2⟩ := hL H hG
 have hH := h2.2 a
 rw [getD_some.2 hs] at hH
 cases hq : H.getD a none with
 | none => rw [hq] at hH; exact hH.elim
 | some q =>
  obtain ⟨t, m⟩ := q
  rw [hq] at hH
  obtain ⟨t', m', he, r1, r2⟩ := hG.go a x t m hx (getD_some.1 hq)
  obtain ⟨s', l', he', l1, l2⟩ := effT_down hw hH.1 hH.2 he
  unfold followW
  rw [he']
  have low : ∀ j, Reach im.classes H j (t', m') → Reach im.classes H j (s', l') := fun j hj => by
   rcases hj with hj | ⟨st, e1, e2⟩
   ·exact Or.inl hj
   ·exact Or.inr ⟨st, e1, leS_trans hw ⟨l1, l2⟩ e2⟩
  exact reachAll_low hw (W := (W.1, W.2.1.set a false, W.2.2)) (bd := bd) h1 h2 (tgts_ways.2 ⟨low _ r1, low _ r2⟩)
theorem followW_inv {im : Img} (hW : WfI im) {bd : Bod} (hbd : WfB im.classes im.sigs bd) {W : Wn} {a : Nat} {x : Ins} {s l : List UInt8} (hf : W.2.2 = false) (hI : InvW im bd (fun _ => False) W) (hwt : W.2.1.getD a false = true) (hx : bd.code[a]? = some x) (hs : W.1[a]? = some (some (s, l)))
  (hr : (followW im bd W a x s l).2.2 = false) : InvW im bd (fun _ => False) (followW im bd W a x s l) ∧ muW (followW im bd W a x s l) < muW W := by
 revert hr
 unfold followW
 cases he : effT im.classes im.sigs bd x s l with
 | none => intro hr; cases hr
 | some q =>
  obtain ⟨s', l'⟩ := q
  simp only
  intro hr
  have hz := hI.wf.2 a s l hs
  have he' := effT_ok hW (hbd.code x (List.mem_of_getElem? hx)) hz.1 he
  have hI0 : InvW im bd (fun k => k = a) (W.1, W.2.1.set a false, W.2.2) := by
   refine ⟨hI.wf, by simp [hI.wl], hI.start, fun hb k hk hX hwk => ?_⟩
   refine hI.stab hf k hk (fun h => h) ?_
   have hX' : ¬ a = k := fun h => hX h.symm
   simpa [List.getD, List.getElem?_set, hX'] using hwk
  have hmu0 : muW (W.1, W.2.1.set a false, W.2.2) < muW W := by
   have := waitN_set_false hwt
   unfold muW
   simp only
   omega
  obtain ⟨k1, k2, k3, k4, k5⟩ := reachAll_step hW hbd he'.1 a (W := (W.1, W.2.1.set a false, W.2.2)) hf hI0 (by simp only; omega) hr
  refine ⟨⟨k1.wf, k1.wl, k1.start, fun hb k hk _ hwk => ?_⟩, by omega⟩
  by_cases hka : k = a
  ·subst hka
   rcases k5 with k5 | k5
   ·intro x' s'' l'' h1 h2
    rw [hx] at h1
    injection h1 with h1
    rw [k5] at h2
    simp only at h2
    rw [hs] at h2
    injection h2 with h2
    injection h2 with h2
    injection h2 with h2 h3
    subst h1 h2 h3
    have := tgts_ways.1 k3
    exact ⟨s', l', he, this.1, this.2⟩
   ·rw [k5] at hwk; cases hwk
  ·exact k1.stab hb k hk hka hwk
/-- None waits: the table is the least. -/
theorem InvW.done {im : Img} (hW : WfI im) {bd : Bod} (hbd : WfB im.classes im.sigs bd) {W : Wn} (hf : W.2.2 = false) (hI : InvW im bd (fun _ => False) W) (hL : LowW im bd W) (hn : ∀ k, k < bd.code.length → W.2.1.getD k false = false) : leastT im bd = some W.1 := by
 apply leastT_some hW hbd
 ·refine ⟨hI.wf.1, ?_, fun i x s l hx hs => hI.stab hf i (List.getElem?_eq_some_iff.1 hx).1 (fun h => h) (hn i (List.getElem?_eq_some_iff.1 hx).1) x s l hx hs⟩
  have h0 := hI.start.2 0
  have hs : (startTab bd).getD 0 none = some ([], bd.locals) := by
   unfold startTab
   simp [List.getD, hbd.len.1]
  rw [hs] at h0
  cases ht : W.1.getD 0 none with
  | none => rw [ht] at h0; exact h0.elim
  | some s0 => rw [ht] at h0; exact ⟨s0, getD_some.1 ht, h0⟩
 ·exact fun H hG => (hL H hG).2
/-- It has failed: there is none. -/
theorem LowW.none {im : Img} (hW : WfI im) {bd : Bod} (hbd : WfB im.classes im.sigs bd) {W : Wn} (hL : LowW im bd W) (hf : W.2.2 = true) : leastT im bd = none := by
 apply leastT_none hW hbd
 intro H hG
 have := (hL H hG).1
 rw [hf] at this
 cases this
end Go.Proofs.YtpfkkmacakjmbaaGreatDoor
/- The state behind an instruction, as the program says it: one list of what is asked for. -/
namespace Go.Proofs.YtpfkkmacakjmbaaGreatDoor
open Go Sp
set_option linter.unusedSimpArgs false
set_option linter.unusedVariables false
def takesT (cs : List Cls) (gs : List Sig) (b : Bod) (x : Ins) : List UInt8 :=
 if x.op.toNat = 115 ∨ x.op.toNat = 100 then [45] else if x.op.toNat = 101 then [38, 38] else if x.op.toNat = 120 then [38] else popsT cs gs b x
def suitsT (cs : List Cls) (a c : UInt8) : Bool := if c.toNat = 38 then isR a else subT cs a c
def suitT (cs : List Cls) (st asked : List UInt8) : Bool := decide (asked.length ≤ st.length) && (List.range asked.length).all fun i => suitsT cs (st.getD (st.length - asked.length + i) 0) (asked.getD i 0)
def laysT (cs : List Cls) (gs : List Sig) (x : Ins) (lo : List UInt8) : List UInt8 := if x.op.toNat = 108 then [lo.getD x.b 0] else pushT cs gs x
def behindT (cs : List Cls) (gs : List Sig) (b : Bod) (x : Ins) (st lo : List UInt8) : Option (List UInt8 × List UInt8) :=
 if suitT cs st (takesT cs gs b x) = false ∨ (x.op.toNat = 108 ∧ (lo.getD x.b 0).toNat = 45) then none else
 some (st.take (st.length - (takesT cs gs b x).length) ++ laysT cs gs x lo, if x.op.toNat = 115 then lo.set x.b (st.getD (st.length - 1) 0) else lo)
theorem suit1 {cs : List Cls} {st : List UInt8} {c : UInt8} : suitT cs st [c] = (decide (1 ≤ st.length) && suitsT cs (st.getD (st.length - 1) 0) c) := by
 simp [suitT, List.range_succ]
theorem suit2 {cs : List Cls} {st : List UInt8} {c d : UInt8} : suitT cs st [c, d] = (decide (2 ≤ st.length) && (suitsT cs (st.getD (st.length - 2) 0) c && suitsT cs (st.getD (st.length - 2 + 1) 0) d)) := by
 simp [suitT, List.range_succ]
/-- No letter of a class, nor i, is the sign that asks for any reference. -/
theorem suit_fits {cs : List Cls} {st wa : List UInt8} (h : ∀ c ∈ wa, c.toNat ≠ 38) : suitT cs st wa = fitsT cs st wa := by
 unfold suitT fitsT
 congr 1
 rw [Bool.eq_iff_iff]
 simp only [List.all_eq_true, List.mem_range]
 have key : ∀ i, i < wa.length → suitsT cs (st.getD (st.length - wa.length + i) 0) (wa.getD i 0) = subT cs (st.getD (st.length - wa.length + i) 0) (wa.getD i 0) := by
  intro i hi
  unfold suitsT
  rw [if_neg]
  have : wa.getD i 0 = wa[i] := by simp [List.getD, hi]
  rw [this]
  exact h _ (List.getElem_mem hi)
 exact ⟨fun hh i hi => by rw [← key i hi]; exact hh i hi, fun hh i hi => by rw [key i hi]; exact hh i hi⟩
theorem effT_behind {cs : List Cls} {gs : List Sig} {b : Bod} {x : Ins} {st lo : List UInt8} (hp : ∀ c ∈ popsT cs gs b x, c.toNat ≠ 38) : effT cs gs b x st lo = behindT cs gs b x st lo := by
 have top : ∀ a : UInt8, suitsT cs a 45 = true := fun a => by unfold suitsT; rw [if_neg (by decide)]; exact subT_iff.2 (Or.inr (Or.inl rfl))
 have ref : ∀ a : UInt8, suitsT cs a 38 = isR a := fun a => by unfold suitsT; rw [if_pos (by decide)]
 unfold effT behindT takesT laysT
 by_cases h115 : x.op.toNat = 115
 ·rw [if_pos (Or.inl h115), if_pos (Or.inl h115), suit1, top, Bool.and_true]
  simp only [h115, looseT]
  by_cases hl : st.length < 1
  ·simp [hl]
  ·have : 1 ≤ st.length := by omega
   simp [this, show ¬ st.length < 1 from hl]
 by_cases h100 : x.op.toNat = 100
 ·rw [if_pos (Or.inr (Or.inl h100)), if_pos (Or.inr h100), suit1, top, Bool.and_true]
  simp only [h100, looseT]
  by_cases hl : st.length < 1
  ·simp [hl]
  ·have : 1 ≤ st.length := by omega
   simp [this, show ¬ st.length < 1 from hl]
 have hsd : ¬ (x.op.toNat = 115 ∨ x.op.toNat = 100) := by omega
 by_cases h101 : x.op.toNat = 101
 ·rw [if_pos (Or.inr (Or.inr (Or.inl h101))), if_neg hsd, if_pos h101, suit2, ref, ref]
  simp only [h101, looseT, if_true]
  by_cases hl : st.length < 2
  ·simp [hl, show ¬ 2 ≤ st.length by omega]
  ·have h2 : 2 ≤ st.length := by omega
   have e : st.length - 2 + 1 = st.length - 1 := by omega
   rw [e]
   cases h3 : isR (st.getD (st.length - 1) 0) <;> cases h4 : isR (st.getD (st.length - 2) 0) <;> simp [hl, h2, h3, h4]
 by_cases h120 : x.op.toNat = 120
 ·rw [if_pos (Or.inr (Or.inr (Or.inr h120))), if_neg hsd, if_neg h101, if_pos h120, suit1, ref]
  simp only [h120, looseT]
  by_cases hl : st.length < 1
  ·simp [hl, show ¬ 1 ≤ st.length by omega]
  ·have h2 : 1 ≤ st.length := by omega
   cases h3 : isR (st.getD (st.length - 1) 0) <;> simp [hl, h2, h3]
 have hlo : ¬ (x.op.toNat = 115 ∨ x.op.toNat = 100 ∨ x.op.toNat = 101 ∨ x.op.toNat = 120) := by omega
 rw [if_neg hlo, if_neg hsd, if_neg h101, if_neg h120, suit_fits hp]
 by_cases h108 : x.op.toNat = 108
 ·have hpo : popsT cs gs b x = [] := by
   unfold popsT
   simp [h108, arith]
  rw [if_pos h108, hpo]
  simp only [h108, if_true, true_and]
  have hf : fitsT cs st [] = true := by simp [fitsT]
  rw [hf]
  simp
 ·rw [if_neg h108, if_neg h108]
  simp only [h108, false_and, or_false]
  cases fitsT cs st (popsT cs gs b x) <;> simp [h115]
theorem popsT_ok {im : Img} (hW : WfI im) {bd : Bod} (hbd : WfB im.classes im.sigs bd) {x : Ins} (hx : WfX im.classes im.sigs.length bd.locals.length x) : ∀ c ∈ popsT im.classes im.sigs bd x, okT im.classes.length c = true := by
 intro c hc
 have hcl : ∀ a, a < im.classes.length → okT im.classes.length (clsT a) = true := by
  intro a ha
  have := hW.nc
  rw [okT_iff]
  right; left
  have h1 : (clsT a).toNat = 65 + a := by simp [clsT]; omega
  omega
 have h105 : okT im.classes.length 105 = true := by simp [okT_iff]
 have hfld : x.op.toNat = 112 → okT im.classes.length (fieldT im.classes x.a x.b) = true := by
  intro h
  have h1 := hx.cls (by omega)
  have h2 := hx.fld (by omega)
  obtain ⟨cl, hcl⟩ : ∃ cl, im.classes[x.a]? = some cl := ⟨_, List.getElem?_eq_getElem h1⟩
  unfold fieldT
  rw [hcl]
  simp only [nFields, hcl] at h2
  simp only [Option.map_some, Option.getD_some] at h2 ⊢
  have hf := hW.cls x.a cl hcl
  have hm : cl.fields.getD x.b 0 ∈ cl.fields := by
   have : cl.fields.getD x.b 0 = cl.fields[x.b]'(by simpa using h2) := by simp [List.getD, h2]
   rw [this]; exact List.getElem_mem _
  exact isTy_ok (isTy_mono (by omega) (hf.2.2.2 _ hm))
 have harg : x.op.toNat = 99 → okT im.classes.length (argT im.sigs x.b) = true := by
  intro h
  obtain ⟨g, hg⟩ : ∃ g, im.sigs[x.b]? = some g := ⟨_, List.getElem?_eq_getElem (hx.sig h)⟩
  unfold argT
  rw [hg]
  exact isTy_ok (hW.sig g (List.mem_of_getElem? hg)).1
 have hret : ¬ bd.cls < 0 → okT im.classes.length (retT im.sigs bd.meth.toNat) = true := by
  intro h
  rcases hbd.cls with h1 | h1
  ·omega
  ·obtain ⟨g, hg⟩ : ∃ g, im.sigs[bd.meth.toNat]? = some g := ⟨_, List.getElem?_eq_getElem (by omega)⟩
   unfold retT
   rw [hg]
   exact isTy_ok (hW.sig g (List.mem_of_getElem? hg)).2
 unfold popsT at hc
 split at hc
 ·simp at hc; subst hc; exact h105
 split at hc
 ·simp at hc; subst hc; exact h105
 split at hc
 ·rename_i h; simp at hc; subst hc; exact hcl _ (hx.cls (by omega))
 split at hc
 ·rename_i h
  simp at hc
  rcases hc with rfl | rfl
  ·exact hcl _ (hx.cls (by omega))
  ·exact hfld h
 split at hc
 ·rename_i h
  simp at hc
  rcases hc with rfl | rfl
  ·exact hcl _ (hx.cls (by omega))
  ·exact harg h
 split at hc
 ·split at hc
  ·simp at hc; subst hc; exact h105
  ·rename_i h; simp at hc; subst hc; exact hret h
 ·simp at hc
theorem effT_prog {im : Img} (hW : WfI im) {bd : Bod} (hbd : WfB im.classes im.sigs bd) {x : Ins} (hx : WfX im.classes im.sigs.length bd.locals.length x) (st lo : List UInt8) : effT im.classes im.sigs bd x st lo = behindT im.classes im.sigs bd x st lo :=
 effT_behind (fun c hc => by have := popsT_ok hW hbd hx c hc; rw [okT_iff] at this; have := hW.nc; omega)
end Go.Proofs.YtpfkkmacakjmbaaGreatDoor
