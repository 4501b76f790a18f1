import Derived.Test.YtpfkkmacakjmbaaGreatDoorP02
/- States and tables in their order; the state behind an instruction rises with the state ahead. -/
namespace Go.Proofs.YtpfkkmacakjmbaaGreatDoor
open Go Sp
set_option linter.unusedSimpArgs false
set_option linter.unusedVariables false
/-- Types below types, one by one. -/
def leL (cs : List Cls) : List UInt8 → List UInt8 → Prop
 | [], [] => True
 | x :: a, y :: b => subT cs x y = true ∧ leL cs a b
 | _, _ => False
theorem leL_refl {cs : List Cls} : ∀ a : List UInt8, leL cs a a
 | [] => trivial
 | x :: a => ⟨subT_refl x, leL_refl a⟩
theorem leL_len {cs : List Cls} : ∀ {a b : List UInt8}, leL cs a b → a.length = b.length
 | [], [], _ => rfl
 | x :: a, y :: b, h => by simp [leL_len h.2]
 | [], _ :: _, h => h.elim
 | _ :: _, [], h => h.elim
theorem leL_trans {cs : List Cls} (hw : WfC cs) : ∀ {a b c : List UInt8}, leL cs a b → leL cs b c → leL cs a c
 | [], [], [], _, _ => trivial
 | x :: a, y :: b, z :: c, h, k => ⟨subT_trans hw h.1 k.1, leL_trans hw h.2 k.2⟩
 | [], _ :: _, _, h, _ => h.elim
 | _ :: _, [], _, h, _ => h.elim
 | [], [], _ :: _, _, k => k.elim
 | _ :: _, _ :: _, [], _, k => k.elim
theorem leL_anti {cs : List Cls} (hw : WfC cs) : ∀ {a b : List UInt8}, leL cs a b → leL cs b a → a = b
 | [], [], _, _ => rfl
 | x :: a, y :: b, h, k => by rw [subT_anti hw h.1 k.1, leL_anti hw h.2 k.2]
 | [], _ :: _, h, _ => h.elim
 | _ :: _, [], h, _ => h.elim
theorem leL_append {cs : List Cls} : ∀ {a b c d : List UInt8}, leL cs a b → leL cs c d → leL cs (a ++ c) (b ++ d)
 | [], [], _, _, _, k => k
 | x :: a, y :: b, _, _, h, k => ⟨h.1, leL_append h.2 k⟩
 | [], _ :: _, _, _, h, _ => h.elim
 | _ :: _, [], _, _, h, _ => h.elim
theorem leL_take {cs : List Cls} : ∀ {a b : List UInt8} (k : Nat), leL cs a b → leL cs (a.take k) (b.take k)
 | [], [], k, _ => by simp [leL]
 | x :: a, y :: b, 0, h => trivial
 | x :: a, y :: b, k + 1, h => ⟨h.1, leL_take k h.2⟩
 | [], _ :: _, _, h => h.elim
 | _ :: _, [], _, h => h.elim
theorem leL_getD {cs : List Cls} : ∀ {a b : List UInt8} (k : Nat), leL cs a b → subT cs (a.getD k 0) (b.getD k 0) = true
 | [], [], k, _ => by simp [subT_refl]
 | x :: a, y :: b, 0, h => by simpa using h.1
 | x :: a, y :: b, k + 1, h => by simpa using leL_getD k h.2
 | [], _ :: _, _, h => h.elim
 | _ :: _, [], _, h => h.elim
theorem leL_set {cs : List Cls} : ∀ {a b : List UInt8} (k : Nat) {u v : UInt8}, leL cs a b → subT cs u v = true → leL cs (a.set k u) (b.set k v)
 | [], [], k, _, _, _, _ => by simp [leL]
 | x :: a, y :: b, 0, _, _, h, hu => ⟨hu, h.2⟩
 | x :: a, y :: b, k + 1, _, _, h, hu => ⟨h.1, leL_set k h.2 hu⟩
 | [], _ :: _, _, _, _, h, _ => h.elim
 | _ :: _, [], _, _, _, h, _ => h.elim
theorem bothT_lub {cs : List Cls} (hw : WfC cs) : ∀ {a b : List UInt8}, a.length = b.length → leL cs a (bothT cs a b) ∧ leL cs b (bothT cs a b) ∧ ∀ c, leL cs a c → leL cs b c → leL cs (bothT cs a b) c
 | [], [], _ => ⟨trivial, trivial, fun c h _ => h⟩
 | x :: a, y :: b, h => by
  have ih := bothT_lub hw (a := a) (b := b) (by simpa using h)
  have hj := joinT_lub hw x y
  refine ⟨⟨hj.1, ih.1⟩, ⟨hj.2.1, ih.2.1⟩, fun c h1 h2 => ?_⟩
  match c, h1, h2 with
  | z :: c, h1, h2 => exact ⟨hj.2.2 z h1.1 h2.1, ih.2.2 c h1.2 h2.2⟩
  | [], h1, _ => exact h1.elim
 | [], _ :: _, h => by simp at h
 | _ :: _, [], h => by simp at h
abbrev Sp2 := List UInt8 × List UInt8
def leS (cs : List Cls) (a b : Sp2) : Prop := leL cs a.1 b.1 ∧ leL cs a.2 b.2
def leO (cs : List Cls) : St → St → Prop
 | none, _ => True
 | some a, some b => leS cs a b
 | some _, none => False
def leTab (cs : List Cls) (t u : List St) : Prop := t.length = u.length ∧ ∀ k : Nat, leO cs (t.getD k none) (u.getD k none)
theorem leS_trans {cs : List Cls} (hw : WfC cs) {a b c : Sp2} (h : leS cs a b) (k : leS cs b c) : leS cs a c := ⟨leL_trans hw h.1 k.1, leL_trans hw h.2 k.2⟩
theorem leO_refl {cs : List Cls} (a : St) : leO cs a a := by
 cases a with
 | none => trivial
 | some a => exact ⟨leL_refl _, leL_refl _⟩
theorem leO_trans {cs : List Cls} (hw : WfC cs) {a b c : St} (h : leO cs a b) (k : leO cs b c) : leO cs a c := by
 cases a with
 | none => trivial
 | some a =>
  cases b with
  | none => exact h.elim
  | some b =>
   cases c with
   | none => exact k.elim
   | some c => exact leS_trans hw h k
theorem leO_anti {cs : List Cls} (hw : WfC cs) {a b : St} (h : leO cs a b) (k : leO cs b a) : a = b := by
 cases a with
 | none =>
  cases b with
  | none => rfl
  | some b => exact k.elim
 | some a =>
  cases b with
  | none => exact h.elim
  | some b =>
   obtain ⟨a1, a2⟩ := a
   obtain ⟨b1, b2⟩ := b
   have h1 : a1 = b1 := leL_anti hw h.1 k.1
   have h2 : a2 = b2 := leL_anti hw h.2 k.2
   rw [h1, h2]
theorem leTab_anti {cs : List Cls} (hw : WfC cs) {t u : List St} (h : leTab cs t u) (k : leTab cs u t) : t = u := by
 apply List.ext_getElem h.1
 intro i h1 h2
 have := leO_anti hw (h.2 i) (k.2 i)
 simpa [List.getD, h1, h2] using this
theorem leTab_refl {cs : List Cls} (t : List St) : leTab cs t t := ⟨rfl, fun _ => leO_refl _⟩
theorem leTab_trans {cs : List Cls} (hw : WfC cs) {t u v : List St} (h : leTab cs t u) (k : leTab cs u v) : leTab cs t v := ⟨h.1.trans k.1, fun i => leO_trans hw (h.2 i) (k.2 i)⟩
theorem isR_down {cs : List Cls} {a b : UInt8} (h : subT cs a b = true) (hb : isR b = true) : isR a = true := by
 rw [subT_iff] at h
 simp only [isR, Bool.or_eq_true, decide_eq_true_eq] at hb ⊢
 rcases h with rfl | h | ⟨_, h⟩ | ⟨h, _⟩
 ·exact hb
 ·rcases hb with hb | hb
  ·omega
  ·rw [isC_iff] at hb; omega
 ·exact Or.inl h
 ·exact Or.inr h
theorem looseT_down {cs : List Cls} {c : Nat} {s t : List UInt8} {k : Nat} (h : leL cs s t) (hk : looseT c t = some k) : looseT c s = some k := by
 have hl := leL_len h
 unfold looseT at hk ⊢
 have d1 := fun hb => isR_down (leL_getD (t.length - 1) h) hb
 have d2 := fun hb => isR_down (leL_getD (t.length - 2) h) hb
 rw [hl]
 split at hk
 ·rename_i h101
  rw [if_pos h101]
  split at hk
  ·cases hk
  ·rename_i hn
   rw [if_neg]
   ·exact hk
   ·simp only [not_or, Bool.not_eq_false] at hn ⊢
    exact ⟨hn.1, d1 hn.2.1, d2 hn.2.2⟩
 ·rename_i h101
  rw [if_neg h101]
  split at hk
  ·cases hk
  ·rename_i hn
   rw [if_neg]
   ·exact hk
   ·simp only [not_or, not_and, Bool.not_eq_false] at hn ⊢
    exact ⟨hn.1, fun h120 => d1 (hn.2 h120)⟩
theorem fitsT_down {cs : List Cls} (hw : WfC cs) {s t wa : List UInt8} (h : leL cs s t) (hf : fitsT cs t wa = true) : fitsT cs s wa = true := by
 have hl := leL_len h
 unfold fitsT at hf ⊢
 simp only [Bool.and_eq_true, decide_eq_true_eq, List.all_eq_true, List.mem_range] at hf ⊢
 rw [hl]
 exact ⟨hf.1, fun i hi => subT_trans hw (leL_getD _ h) (hf.2 i hi)⟩
/-- The state behind rises with the state ahead. -/
theorem effT_down {cs : List Cls} (hw : WfC cs) {gs : List Sig} {b : Bod} {x : Ins} {s l t m t' m' : List UInt8} (h1 : leL cs s t) (h2 : leL cs l m) (he : effT cs gs b x t m = some (t', m')) :
  ∃ s' l', effT cs gs b x s l = some (s', l') ∧ leL cs s' t' ∧ leL cs l' m' := by
 have hl := leL_len h1
 unfold effT at he ⊢
 split at he
 ·rename_i hc
  rw [if_pos hc]
  split at he
  ·cases he
  ·rename_i k hk
   rw [looseT_down h1 hk]
   injection he with he
   injection he with e1 e2
   refine ⟨_, _, rfl, ?_, ?_⟩
   ·rw [← e1, hl]; exact leL_append (leL_take _ h1) (leL_refl _)
   ·rw [← e2, hl]
    split
    ·exact leL_set _ h2 (leL_getD _ h1)
    ·exact h2
 ·rename_i hc
  rw [if_neg hc]
  split at he
  ·rename_i h108
   rw [if_pos h108]
   split at he
   ·cases he
   ·rename_i h45
    injection he with he
    injection he with e1 e2
    have hd := leL_getD x.b h2
    have : ¬ (l.getD x.b 0).toNat = 45 := by
     intro h
     rw [subT_iff] at hd
     rcases hd with hd | hd | ⟨_, hd⟩ | ⟨hd, _⟩
     ·rw [hd] at h; exact h45 h
     ·exact h45 hd
     ·omega
     ·rw [isC_iff] at hd; omega
    rw [if_neg this]
    refine ⟨_, _, rfl, ?_, ?_⟩
    ·rw [← e1]; exact leL_append h1 ⟨hd, trivial⟩
    ·rw [← e2]; exact h2
  ·rename_i h108
   rw [if_neg h108]
   split at he
   ·rename_i hf
    rw [if_pos (fitsT_down hw h1 hf)]
    injection he with he
    injection he with e1 e2
    refine ⟨_, _, rfl, ?_, ?_⟩
    ·rw [← e1, hl]; exact leL_append (leL_take _ h1) (leL_refl _)
    ·rw [← e2]; exact h2
   ·cases he
/-- A state is at least so high where number j is; j under nought: nowhere. -/
def Reach (cs : List Cls) (H : List St) (j : Int) (st : Sp2) : Prop := j < 0 ∨ ∃ st', H[j.toNat]? = some (some st') ∧ leS cs st st'
/-- A table holds. -/
structure Good (im : Img) (bd : Bod) (H : List St) : Prop where
 len : H.length = bd.code.length
 start : ∃ s0, H[0]? = some (some s0) ∧ leS im.classes ([], bd.locals) s0
 go : ∀ (i : Nat) (x : Ins) (s l : List UInt8), bd.code[i]? = some x → H[i]? = some (some (s, l)) → ∃ s' l', effT im.classes im.sigs bd x s l = some (s', l') ∧ Reach im.classes H (waysT x i).1 (s', l') ∧ Reach im.classes H (waysT x i).2 (s', l')
theorem getD_some {t : List St} {k : Nat} {p : Sp2} : t.getD k none = some p ↔ t[k]? = some (some p) := by
 simp only [List.getD]
 cases h : t[k]? with
 | none => simp
 | some o => simp
theorem mergeT_lub {cs : List Cls} (hw : WfC cs) {o : St} {sb lb : List UInt8} {m : Sp2} (hl : ∀ s l, o = some (s, l) → l.length = lb.length) (h : mergeT cs o sb lb = some m) : leO cs o (some m) ∧ leS cs (sb, lb) m ∧ ∀ c, leO cs o (some c) → leS cs (sb, lb) c → leS cs m c := by
 cases o with
 | none =>
  simp [mergeT] at h
  subst h
  exact ⟨trivial, ⟨leL_refl _, leL_refl _⟩, fun c _ h => h⟩
 | some p =>
  obtain ⟨sa, la⟩ := p
  simp only [mergeT] at h
  split at h
  ·rename_i hlen
   injection h with h
   subst h
   have b1 := bothT_lub hw hlen
   have b2 := bothT_lub hw (hl sa la rfl)
   exact ⟨⟨b1.1, b2.1⟩, ⟨b1.2.1, b2.2.1⟩, fun c h k => ⟨b1.2.2 _ h.1 k.1, b2.2.2 _ h.2 k.2⟩⟩
  ·cases h
/-- Below a table that holds, a state that comes in stays below. -/
theorem intoT_below {cs : List Cls} (hw : WfC cs) {T : Tn} {H : List St} {j : Int} {sb lb : List UInt8} (hb : T.2.2 = false) (h : leTab cs T.1 H) (hr : Reach cs H j (sb, lb)) :
  (intoT cs T j sb lb).2.2 = false ∧ leTab cs (intoT cs T j sb lb).1 H := by
 unfold intoT
 split
 ·exact ⟨hb, h⟩
 rename_i hj
 simp only [hb, false_or, Bool.false_eq_true] at hj
 rcases hr with hr | ⟨st', hst, hle⟩
 ·exact absurd hr hj
 have hjl : j.toNat < H.length := (List.getElem?_eq_some_iff.1 hst).1
 have hlen := h.1
 split
 ·omega
 have ho := h.2 j.toNat
 rw [getD_some.2 hst] at ho
 have hms : ∃ m, mergeT cs (T.1.getD j.toNat none) sb lb = some m := by
  cases hh : T.1.getD j.toNat none with
  | none => exact ⟨_, rfl⟩
  | some p =>
   rw [hh] at ho
   have e1 := leL_len ho.1
   have e2 := leL_len hle.1
   simp only at e2
   exact ⟨_, by unfold mergeT; simp only; rw [if_pos (by omega)]⟩
 obtain ⟨m, hm⟩ := hms
 rw [hm]
 simp only
 split
 ·exact ⟨hb, h⟩
 ·refine ⟨rfl, ⟨by rw [List.length_set]; exact hlen, fun k => ?_⟩⟩
  by_cases hk : k = j.toNat
  ·subst hk
   have hs : (T.1.set j.toNat (some m)).getD j.toNat none = some m := by simp [List.getD, show j.toNat < T.1.length by omega]
   rw [hs, getD_some.2 hst]
   have hl : ∀ s l, T.1.getD j.toNat none = some (s, l) → l.length = lb.length := fun s l hh => by
    rw [hh] at ho
    have e1 := leL_len ho.2
    have e2 := leL_len hle.2
    simp only at e1 e2
    omega
   exact (mergeT_lub hw hl hm).2.2 st' ho hle
  ·have hs : (T.1.set j.toNat (some m)).getD k none = T.1.getD k none := by simp [List.getD, List.getElem?_set, show ¬ j.toNat = k from fun h => hk h.symm]
   rw [hs]
   exact h.2 k
theorem stepT_below {im : Img} (hw : WfC im.classes) {bd : Bod} {T : Tn} {H : List St} (hG : Good im bd H) (hb : T.2.2 = false) (h : leTab im.classes T.1 H) (i : Nat) :
  ∃ T', stepT im bd T i = some T' ∧ T'.2.2 = false ∧ leTab im.classes T'.1 H := by
 cases hx : bd.code[i]? with
 | none => exact ⟨T, by unfold stepT; rw [hx], hb, h⟩
 | some x =>
  cases ho : T.1.getD i none with
  | none => exact ⟨T, by unfold stepT; rw [hx, ho], hb, h⟩
  | some p =>
   obtain ⟨s, l⟩ := p
   have hH := h.2 i
   rw [ho] at hH
   cases hq : H.getD i none with
   | none => rw [hq] at hH; exact hH.elim
   | some q =>
    obtain ⟨t, m⟩ := q
    rw [hq] at hH
    obtain ⟨t', m', he, r1, r2⟩ := hG.go i x t m hx (getD_some.1 hq)
    obtain ⟨s', l', he', l1, l2⟩ := effT_down hw hH.1 hH.2 he
    refine ⟨_, stepT_some hx (getD_some.1 ho) he', ?_⟩
    have low : ∀ j, Reach im.classes H j (t', m') → Reach im.classes H j (s', l') := fun j hj => by
     rcases hj with hj | ⟨st, h1, h2⟩
     ·exact Or.inl hj
     ·exact Or.inr ⟨st, h1, leS_trans hw ⟨l1, l2⟩ h2⟩
    have i1 := intoT_below hw hb h (low _ r1)
    exact intoT_below hw i1.1 i1.2 (low _ r2)
theorem sweepT_below {im : Img} (hw : WfC im.classes) {bd : Bod} {H : List St} (hG : Good im bd H) : ∀ {f i : Nat} {T : Tn}, T.2.2 = false → leTab im.classes T.1 H → ∃ T', sweepT im bd f i T = some T' ∧ T'.2.2 = false ∧ leTab im.classes T'.1 H := by
 intro f
 induction f with
 | zero => intro i T hb h; exact ⟨T, rfl, hb, h⟩
 | succ f ih =>
  intro i T hb h
  obtain ⟨T1, h1, h2, h3⟩ := stepT_below hw hG hb h i
  obtain ⟨T2, h4, h5⟩ := ih (i := i + 1) h2 h3
  exact ⟨T2, by rw [sweepT_some hb h1]; exact h4, h5⟩
theorem roundsT_below {im : Img} (hw : WfC im.classes) {bd : Bod} {H : List St} (hG : Good im bd H) : ∀ {f : Nat} {tb : List St} {ch : Bool}, leTab im.classes tb H → ∃ t, roundsT im bd f (tb, ch, false) = some t ∧ leTab im.classes t H := by
 intro f
 induction f with
 | zero => intro tb ch h; exact ⟨tb, rfl, h⟩
 | succ f ih =>
  intro tb ch h
  cases ch with
  | false => exact ⟨tb, roundsT_stop im bd _ tb _, h⟩
  | true =>
   obtain ⟨T1, h1, h2, h3⟩ := sweepT_below hw hG (f := bd.code.length) (i := 0) (T := (tb, false, false)) rfl h
   obtain ⟨t1, c1, b1⟩ := T1
   simp only at h2 h3
   subst h2
   obtain ⟨t, h4, h5⟩ := ih (ch := c1) h3
   refine ⟨t, ?_, h5⟩
   rw [roundsT_go, h1]
   simp only [afterSweep]
   rw [if_neg (by simp)]
   exact h4
theorem startTab_below {im : Img} {bd : Bod} {H : List St} (hG : Good im bd H) : leTab im.classes (startTab bd) H := by
 obtain ⟨s0, h0, hs⟩ := hG.start
 refine ⟨by unfold startTab; simp [hG.len], fun k => ?_⟩
 unfold startTab
 have hlt : 0 < bd.code.length := by rw [← hG.len]; exact (List.getElem?_eq_some_iff.1 h0).1
 cases k with
 | zero =>
  have : ((List.replicate bd.code.length (none : St)).set 0 (some ([], bd.locals))).getD 0 none = some ([], bd.locals) := by simp [List.getD, hlt]
  rw [this, getD_some.2 h0]
  exact hs
 | succ k =>
  have : ((List.replicate bd.code.length (none : St)).set 0 (some ([], bd.locals))).getD (k + 1) none = none := by
   simp only [List.getD, List.getElem?_set]
   rw [if_neg (by omega)]
   rw [List.getElem?_replicate]
   split <;> rfl
  rw [this]
  trivial
/-- If a table holds, the working out comes to one that is below it. -/
theorem leastT_below {im : Img} (hw : WfC im.classes) {bd : Bod} {H : List St} (hG : Good im bd H) : ∃ t, leastT im bd = some t ∧ leTab im.classes t H :=
 roundsT_below hw hG (startTab_below hG)
end Go.Proofs.YtpfkkmacakjmbaaGreatDoor
/- The working out ends within its rounds, and what it comes to holds. -/
namespace Go.Proofs.YtpfkkmacakjmbaaGreatDoor
open Go Sp
set_option linter.unusedSimpArgs false
set_option linter.unusedVariables false
/-- How often a type can rise, at most. -/
def rk (c : UInt8) : Nat := if c.toNat = 45 then 0 else if c.toNat = 122 then 5 else if isC c = true then 1 + (c.toNat - 65) else 1
theorem rk_le (c : UInt8) : rk c ≤ 5 := by
 unfold rk
 split
 ·omega
 split
 ·omega
 split
 ·rename_i h; rw [isC_iff] at h; omega
 ·omega
theorem rk_cls {c : UInt8} (h : isC c = true) : rk c = 1 + (c.toNat - 65) ∧ 65 ≤ c.toNat ∧ c.toNat ≤ 68 := by
 have h' := h
 rw [isC_iff] at h'
 unfold rk
 rw [if_neg (by omega), if_neg (by omega), if_pos h]
 exact ⟨rfl, h'.1, h'.2⟩
theorem rk_lt {cs : List Cls} (hw : WfC cs) {a b : UInt8} (h : subT cs a b = true) (hne : a ≠ b) : rk b < rk a := by
 have hne' : a.toNat ≠ b.toNat := fun e => hne (UInt8.toNat_inj.1 e)
 rw [subT_iff] at h
 rcases h with h | h | ⟨h1, h2⟩ | ⟨h1, h2, h3⟩
 ·exact absurd h hne
 ·have hb : rk b = 0 := by unfold rk; rw [if_pos h]
  have ha : 1 ≤ rk a := by
   unfold rk
   rw [if_neg (by omega)]
   split
   ·omega
   split <;> omega
  omega
 ·have := rk_cls h1
  have ha : rk a = 5 := by unfold rk; rw [if_neg (by omega), if_pos h2]
  omega
 ·have c1 := rk_cls h1
  have c2 := rk_cls h2
  have r := kl_range hw h1
  have := U_le hw 4 (by omega) (by omega) h3
  unfold kl at this
  omega
def sumL (l : List UInt8) : Nat := (l.map rk).sum
theorem sumL_le : ∀ l : List UInt8, sumL l ≤ 5 * l.length
 | [] => by simp [sumL]
 | x :: l => by
  have := sumL_le l
  have := rk_le x
  simp only [sumL, List.map_cons, List.sum_cons, List.length_cons] at *
  omega
theorem sumL_down {cs : List Cls} (hw : WfC cs) : ∀ {a b : List UInt8}, leL cs a b → sumL b ≤ sumL a ∧ (a ≠ b → sumL b < sumL a)
 | [], [], _ => ⟨Nat.le_refl _, fun h => absurd rfl h⟩
 | x :: a, y :: b, h => by
  have ih := sumL_down hw h.2
  simp only [sumL, List.map_cons, List.sum_cons] at *
  by_cases hxy : x = y
  ·subst hxy
   refine ⟨by omega, fun hn => ?_⟩
   have := ih.2 (fun e => hn (by rw [e]))
   omega
  ·have := rk_lt hw h.1 hxy
   exact ⟨by omega, fun _ => by omega⟩
 | [], _ :: _, h => h.elim
 | _ :: _, [], h => h.elim
def wt : St → Nat
 | none => 700
 | some (s, l) => sumL s + sumL l
def mu (t : List St) : Nat := (t.map wt).sum
theorem mu_set : ∀ {t : List St} {j : Nat} (o : St) (hj : j < t.length), mu (t.set j o) + wt t[j] = mu t + wt o
 | x :: t, 0, o, _ => by simp [mu]; omega
 | x :: t, j + 1, o, h => by
  have := mu_set (t := t) (j := j) o (by simpa using h)
  simp only [mu, List.set_cons_succ, List.map_cons, List.sum_cons, List.getElem_cons_succ] at *
  omega
 | [], _, _, h => by simp at h
theorem mu_le : ∀ {t : List St}, (∀ o ∈ t, wt o ≤ 700) → mu t ≤ 700 * t.length
 | [], _ => by simp [mu]
 | x :: t, h => by
  have h1 := h x (by simp)
  have h2 := mu_le (t := t) (fun o ho => h o (by simp [ho]))
  simp only [mu, List.map_cons, List.sum_cons, List.length_cons] at *
  omega
/-- What comes in: nothing changes and it is below what is there; or something rises. -/
theorem intoT_case {cs : List Cls} (hw : WfC cs) (hnc : cs.length ≤ 4) {nl n : Nat} (hnl : nl ≤ 5) (hn : n ≤ 100) {T : Tn} {j : Int} {sb lb : List UInt8} (h : wfT cs.length nl n T.1) (hz : okZ cs.length nl sb lb) (hl : sb.length ≤ setN T.1) (hb : (intoT cs T j sb lb).2.2 = false) :
  T.2.2 = false ∧ leTab cs T.1 (intoT cs T j sb lb).1 ∧ ((intoT cs T j sb lb = T ∧ Reach cs T.1 j (sb, lb)) ∨ ((intoT cs T j sb lb).2.1 = true ∧ mu (intoT cs T j sb lb).1 < mu T.1)) := by
 have hwf := (intoT_wf hnc hw (j := j) h hz hl).1
 revert hb hwf
 unfold intoT
 split
 ·rename_i h1
  intro hb _
  refine ⟨hb, leTab_refl _, Or.inl ⟨rfl, ?_⟩⟩
  rcases h1 with h1 | h1
  ·rw [hb] at h1; cases h1
  ·exact Or.inl h1
 rename_i h1
 have hb0 : T.2.2 = false := by have := (not_or.1 h1).1; simpa using this
 split
 ·intro hb; cases hb
 rename_i h2
 have hjl : j.toNat < T.1.length := by omega
 have hge : T.1.getD j.toNat none = T.1[j.toNat] := by simp [List.getD, hjl]
 split
 ·intro hb; cases hb
 rename_i m hm
 have hll : ∀ s l, T.1.getD j.toNat none = some (s, l) → l.length = lb.length := fun s l hh => by
  have := (h.2 j.toNat s l (getD_some.1 hh)).1.2.2
  rw [this, hz.2.2]
 have hlub := mergeT_lub hw hll hm
 split
 ·rename_i hsame
  intro _ _
  refine ⟨hb0, leTab_refl _, Or.inl ⟨rfl, Or.inr ⟨m, getD_some.1 hsame.symm, hlub.2.1⟩⟩⟩
 ·rename_i hdiff
  intro _ hwf
  refine ⟨hb0, ⟨by simp, fun k => ?_⟩, Or.inr ⟨rfl, ?_⟩⟩
  ·by_cases hk : k = j.toNat
   ·subst hk
    have hs : (T.1.set j.toNat (some m)).getD j.toNat none = some m := by simp [List.getD, hjl]
    simp only
    rw [hs]
    exact hlub.1
   ·have hs : (T.1.set j.toNat (some m)).getD k none = T.1.getD k none := by simp [List.getD, List.getElem?_set, show ¬ j.toNat = k from fun h => hk h.symm]
    simp only
    rw [hs]
    exact leO_refl _
  ·have hmu := mu_set (some m) hjl
   simp only
   rw [hge] at hm hdiff hlub
   suffices wt (some m) < wt T.1[j.toNat] by omega
   obtain ⟨m1, m2⟩ := m
   cases ho : T.1[j.toNat] with
   | none =>
    have hok := hwf.okS hn j.toNat m1 m2 (by simp only; rw [List.getElem?_set]; simp [hjl])
    have s1 := sumL_le m1
    have s2 := sumL_le m2
    have := hok.2.2.1
    have := hok.2.2.2
    simp only [wt]
    omega
   | some p =>
    obtain ⟨sa, la⟩ := p
    rw [ho] at hlub hdiff
    have d1 := sumL_down hw hlub.1.1
    have d2 := sumL_down hw hlub.1.2
    simp only at d1 d2
    simp only [wt]
    by_cases e1 : sa = m1
    ·by_cases e2 : la = m2
     ·rw [e1, e2] at hdiff; exact absurd rfl hdiff
     ·have := d2.2 e2; omega
    ·have := d1.2 e1; omega
/-- The table holds at number i. -/
def StabAt (im : Img) (bd : Bod) (t : List St) (i : Nat) : Prop :=
 ∀ (x : Ins) (s l : List UInt8), bd.code[i]? = some x → t[i]? = some (some (s, l)) → ∃ s' l', effT im.classes im.sigs bd x s l = some (s', l') ∧ Reach im.classes t (waysT x i).1 (s', l') ∧ Reach im.classes t (waysT x i).2 (s', l')
theorem stepT_case {im : Img} (hW : WfI im) {bd : Bod} (hbd : WfB im.classes im.sigs bd) {T T' : Tn} {i : Nat} (h : wfT im.classes.length bd.locals.length bd.code.length T.1) (hs : stepT im bd T i = some T') (hb : T'.2.2 = false) :
  leTab im.classes T.1 T'.1 ∧ ((T' = T ∧ StabAt im bd T.1 i) ∨ (T'.2.1 = true ∧ mu T'.1 < mu T.1)) := by
 cases hx : bd.code[i]? with
 | none =>
  have : stepT im bd T i = some T := by unfold stepT; rw [hx]
  rw [this] at hs
  injection hs with hs
  subst hs
  exact ⟨leTab_refl _, Or.inl ⟨rfl, fun x s l h1 => by rw [hx] at h1; cases h1⟩⟩
 | some x =>
  cases ho : T.1.getD i none with
  | none =>
   have : stepT im bd T i = some T := by unfold stepT; rw [hx, ho]
   rw [this] at hs
   injection hs with hs
   subst hs
   refine ⟨leTab_refl _, Or.inl ⟨rfl, fun x s l _ h2 => ?_⟩⟩
   rw [getD_some.2 h2] at ho
   cases ho
  | some p =>
   obtain ⟨s, l⟩ := p
   have hg := getD_some.1 ho
   cases he : effT im.classes im.sigs bd x s l with
   | none => rw [stepT_none hx hg he] at hs; cases hs
   | some q =>
    obtain ⟨s', l'⟩ := q
    rw [stepT_some hx hg he] at hs
    injection hs with hs
    subst hs
    have hz := h.2 i s l hg
    have he' := effT_ok hW (hbd.code x (List.mem_of_getElem? hx)) hz.1 he
    have hle : s'.length ≤ setN T.1 := by omega
    have w1 := intoT_wf hW.nc hW.cls (j := (waysT x i).1) h he'.1 hle
    have c2 := intoT_case hW.cls hW.nc hbd.loc.1 hbd.len.2 w1.1 he'.1 (by omega) hb
    have c1 := intoT_case hW.cls hW.nc hbd.loc.1 hbd.len.2 h he'.1 hle c2.1
    refine ⟨leTab_trans hW.cls c1.2.1 c2.2.1, ?_⟩
    rcases c1.2.2 with ⟨e1, r1⟩ | ⟨e1, r1⟩
    ·rcases c2.2.2 with ⟨e2, r2⟩ | ⟨e2, r2⟩
     ·left
      rw [e1] at e2 r2 ⊢
      refine ⟨e2, fun x' s'' l'' h1 h2 => ?_⟩
      rw [hx] at h1
      injection h1 with h1
      rw [hg] at h2
      injection h2 with h2
      injection h2 with h2
      injection h2 with h2 h3
      subst h1 h2 h3
      exact ⟨s', l', he, r1, r2⟩
     ·right
      refine ⟨e2, ?_⟩
      rw [e1] at r2 ⊢
      exact r2
    ·right
     rcases c2.2.2 with ⟨e2, r2⟩ | ⟨e2, r2⟩
     ·rw [e2]; exact ⟨e1, r1⟩
     ·exact ⟨e2, by omega⟩
theorem bad_stays {cs : List Cls} {T : Tn} {j : Int} {sb lb : List UInt8} (h : T.2.2 = true) : intoT cs T j sb lb = T := by
 unfold intoT; rw [if_pos (Or.inl h)]
theorem sweepT_case {im : Img} (hW : WfI im) {bd : Bod} (hbd : WfB im.classes im.sigs bd) : ∀ {f i : Nat} {T T' : Tn}, wfT im.classes.length bd.locals.length bd.code.length T.1 → sweepT im bd f i T = some T' → T'.2.2 = false →
  leTab im.classes T.1 T'.1 ∧ ((T' = T ∧ ∀ k, i ≤ k → k < i + f → StabAt im bd T.1 k) ∨ (T'.2.1 = true ∧ mu T'.1 < mu T.1)) := by
 intro f
 induction f with
 | zero =>
  intro i T T' h hs hb
  simp [sweepT] at hs
  subst hs
  exact ⟨leTab_refl _, Or.inl ⟨rfl, fun k h1 h2 => by omega⟩⟩
 | succ f ih =>
  intro i T T' h hs hb
  by_cases hbt : T.2.2 = true
  ·rw [sweepT_bad _ _ _ _ _ hbt] at hs
   injection hs with hs
   subst hs
   rw [hbt] at hb
   cases hb
  ·have hbf : T.2.2 = false := by simpa using hbt
   cases h1 : stepT im bd T i with
   | none => rw [sweepT_none hbf h1] at hs; cases hs
   | some T1 =>
    rw [sweepT_some hbf h1] at hs
    have hb1 : T1.2.2 = false := by
     by_cases hb1 : T1.2.2 = true
     ·rw [sweepT_bad _ _ _ _ _ hb1] at hs
      injection hs with hs
      subst hs
      exact hb
     ·simpa using hb1
    have c1 := stepT_case hW hbd h h1 hb1
    have c2 := ih (stepT_wf hW hbd h h1) hs hb
    refine ⟨leTab_trans hW.cls c1.1 c2.1, ?_⟩
    rcases c1.2 with ⟨e1, r1⟩ | ⟨e1, r1⟩
    ·subst e1
     rcases c2.2 with ⟨e2, r2⟩ | r2
     ·left
      refine ⟨e2, fun k hk1 hk2 => ?_⟩
      by_cases hk : k = i
      ·subst hk; exact r1
      ·exact r2 k (by omega) (by omega)
     ·exact Or.inr r2
    ·right
     rcases c2.2 with ⟨e2, r2⟩ | ⟨e2, r2⟩
     ·rw [e2]; exact ⟨e1, r1⟩
     ·exact ⟨e2, by omega⟩
theorem roundsT_case {im : Img} (hW : WfI im) {bd : Bod} (hbd : WfB im.classes im.sigs bd) : ∀ {f : Nat} {tb : List St} {ch : Bool} {t : List St}, wfT im.classes.length bd.locals.length bd.code.length tb →
  (ch = false → ∀ k, k < bd.code.length → StabAt im bd tb k) → (ch = true → mu tb < f) → roundsT im bd f (tb, ch, false) = some t → leTab im.classes tb t ∧ ∀ k, k < bd.code.length → StabAt im bd t k := by
 intro f
 induction f with
 | zero =>
  intro tb ch t h hst hmu hr
  cases ch with
  | false =>
   rw [roundsT_stop] at hr
   injection hr with hr
   subst hr
   exact ⟨leTab_refl _, hst rfl⟩
  | true => exact absurd (hmu rfl) (by omega)
 | succ f ih =>
  intro tb ch t h hst hmu hr
  cases ch with
  | false =>
   rw [roundsT_stop] at hr
   injection hr with hr
   subst hr
   exact ⟨leTab_refl _, hst rfl⟩
  | true =>
   rw [roundsT_go] at hr
   cases hs : sweepT im bd bd.code.length 0 (tb, false, false) with
   | none => rw [hs] at hr; cases hr
   | some T1 =>
    rw [hs] at hr
    obtain ⟨t1, c1, b1⟩ := T1
    simp only [afterSweep] at hr
    cases b1 with
    | true => simp at hr
    | false =>
     simp only [Bool.false_eq_true, if_false] at hr
     have c := sweepT_case hW hbd (T := (tb, false, false)) h hs rfl
     have hwf := sweepT_wf hW hbd (T := (tb, false, false)) h hs
     rcases c.2 with ⟨e, r⟩ | ⟨e, r⟩
     ·injection e with e1 e2
      injection e2 with e2 _
      subst e1 e2
      have := ih hwf (fun _ k hk => r k (by omega) (by omega)) (fun h => by cases h) hr
      exact this
     ·simp only at e r
      subst e
      have hm := hmu rfl
      have := ih hwf (fun h => by cases h) (fun _ => by show mu t1 < f; omega) hr
      exact ⟨leTab_trans hW.cls c.1 this.1, this.2⟩
theorem startTab_mu {im : Img} {bd : Bod} (hbd : WfB im.classes im.sigs bd) : mu (startTab bd) < 80000 := by
 have h : mu (startTab bd) ≤ 700 * (startTab bd).length := by
  apply mu_le
  intro o ho
  cases o with
  | none => simp [wt]
  | some p =>
   obtain ⟨s, l⟩ := p
   obtain ⟨k, hk⟩ := List.mem_iff_getElem?.1 ho
   have hok := (startTab_wf hbd).okS hbd.len.2 k s l hk
   have s1 := sumL_le s
   have s2 := sumL_le l
   have := hok.2.2.1
   have := hok.2.2.2
   have := hbd.loc.1
   simp only [wt]
   omega
 have h1 : (startTab bd).length = bd.code.length := (startTab_wf hbd).1
 have := hbd.len.2
 omega
/-- What the working out comes to holds. -/
theorem leastT_good {im : Img} (hW : WfI im) {bd : Bod} (hbd : WfB im.classes im.sigs bd) {t : List St} (h : leastT im bd = some t) : Good im bd t := by
 have hc := roundsT_case hW hbd (startTab_wf hbd) (fun h => by cases h) (fun _ => startTab_mu hbd) h
 have hl := (leastT_wf hW hbd h).1
 refine ⟨hl, ?_, fun i x s l hx hs => hc.2 i (List.getElem?_eq_some_iff.1 hx).1 x s l hx hs⟩
 have h0 := hc.1.2 0
 have hs : (startTab bd).getD 0 none = some ([], bd.locals) := by
  unfold startTab
  simp [List.getD, hbd.len.1]
 rw [hs] at h0
 cases ht : t.getD 0 none with
 | none => rw [ht] at h0; exact h0.elim
 | some s0 => rw [ht] at h0; exact ⟨s0, getD_some.1 ht, h0⟩
/-- Whoever finds a table that holds and is below all that hold has found this one; whoever finds none, none. -/
theorem leastT_some {im : Img} (hW : WfI im) {bd : Bod} (hbd : WfB im.classes im.sigs bd) {t : List St} (hG : Good im bd t) (hm : ∀ H, Good im bd H → leTab im.classes t H) : leastT im bd = some t := by
 obtain ⟨u, hu, hle⟩ := leastT_below hW.cls hG
 rw [hu, leTab_anti hW.cls hle (hm u (leastT_good hW hbd hu))]
theorem leastT_none {im : Img} (hW : WfI im) {bd : Bod} (hbd : WfB im.classes im.sigs bd) (h : ∀ H, ¬ Good im bd H) : leastT im bd = none := by
 cases hu : leastT im bd with
 | none => rfl
 | some u => exact absurd (leastT_good hW hbd hu) (h u)
end Go.Proofs.YtpfkkmacakjmbaaGreatDoor
/- The same worked out by those that wait: what it keeps. -/
namespace Go.Proofs.YtpfkkmacakjmbaaGreatDoor
open Go Sp
set_option linter.unusedSimpArgs false
set_option linter.unusedVariables false
/-- A table, who waits, whether it has failed. -/
abbrev Wn := List St × List Bool × Bool
def reachW (cs : List Cls) (W : Wn) (j : Nat) (sb lb : List UInt8) : Wn :=
 ((intoT cs (W.1, false, W.2.2) j sb lb).1, if (intoT cs (W.1, false, W.2.2) j sb lb).2.1 = true then W.2.1.set j true else W.2.1, (intoT cs (W.1, false, W.2.2) j sb lb).2.2)
/-- What the walk keeps: every number but those that wait (and those of X) holds. -/
structure InvW (im : Img) (bd : Bod) (X : Nat → Prop) (W : Wn) : Prop where
 wf : wfT im.classes.length bd.locals.length bd.code.length W.1
 wl : W.2.1.length = bd.code.length
 start : leTab im.classes (startTab bd) W.1
 stab : W.2.2 = false → ∀ k, k < bd.code.length → ¬ X k → W.2.1.getD k false = false → StabAt im bd W.1 k
/-- Nothing is above a table that holds. -/
def LowW (im : Img) (bd : Bod) (W : Wn) : Prop := ∀ H, Good im bd H → W.2.2 = false ∧ leTab im.classes W.1 H
def waitN (l : List Bool) : Nat := l.countP id
def muW (W : Wn) : Nat := 2 * mu W.1 + waitN W.2.1
theorem waitN_set_true (l : List Bool) (j : Nat) : waitN (l.set j true) ≤ waitN l + 1 := by
 unfold waitN
 by_cases h : j < l.length
 ·rw [List.countP_set h]; split <;> simp <;> omega
 ·rw [List.set_eq_of_length_le (by omega)]; omega
theorem waitN_set_false {l : List Bool} {j : Nat} (h : l.getD j false = true) : waitN (l.set j false) < waitN l := by
 have hj : j < l.length := by
  by_cases hj : j < l.length
  ·exact hj
  ·simp [List.getD, List.getElem?_eq_none (by omega : l.length ≤ j)] at h
 have hv : l[j] = true := by simpa [List.getD, hj] using h
 unfold waitN
 rw [List.countP_set hj]
 have : 0 < l.countP id := List.countP_pos_iff.2 ⟨_, List.getElem_mem hj, hv⟩
 simp [hv]
 omega
theorem Reach_up {cs : List Cls} (hw : WfC cs) {t u : List St} {j : Int} {st : Sp2} (h : leTab cs t u) (hr : Reach cs t j st) : Reach cs u j st := by
 rcases hr with hr | ⟨st', h1, h2⟩
 ·exact Or.inl hr
 ·have h3 := h.2 j.toNat
  rw [getD_some.2 h1] at h3
  cases hu : u.getD j.toNat none with
  | none => rw [hu] at h3; exact h3.elim
  | some q => rw [hu] at h3; exact Or.inr ⟨q, getD_some.1 hu, leS_trans hw h2 h3⟩
theorem intoT_other {cs : List Cls} {T : Tn} {j : Nat} {sb lb : List UInt8} {k : Nat} (hk : k ≠ j) : (intoT cs T j sb lb).1[k]? = T.1[k]? := by
 unfold intoT
 split
 ·rfl
 split
 ·rfl
 split
 ·rfl
 split
 ·rfl
 ·simp [List.getElem?_set, show ¬ j = k from fun h => hk h.symm]
/-- Behind it the state is there. -/
theorem intoT_reach {im : Img} (hW : WfI im) {bd : Bod} (hbd : WfB im.classes im.sigs bd) {n : Nat} {T : Tn} {j : Nat} {sb lb : List UInt8} (h : wfT im.classes.length bd.locals.length n T.1) (hz : okZ im.classes.length bd.locals.length sb lb) (hr : (intoT im.classes T j sb lb).2.2 = false) :
  Reach im.classes (intoT im.classes T j sb lb).1 j (sb, lb) := by
 revert hr
 unfold intoT
 split
 ·rename_i h1
  intro hr
  rcases h1 with h1 | h1
  ·rw [hr] at h1; cases h1
  ·omega
 split
 ·intro hr; cases hr
 rename_i h1 h2
 have hjl : (j : Int).toNat < T.1.length := by omega
 split
 ·intro hr; cases hr
 rename_i m hm
 have hll : ∀ s l, T.1.getD (j : Int).toNat none = some (s, l) → l.length = lb.length := fun s l hh => by
  have := (h.2 _ s l (getD_some.1 hh)).1.2.2
  rw [this, hz.2.2]
 have hlub := mergeT_lub hW.cls hll hm
 split
 ·rename_i hs
  intro _
  exact Or.inr ⟨m, getD_some.1 hs.symm, hlub.2.1⟩
 ·intro _
  exact Or.inr ⟨m, by simp only; rw [List.getElem?_set, if_pos rfl]; simp only [hjl, if_true], hlub.2.1⟩
/-- A state comes in: what is kept, that it is below, that the measure falls or nothing changes. -/
theorem reachW_step {im : Img} (hW : WfI im) {bd : Bod} (hbd : WfB im.classes im.sigs bd) {X : Nat → Prop} {W : Wn} {j : Nat} {sb lb : List UInt8} (hf : W.2.2 = false) (hI : InvW im bd X W) (hz : okZ im.classes.length bd.locals.length sb lb) (hl : sb.length ≤ setN W.1)
  (hr : (reachW im.classes W j sb lb).2.2 = false) :
  InvW im bd X (reachW im.classes W j sb lb) ∧ leTab im.classes W.1 (reachW im.classes W j sb lb).1 ∧ Reach im.classes (reachW im.classes W j sb lb).1 j (sb, lb) ∧ muW (reachW im.classes W j sb lb) ≤ muW W ∧ setN W.1 ≤ setN (reachW im.classes W j sb lb).1 ∧ (∀ k, k ≠ j → (reachW im.classes W j sb lb).1[k]? = W.1[k]?) ∧ ((reachW im.classes W j sb lb).1[j]? = W.1[j]? ∨ (reachW im.classes W j sb lb).2.1.getD j false = true) := by
 have hc := intoT_case hW.cls hW.nc hbd.loc.1 hbd.len.2 (T := (W.1, false, W.2.2)) (j := (j : Int)) hI.wf hz hl hr
 have hwf := intoT_wf hW.nc hW.cls (T := (W.1, false, W.2.2)) (j := (j : Int)) hI.wf hz hl
 have hoth := fun k (hk : k ≠ j) => intoT_other (cs := im.classes) (T := (W.1, false, W.2.2)) (j := j) (sb := sb) (lb := lb) hk
 rcases hc.2.2 with ⟨e, r⟩ | ⟨e, r⟩
 ·have hid : reachW im.classes W j sb lb = W := by
   unfold reachW
   rw [e]
   simp
  rw [hid]
  exact ⟨hI, leTab_refl _, r, Nat.le_refl _, Nat.le_refl _, fun _ _ => rfl, Or.inl rfl⟩
 ·have hR1 : (reachW im.classes W j sb lb).2.1 = W.2.1.set j true := by unfold reachW; simp only [e, if_true]
  have hR0 : (reachW im.classes W j sb lb).1 = (intoT im.classes (W.1, false, W.2.2) j sb lb).1 := rfl
  have hjl : j < bd.code.length := by
   by_cases hj : j < bd.code.length
   ·exact hj
   ·exfalso
    have : intoT im.classes (W.1, false, W.2.2) j sb lb = (W.1, false, true) := by
     unfold intoT
     have h1 := hI.wf.1
     rw [if_neg (by simp [hf]), if_pos (by simp only; omega)]
    have h2 : (intoT im.classes (W.1, false, W.2.2) j sb lb).2.2 = false := hr
    rw [this] at h2
    cases h2
  have hgw : (W.2.1.set j true).getD j false = true := by
   have := hI.wl
   simp [List.getD, show j < W.2.1.length by omega]
  refine ⟨⟨hwf.1, by rw [hR1, List.length_set]; exact hI.wl, leTab_trans hW.cls hI.start hc.2.1, ?_⟩, hc.2.1, ?_, ?_, hwf.2, hoth, Or.inr (by rw [hR1]; exact hgw)⟩
  ·intro _ k hk hX hwk
   rw [hR1] at hwk
   by_cases hkj : k = j
   ·subst hkj; rw [hgw] at hwk; cases hwk
   ·have hwk' : W.2.1.getD k false = false := by
     simpa [List.getD, List.getElem?_set, show ¬ j = k from fun h => hkj h.symm] using hwk
    intro x s l hx hs
    rw [hR0, hoth k hkj] at hs
    obtain ⟨s', l', h1, h2, h3⟩ := hI.stab hf k hk hX hwk' x s l hx hs
    exact ⟨s', l', h1, Reach_up hW.cls hc.2.1 h2, Reach_up hW.cls hc.2.1 h3⟩
  · -- the state is there now
   have hcase := intoT_reach (T := (W.1, false, W.2.2)) hW hbd hI.wf hz hr
   exact hcase
  ·have h1 : mu (reachW im.classes W j sb lb).1 < mu W.1 := r
   have h2 := waitN_set_true W.2.1 j
   unfold muW
   rw [hR1]
   omega
end Go.Proofs.YtpfkkmacakjmbaaGreatDoor
