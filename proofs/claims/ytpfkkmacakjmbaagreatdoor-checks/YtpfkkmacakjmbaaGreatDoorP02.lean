import Derived.Test.YtpfkkmacakjmbaaGreatDoorP00
/- Types: what fits what, meetings. -/
namespace Go.Proofs.YtpfkkmacakjmbaaGreatDoor.Sp
def under (cs : List Cls) : Nat → Int → Int → Bool
 | 0, _, _ => false
 | f + 1, x, y => if x < 0 then false else if x = y then true else under cs f (parOf cs x) y
def isC (c : UInt8) : Bool := decide (65 ≤ c.toNat) && decide (c.toNat ≤ 68)
def subT (cs : List Cls) (a b : UInt8) : Bool :=
 if a.toNat = b.toNat ∨ b.toNat = 45 then true else
 if isC b = false then false else
 if a.toNat = 122 then true else
 if isC a = false then false else under cs 5 ((a.toNat : Int) - 65) ((b.toNat : Int) - 65)
def joinF (cs : List Cls) (y : Int) : Nat → Int → UInt8
 | 0, _ => 45
 | f + 1, p => if p < 0 then 45 else if under cs 5 y p = true then UInt8.ofNat (65 + p.toNat) else joinF cs y f (parOf cs p)
def joinT (cs : List Cls) (a b : UInt8) : UInt8 :=
 if subT cs a b = true then b else
 if subT cs b a = true then a else
 if isC a = false ∨ isC b = false then 45 else
 joinF cs ((b.toNat : Int) - 65) 5 (parOf cs ((a.toNat : Int) - 65))
/-- A type of the text. -/
def okT (n : Nat) (c : UInt8) : Bool := isTy n c || decide (c.toNat = 122) || decide (c.toNat = 45)
theorem okT_iff {n : Nat} {c : UInt8} : okT n c = true ↔ c.toNat = 105 ∨ (65 ≤ c.toNat ∧ c.toNat < 65 + n) ∨ c.toNat = 122 ∨ c.toNat = 45 := by
 simp [okT, isTy, isLet, or_assoc]
theorem isC_iff {c : UInt8} : isC c = true ↔ 65 ≤ c.toNat ∧ c.toNat ≤ 68 := by simp [isC]
theorem isC_false {c : UInt8} : isC c = false ↔ ¬ (65 ≤ c.toNat ∧ c.toNat ≤ 68) := by
 rw [← isC_iff]; cases isC c <;> simp
def isR (c : UInt8) : Bool := decide (c.toNat = 122) || isC c
/-- Do the topmost types fit where those are asked for? -/
def fitsT (cs : List Cls) (stack want : List UInt8) : Bool :=
 decide (want.length ≤ stack.length) && (List.range want.length).all fun i => subT cs (stack.getD (stack.length - want.length + i) 0) (want.getD i 0)
def fieldT (cs : List Cls) (a k : Nat) : UInt8 := ((cs[a]?.map (·.fields)).getD []).getD k 0
def clsT (a : Nat) : UInt8 := UInt8.ofNat (65 + a)
def argT (gs : List Sig) (k : Nat) : UInt8 := (gs[k]?.map (·.arg)).getD 0
def retT (gs : List Sig) (k : Nat) : UInt8 := (gs[k]?.map (·.ret)).getD 0
def arith (c : Nat) : Bool := [43, 45, 42, 47, 60, 61].contains c
def popsT (cs : List Cls) (gs : List Sig) (b : Bod) (x : Ins) : List UInt8 :=
 if x.op.toNat = 119 ∨ x.op.toNat = 102 then [105] else
 if arith x.op.toNat = true then [105, 105] else
 if x.op.toNat = 103 then [clsT x.a] else
 if x.op.toNat = 112 then [clsT x.a, fieldT cs x.a x.b] else
 if x.op.toNat = 99 then [clsT x.a, argT gs x.b] else
 if x.op.toNat = 116 then (if b.cls < 0 then [105] else [retT gs b.meth.toNat]) else []
def pushT (cs : List Cls) (gs : List Sig) (x : Ins) : List UInt8 :=
 if x.op.toNat = 107 ∨ x.op.toNat = 114 ∨ arith x.op.toNat = true ∨ x.op.toNat = 101 then [105] else
 if x.op.toNat = 122 then [122] else
 if x.op.toNat = 110 ∨ x.op.toNat = 120 then [clsT x.a] else
 if x.op.toNat = 103 then [fieldT cs x.a x.b] else
 if x.op.toNat = 99 then [retT gs x.b] else []
/-- How many types s, d, e, x take; none: what lies there is not fit. -/
def looseT (c : Nat) (stack : List UInt8) : Option Nat :=
 if c = 101 then
  if stack.length < 2 ∨ isR (stack.getD (stack.length - 1) 0) = false ∨ isR (stack.getD (stack.length - 2) 0) = false then none else some 2
 else if stack.length < 1 ∨ (c = 120 ∧ isR (stack.getD (stack.length - 1) 0) = false) then none else some 1
/-- The state behind an instruction (the types on the stack, of the locals). -/
def effT (cs : List Cls) (gs : List Sig) (b : Bod) (x : Ins) (stack locals : List UInt8) : Option (List UInt8 × List UInt8) :=
 if x.op.toNat = 115 ∨ x.op.toNat = 100 ∨ x.op.toNat = 101 ∨ x.op.toNat = 120 then
  match looseT x.op.toNat stack with
  | none => none
  | some k => some (stack.take (stack.length - k) ++ pushT cs gs x, if x.op.toNat = 115 then locals.set x.b (stack.getD (stack.length - 1) 0) else locals)
 else if x.op.toNat = 108 then
  if (locals.getD x.b 0).toNat = 45 then none else some (stack ++ [locals.getD x.b 0], locals)
 else if fitsT cs stack (popsT cs gs b x) = true then some (stack.take (stack.length - (popsT cs gs b x).length) ++ pushT cs gs x, locals)
 else none
def bothT (cs : List Cls) (a b : List UInt8) : List UInt8 := List.zipWith (joinT cs) a b
theorem fitsT_false {cs : List Cls} {st wa : List UInt8} (h : st.length < wa.length) : fitsT cs st wa = false := by
 unfold fitsT
 rw [Bool.and_eq_false_iff]
 left; simp; omega
theorem fitsT_no {cs : List Cls} {st wa : List UInt8} {k : Nat} (hk : k < wa.length) (h : subT cs (st.getD (st.length - wa.length + k) 0) (wa.getD k 0) = false) : fitsT cs st wa = false := by
 unfold fitsT
 rw [Bool.and_eq_false_iff]
 right
 rw [List.all_eq_false]
 exact ⟨k, by simpa using hk, by rw [h]; decide⟩
theorem fitsT_yes {cs : List Cls} {st wa : List UInt8} (hl : wa.length ≤ st.length) (h : ∀ k, k < wa.length → subT cs (st.getD (st.length - wa.length + k) 0) (wa.getD k 0) = true) : fitsT cs st wa = true := by
 unfold fitsT
 rw [Bool.and_eq_true]
 refine ⟨by simpa using hl, ?_⟩
 rw [List.all_eq_true]
 intro k hk
 exact h k (by simpa using hk)
theorem bothT_len {cs : List Cls} {a b : List UInt8} (h : a.length = b.length) : (bothT cs a b).length = a.length := by
 simp [bothT, h]
theorem bothT_snoc {cs : List Cls} {a b : List UInt8} {k : Nat} (ha : k < a.length) (hb : k < b.length) : bothT cs (a.take (k + 1)) (b.take (k + 1)) = bothT cs (a.take k) (b.take k) ++ [joinT cs (a.getD k 0) (b.getD k 0)] := by
 unfold bothT
 rw [List.take_succ_eq_append_getElem ha, List.take_succ_eq_append_getElem hb, List.zipWith_append (by simp; omega)]
 simp [List.getD, ha, hb]
/-- The instructions at which number i can go on; -1: none. -/
def waysT (x : Ins) (i : Nat) : Int × Int :=
 if x.op.toNat = 116 then (-1, -1) else
 if x.op.toNat = 106 then ((x.b : Int), -1) else
 if x.op.toNat = 102 then ((i : Int) + 1, (x.b : Int)) else ((i : Int) + 1, -1)
def mergeT (cs : List Cls) (a : Option (List UInt8 × List UInt8)) (sb lb : List UInt8) : Option (List UInt8 × List UInt8) := match a with
 | none => some (sb, lb)
 | some (sa, la) => if sa.length = sb.length then some (bothT cs sa sb, bothT cs la lb) else none
/-- The types of a state. -/
def okS (n nl : Nat) (s l : List UInt8) : Prop := (∀ c ∈ s, okT n c = true) ∧ (∀ c ∈ l, okT n c = true) ∧ l.length = nl ∧ s.length ≤ 100
/-- What 'into' makes of a table, of whether it has changed, of whether there is none. -/
def intoT (cs : List Cls) (T : List (Option (List UInt8 × List UInt8)) × Bool × Bool) (j : Int) (sb lb : List UInt8) : List (Option (List UInt8 × List UInt8)) × Bool × Bool :=
 if T.2.2 = true ∨ j < 0 then T else
 if (T.1.length : Int) ≤ j then (T.1, T.2.1, true) else
 match mergeT cs (T.1.getD j.toNat none) sb lb with
 | none => (T.1, T.2.1, true)
 | some m => if some m = T.1.getD j.toNat none then T else (T.1.set j.toNat (some m), true, false)
theorem parOf_range {cs : List Cls} (hw : WfC cs) {x : Int} (hx : x < cs.length) (h0 : 0 ≤ x) : -1 ≤ parOf cs x ∧ parOf cs x < cs.length := by
 unfold parOf
 obtain ⟨n, rfl⟩ := Int.eq_ofNat_of_zero_le h0
 have hn : n < cs.length := by omega
 rw [Int.toNat_natCast, List.getElem?_eq_getElem hn]
 have := hw n _ (List.getElem?_eq_getElem hn)
 simp
 omega
theorem joinF_range {cs : List Cls} {y : Int} (hn : cs.length ≤ 4) (hw : WfC cs) : ∀ {f : Nat} {p : Int}, -1 ≤ p → p < cs.length → okT cs.length (joinF cs y f p) = true := by
 intro f
 induction f with
 | zero => intro p _ _; simp [joinF, okT]
 | succ f ih =>
  intro p h1 h2
  unfold joinF
  split
  ·simp [okT]
  ·split
   ·rw [okT_iff]
    right; left
    rw [UInt8.toNat_ofNat']
    omega
   ·have := parOf_range hw h2 (by omega)
    exact ih this.1 this.2
theorem joinT_ok {cs : List Cls} {a b : UInt8} (hn : cs.length ≤ 4) (hw : WfC cs) (ha : okT cs.length a = true) (hb : okT cs.length b = true) : okT cs.length (joinT cs a b) = true := by
 unfold joinT
 split
 ·exact hb
 ·split
  ·exact ha
  ·split
   ·simp [okT]
   ·rename_i h
    have ha' := okT_iff.1 ha
    have hca : isC a = true := by cases h' : isC a with
     | true => rfl
     | false => exact absurd (Or.inl h') h
    have := isC_iff.1 hca
    have hr := parOf_range hw (x := (a.toNat : Int) - 65) (by omega) (by omega)
    exact joinF_range hn hw hr.1 hr.2
theorem pushT_len (cs : List Cls) (gs : List Sig) (x : Ins) : (pushT cs gs x).length ≤ 1 := by
 unfold pushT
 repeat' split
 all_goals simp
end Go.Proofs.YtpfkkmacakjmbaaGreatDoor.Sp
/- The working out of a table, round after round, without the program. -/
namespace Go.Proofs.YtpfkkmacakjmbaaGreatDoor
open Go Sp
set_option linter.unusedSimpArgs false
set_option linter.unusedVariables false
abbrev St := Option (List UInt8 × List UInt8)
abbrev Tn := List St × Bool × Bool
def stepT (im : Img) (bd : Bod) (T : Tn) (i : Nat) : Option Tn :=
 match bd.code[i]?, T.1.getD i none with
 | some x, some (s, l) =>
  match effT im.classes im.sigs bd x s l with
  | none => none
  | some (s', l') => some (intoT im.classes (intoT im.classes T (waysT x i).1 s' l') (waysT x i).2 s' l')
 | _, _ => some T
def sweepT (im : Img) (bd : Bod) : Nat → Nat → Tn → Option Tn
 | 0, _, T => some T
 | f + 1, i, T => if T.2.2 = true then some T else
  match stepT im bd T i with
  | none => none
  | some T' => sweepT im bd f (i + 1) T'
def roundsT (im : Img) (bd : Bod) : Nat → Tn → Option (List St)
 | 0, T => some T.1
 | f + 1, T => if T.2.1 = false then some T.1 else
  match sweepT im bd bd.code.length 0 (T.1, false, T.2.2) with
  | none => none
  | some T' => if T'.2.2 = true then none else roundsT im bd f T'
def startTab (bd : Bod) : List St := (List.replicate bd.code.length none).set 0 (some ([], bd.locals))
def leastT (im : Img) (bd : Bod) : Option (List St) := roundsT im bd 80000 (startTab bd, true, false)
/-- How many states are set. -/
def setN (tb : List St) : Nat := tb.countP Option.isSome
def okZ (nc nl : Nat) (s l : List UInt8) : Prop := (∀ c ∈ s, okT nc c = true) ∧ (∀ c ∈ l, okT nc c = true) ∧ l.length = nl
/-- The types are types; no stack is longer than states are set. -/
def wfT (nc nl n : Nat) (tb : List St) : Prop := tb.length = n ∧ ∀ (k : Nat) s l, tb[k]? = some (some (s, l)) → okZ nc nl s l ∧ s.length < setN tb
theorem setN_le (tb : List St) : setN tb ≤ tb.length := List.countP_le_length
theorem wfT.okS {nc nl n : Nat} {tb : List St} (h : wfT nc nl n tb) (hn : n ≤ 100) (k : Nat) (s l : List UInt8) (hk : tb[k]? = some (some (s, l))) : okS nc nl s l := by
 obtain ⟨⟨a, b, c⟩, d⟩ := h.2 k s l hk
 have := setN_le tb
 have := h.1
 exact ⟨a, b, c, by omega⟩
theorem setN_set {tb : List St} {j : Nat} {m : List UInt8 × List UInt8} (hj : j < tb.length) : setN (tb.set j (some m)) = setN tb + (if (tb[j]'hj).isSome then 0 else 1) := by
 unfold setN
 rw [List.countP_set hj]
 have : tb[j].isSome = true → 0 < tb.countP Option.isSome := fun h => List.countP_pos_iff.2 ⟨_, List.getElem_mem hj, h⟩
 by_cases h : tb[j].isSome = true
 ·have := this h; simp [h]; omega
 ·simp [h]
theorem mem_bothT {cs : List Cls} (hn : cs.length ≤ 4) (hw : WfC cs) : ∀ {a b : List UInt8}, (∀ c ∈ a, okT cs.length c = true) → (∀ c ∈ b, okT cs.length c = true) → ∀ c ∈ bothT cs a b, okT cs.length c = true := by
 intro a
 induction a with
 | nil => intro b _ _ c hc; simp [bothT] at hc
 | cons x a ih =>
  intro b ha hb c hc
  cases b with
  | nil => simp [bothT] at hc
  | cons y b =>
   simp only [bothT, List.zipWith_cons_cons, List.mem_cons] at hc
   rcases hc with rfl | hc
   ·exact joinT_ok hn hw (ha _ (by simp)) (hb _ (by simp))
   ·exact ih (fun c h => ha c (by simp [h])) (fun c h => hb c (by simp [h])) c hc
theorem intoT_wf {cs : List Cls} {nl n : Nat} (hn : cs.length ≤ 4) (hw : WfC cs) {T : Tn} {j : Int} {sb lb : List UInt8} (h : wfT cs.length nl n T.1) (hz : okZ cs.length nl sb lb) (hl : sb.length ≤ setN T.1) :
  wfT cs.length nl n (intoT cs T j sb lb).1 ∧ setN T.1 ≤ setN (intoT cs T j sb lb).1 := by
 unfold intoT
 split
 ·exact ⟨h, Nat.le_refl _⟩
 split
 ·exact ⟨h, Nat.le_refl _⟩
 rename_i h1 h2
 have hjl : j.toNat < T.1.length := by omega
 split
 ·exact ⟨h, Nat.le_refl _⟩
 rename_i m hm
 split
 ·exact ⟨h, Nat.le_refl _⟩
 have hs := setN_set (m := m) hjl
 simp only
 refine ⟨⟨by rw [List.length_set]; exact h.1, ?_⟩, by omega⟩
 intro k s l hk
 rw [List.getElem?_set] at hk
 split at hk
 ·rename_i hjk
  subst hjk
  try rw [if_pos hjl] at hk
  injection hk with hk
  injection hk with hk
  subst hk
  have hge : T.1.getD j.toNat none = T.1[j.toNat] := by simp [List.getD, hjl]
  rw [hge] at hm
  cases ho : T.1[j.toNat] with
  | none =>
   rw [ho] at hm hs
   simp [mergeT] at hm
   obtain ⟨rfl, rfl⟩ := hm
   simp at hs
   exact ⟨hz, by omega⟩
  | some p =>
   obtain ⟨sa, la⟩ := p
   rw [ho] at hm hs
   simp only [mergeT] at hm
   split at hm
   ·rename_i hlen
    injection hm with hm
    injection hm with h3 h4
    subst h3 h4
    have ha := h.2 j.toNat sa la (by rw [List.getElem?_eq_getElem hjl, ho])
    simp at hs
    refine ⟨⟨mem_bothT hn hw ha.1.1 hz.1, mem_bothT hn hw ha.1.2.1 hz.2.1, ?_⟩, ?_⟩
    ·rw [bothT_len (by rw [ha.1.2.2, hz.2.2])]; exact ha.1.2.2
    ·rw [bothT_len hlen]; omega
   ·cases hm
 ·have := h.2 k s l hk
  exact ⟨this.1, by omega⟩
theorem intoT_len (cs : List Cls) (T : Tn) (j : Int) (sb lb : List UInt8) : (intoT cs T j sb lb).1.length = T.1.length := by
 unfold intoT
 split
 ·rfl
 split
 ·rfl
 split
 ·rfl
 split
 ·rfl
 ·simp
theorem isTy_ok {n : Nat} {c : UInt8} (h : isTy n c = true) : okT n c = true := by simp [okT, h]
theorem pushT_ok {im : Img} (hW : WfI im) {x : Ins} {nl : Nat} (hx : WfX im.classes im.sigs.length nl x) : ∀ c ∈ pushT im.classes im.sigs x, okT im.classes.length c = true := by
 intro c hc
 have hcl : ∀ a, a < im.classes.length → okT im.classes.length (clsT a) = true := by
  intro a ha
  have := hW.nc
  rw [okT_iff]
  right; left
  have h1 : (clsT a).toNat = 65 + a := by simp [clsT]; omega
  omega
 unfold pushT at hc
 split at hc
 ·simp at hc; subst hc; simp [okT_iff]
 split at hc
 ·simp at hc; subst hc; simp [okT_iff]
 split at hc
 ·rename_i h
  simp at hc
  subst hc
  exact hcl _ (hx.cls (by omega))
 split at hc
 ·rename_i h
  simp at hc
  subst hc
  have h1 := hx.cls (by omega)
  have h2 := hx.fld (by omega)
  obtain ⟨cl, hcl⟩ : ∃ cl, im.classes[x.a]? = some cl := ⟨_, List.getElem?_eq_getElem h1⟩
  unfold fieldT
  rw [hcl]
  simp only [nFields, hcl] at h2
  simp only [Option.map_some, Option.getD_some] at h2 ⊢
  have hf := hW.cls x.a cl hcl
  have hm : cl.fields.getD x.b 0 ∈ cl.fields := by
   have : cl.fields.getD x.b 0 = cl.fields[x.b]'(by simpa using h2) := by simp [List.getD, h2]
   rw [this]; exact List.getElem_mem _
  exact isTy_ok (isTy_mono (by omega) (hf.2.2.2 _ hm))
 split at hc
 ·rename_i h
  simp at hc
  subst hc
  have h2 := hx.sig h
  obtain ⟨g, hg⟩ : ∃ g, im.sigs[x.b]? = some g := ⟨_, List.getElem?_eq_getElem h2⟩
  unfold retT
  rw [hg]
  simp only [Option.map_some, Option.getD_some]
  exact isTy_ok (hW.sig g (List.mem_of_getElem? hg)).2
 ·simp at hc
theorem getD_ok {n : Nat} {l : List UInt8} (h : ∀ c ∈ l, okT n c = true) {k : Nat} (hk : k < l.length) : okT n (l.getD k 0) = true := by
 have : l.getD k 0 = l[k] := by simp [List.getD, hk]
 rw [this]; exact h _ (List.getElem_mem _)
theorem effT_ok {im : Img} (hW : WfI im) {bd : Bod} {x : Ins} (hx : WfX im.classes im.sigs.length bd.locals.length x) {s l s' l' : List UInt8} (hz : okZ im.classes.length bd.locals.length s l) (h : effT im.classes im.sigs bd x s l = some (s', l')) :
  okZ im.classes.length bd.locals.length s' l' ∧ s'.length ≤ s.length + 1 := by
 have hp := pushT_ok hW hx
 have hpl := pushT_len im.classes im.sigs x
 have key : ∀ k, (∀ c ∈ s.take k ++ pushT im.classes im.sigs x, okT im.classes.length c = true) ∧ (s.take k ++ pushT im.classes im.sigs x).length ≤ s.length + 1 := by
  intro k
  constructor
  ·intro c hc
   rw [List.mem_append] at hc
   rcases hc with hc | hc
   ·exact hz.1 c (List.mem_of_mem_take hc)
   ·exact hp c hc
  ·simp; omega
 unfold effT at h
 split at h
 ·split at h
  ·cases h
  ·rename_i k hk
   injection h with h
   injection h with h1 h2
   subst h1
   refine ⟨⟨(key _).1, ?_, ?_⟩, (key _).2⟩
   ·intro c hc
    rw [← h2] at hc
    split at hc
    ·rename_i h115
     have := List.mem_or_eq_of_mem_set hc
     rcases this with h | h
     ·exact hz.2.1 c h
     ·rw [h]
      apply getD_ok hz.1
      rw [h115] at hk
      unfold looseT at hk
      simp at hk
      have := List.length_pos_iff.2 hk.1
      omega
    ·exact hz.2.1 c hc
   ·rw [← h2]
    split
    ·rw [List.length_set]; exact hz.2.2
    ·exact hz.2.2
 split at h
 ·split at h
  ·cases h
  ·rename_i h108 _
   injection h with h
   injection h with h1 h2
   subst h1 h2
   refine ⟨⟨?_, hz.2⟩, by simp⟩
   intro c hc
   rw [List.mem_append] at hc
   rcases hc with hc | hc
   ·exact hz.1 c hc
   ·simp at hc
    subst hc
    have := getD_ok hz.2.1 (k := x.b) (by rw [hz.2.2]; exact hx.loc (Or.inl h108))
    simpa [List.getD] using this
 split at h
 ·injection h with h
  injection h with h1 h2
  subst h1 h2
  exact ⟨⟨(key _).1, hz.2⟩, (key _).2⟩
 ·cases h
theorem stepT_wf {im : Img} (hW : WfI im) {bd : Bod} (hb : WfB im.classes im.sigs bd) {n : Nat} {T T' : Tn} {i : Nat} (h : wfT im.classes.length bd.locals.length n T.1) (hs : stepT im bd T i = some T') :
  wfT im.classes.length bd.locals.length n T'.1 := by
 unfold stepT at hs
 split at hs
 ·rename_i x s l hx hst
  split at hs
  ·cases hs
  ·rename_i s' l' he
   injection hs with hs
   subst hs
   have hg : T.1[i]? = some (some (s, l)) := by
    simp only [List.getD] at hst
    cases hh : T.1[i]? with
    | none => rw [hh] at hst; cases hst
    | some o => rw [hh] at hst; simp at hst; rw [hst]
   have hz := h.2 i s l hg
   have he' := effT_ok hW (hb.code x (List.mem_of_getElem? hx)) hz.1 he
   have h1 := intoT_wf hW.nc hW.cls (j := (waysT x i).1) h he'.1 (by omega)
   exact (intoT_wf hW.nc hW.cls (j := (waysT x i).2) h1.1 he'.1 (by omega)).1
 ·injection hs with hs
  subst hs
  exact h
theorem startTab_wf {im : Img} {bd : Bod} (hb : WfB im.classes im.sigs bd) : wfT im.classes.length bd.locals.length bd.code.length (startTab bd) := by
 unfold startTab
 refine ⟨by simp, ?_⟩
 intro k s l hk
 have h0 : 0 < (List.replicate bd.code.length (none : St)).length := by simpa using hb.len.1
 have hs := setN_set (m := ([], bd.locals)) h0
 rw [List.getElem?_set] at hk
 split at hk
 ·rename_i hk0
  subst hk0
  try rw [if_pos h0] at hk
  injection hk with hk
  injection hk with hk
  injection hk with h1 h2
  subst h1 h2
  refine ⟨⟨by simp, fun c hc => isTy_ok (hb.loc.2 c hc), rfl⟩, ?_⟩
  rw [hs]
  simp
 ·rw [List.getElem?_replicate] at hk
  split at hk <;> simp at hk
def afterSweep (im : Img) (bd : Bod) (f : Nat) : Option Tn → Option (List St)
 | none => none
 | some T' => if T'.2.2 = true then none else roundsT im bd f T'
theorem roundsT_go (im : Img) (bd : Bod) (f : Nat) (tb : List St) : roundsT im bd (f + 1) (tb, true, false) = afterSweep im bd f (sweepT im bd bd.code.length 0 (tb, false, false)) := by
 unfold roundsT
 rw [if_neg (by simp)]
 simp only
 cases sweepT im bd bd.code.length 0 (tb, false, false) <;> rfl
theorem roundsT_stop (im : Img) (bd : Bod) (f : Nat) (tb : List St) (b : Bool) : roundsT im bd f (tb, false, b) = some tb := by
 cases f <;> simp [roundsT]
theorem sweepT_bad (im : Img) (bd : Bod) (f i : Nat) (T : Tn) (h : T.2.2 = true) : sweepT im bd f i T = some T := by
 cases f
 ·rfl
 ·simp only [sweepT, if_pos h]
theorem sweepT_none {im : Img} {bd : Bod} {f i : Nat} {T : Tn} (h : T.2.2 = false) (hs : stepT im bd T i = none) : sweepT im bd (f + 1) i T = none := by
 simp [sweepT, h, hs]
theorem sweepT_some {im : Img} {bd : Bod} {f i : Nat} {T T' : Tn} (h : T.2.2 = false) (hs : stepT im bd T i = some T') : sweepT im bd (f + 1) i T = sweepT im bd f (i + 1) T' := by
 simp [sweepT, h, hs]
theorem stepT_skip {im : Img} {bd : Bod} {T : Tn} {i : Nat} (h : T.1[i]? = some none) : stepT im bd T i = some T := by
 unfold stepT
 rw [List.getD_eq_getElem?_getD, h]
 simp
theorem stepT_none {im : Img} {bd : Bod} {T : Tn} {i : Nat} {x : Ins} {s l : List UInt8} (hx : bd.code[i]? = some x) (h : T.1[i]? = some (some (s, l))) (he : effT im.classes im.sigs bd x s l = none) : stepT im bd T i = none := by
 unfold stepT
 rw [List.getD_eq_getElem?_getD, h, hx]
 simp [he]
theorem stepT_some {im : Img} {bd : Bod} {T : Tn} {i : Nat} {x : Ins} {s l s' l' : List UInt8} (hx : bd.code[i]? = some x) (h : T.1[i]? = some (some (s, l))) (he : effT im.classes im.sigs bd x s l = some (s', l')) :
  stepT im bd T i = some (intoT im.classes (intoT im.classes T (waysT x i).1 s' l') (waysT x i).2 s' l') := by
 unfold stepT
 rw [List.getD_eq_getElem?_getD, h, hx]
 simp [he]
theorem sweepT_wf {im : Img} (hW : WfI im) {bd : Bod} (hb : WfB im.classes im.sigs bd) {n : Nat} : ∀ {f i : Nat} {T T' : Tn}, wfT im.classes.length bd.locals.length n T.1 → sweepT im bd f i T = some T' → wfT im.classes.length bd.locals.length n T'.1 := by
 intro f
 induction f with
 | zero => intro i T T' h hs; simp [sweepT] at hs; subst hs; exact h
 | succ f ih =>
  intro i T T' h hs
  simp only [sweepT] at hs
  split at hs
  ·injection hs with hs; subst hs; exact h
  ·split at hs
   ·cases hs
   ·rename_i T1 h1
    exact ih (stepT_wf hW hb h h1) hs
theorem roundsT_wf {im : Img} (hW : WfI im) {bd : Bod} (hb : WfB im.classes im.sigs bd) {n : Nat} : ∀ {f : Nat} {T : Tn} {tb : List St}, wfT im.classes.length bd.locals.length n T.1 → roundsT im bd f T = some tb → wfT im.classes.length bd.locals.length n tb := by
 intro f
 induction f with
 | zero => intro T tb h hs; simp [roundsT] at hs; subst hs; exact h
 | succ f ih =>
  intro T tb h hs
  simp only [roundsT] at hs
  split at hs
  ·injection hs with hs; subst hs; exact h
  ·split at hs
   ·cases hs
   ·rename_i T1 h1
    split at hs
    ·cases hs
    ·exact ih (sweepT_wf hW hb (by exact h) h1) hs
theorem leastT_wf {im : Img} (hW : WfI im) {bd : Bod} (hb : WfB im.classes im.sigs bd) {tb : List St} (h : leastT im bd = some tb) : wfT im.classes.length bd.locals.length bd.code.length tb :=
 roundsT_wf hW hb (startTab_wf hb) h
end Go.Proofs.YtpfkkmacakjmbaaGreatDoor
/- The order of types: a partial order, the meeting the least above both. -/
namespace Go.Proofs.YtpfkkmacakjmbaaGreatDoor
open Go Sp
set_option linter.unusedSimpArgs false
set_option linter.unusedVariables false
theorem parOf_lt {cs : List Cls} (hw : WfC cs) {p : Int} (hp : 0 ≤ p) : parOf cs p < p ∧ -1 ≤ parOf cs p := by
 unfold parOf
 cases h : cs[p.toNat]? with
 | none => simp; omega
 | some c =>
  have := hw _ _ h
  simp
  omega
theorem under_more {cs : List Cls} (hw : WfC cs) : ∀ {f : Nat} {p y : Int}, p < f → under cs f p y = under cs (f + 1) p y := by
 intro f
 induction f with
 | zero => intro p y h; simp [under]; intro h'; omega
 | succ f ih =>
  intro p y h
  rw [under, under]
  by_cases h0 : p < 0
  ·simp [h0]
  ·simp only [h0, if_false]
   by_cases hy : p = y
   ·simp [hy]
   ·simp only [hy, if_false]
    have := parOf_lt hw (p := p) (by omega)
    exact ih (by omega)
theorem U_step {cs : List Cls} (hw : WfC cs) {x y : Int} (h0 : 0 ≤ x) (h1 : x ≤ 4) : under cs 5 x y = true ↔ x = y ∨ under cs 5 (parOf cs x) y = true := by
 rw [under]
 simp only [if_neg (show ¬ x < 0 by omega)]
 by_cases hy : x = y
 ·simp [hy]
 ·simp only [hy, if_false, false_or]
  have := parOf_lt hw h0
  rw [under_more hw (by omega : parOf cs x < (4 : Nat))]
theorem U_neg {cs : List Cls} (hw : WfC cs) {x y : Int} (h : x < 0) : under cs 5 x y = false := by
 rw [under]; simp [h]
theorem U_refl {cs : List Cls} (hw : WfC cs) {x : Int} (h : 0 ≤ x) : under cs 5 x x = true := by
 rw [under]; simp; omega
theorem U_le {cs : List Cls} (hw : WfC cs) : ∀ (k : Nat) {x y : Int}, x ≤ k → k ≤ 4 → under cs 5 x y = true → 0 ≤ y ∧ y ≤ x := by
 intro k
 induction k with
 | zero =>
  intro x y hx hk h
  by_cases h0 : x < 0
  ·rw [U_neg hw h0] at h; cases h
  ·rcases (U_step hw (by omega) (by omega)).1 h with rfl | h
   ·omega
   ·have := parOf_lt hw (p := x) (by omega)
    rw [U_neg hw (by omega)] at h; cases h
 | succ k ih =>
  intro x y hx hk h
  by_cases h0 : x < 0
  ·rw [U_neg hw h0] at h; cases h
  ·rcases (U_step hw (by omega) (by omega)).1 h with rfl | h
   ·omega
   ·have := parOf_lt hw (p := x) (by omega)
    have := ih (by omega) (by omega) h
    omega
theorem U_trans {cs : List Cls} (hw : WfC cs) : ∀ (k : Nat) {x y z : Int}, x ≤ k → k ≤ 4 → under cs 5 x y = true → under cs 5 y z = true → under cs 5 x z = true := by
 intro k
 induction k with
 | zero =>
  intro x y z hx hk h h'
  by_cases h0 : x < 0
  ·rw [U_neg hw h0] at h; cases h
  ·rcases (U_step hw (by omega) (by omega)).1 h with rfl | h
   ·exact h'
   ·have := parOf_lt hw (p := x) (by omega)
    rw [U_neg hw (by omega)] at h; cases h
 | succ k ih =>
  intro x y z hx hk h h'
  by_cases h0 : x < 0
  ·rw [U_neg hw h0] at h; cases h
  ·rcases (U_step hw (by omega) (by omega)).1 h with rfl | h
   ·exact h'
   ·have := parOf_lt hw (p := x) (by omega)
    exact (U_step hw (by omega) (by omega)).2 (Or.inr (ih (by omega) (by omega) h h'))
/-- What lies above one class lies in a row. -/
theorem U_row {cs : List Cls} (hw : WfC cs) : ∀ (k : Nat) {x y z : Int}, x ≤ k → k ≤ 4 → under cs 5 x y = true → under cs 5 x z = true → under cs 5 y z = true ∨ under cs 5 z y = true := by
 intro k
 induction k with
 | zero =>
  intro x y z hx hk h h'
  by_cases h0 : x < 0
  ·rw [U_neg hw h0] at h; cases h
  ·rcases (U_step hw (by omega) (by omega)).1 h with rfl | h
   ·exact Or.inl h'
   ·have := parOf_lt hw (p := x) (by omega)
    rw [U_neg hw (by omega)] at h; cases h
 | succ k ih =>
  intro x y z hx hk h h'
  by_cases h0 : x < 0
  ·rw [U_neg hw h0] at h; cases h
  ·rcases (U_step hw (by omega) (by omega)).1 h with rfl | h1
   ·exact Or.inl h'
   ·rcases (U_step hw (by omega) (by omega)).1 h' with rfl | h2
    ·exact Or.inr h
    ·have := parOf_lt hw (p := x) (by omega)
     exact ih (by omega) (by omega) h1 h2
/-- The first above p that y is under. -/
theorem joinF_spec {cs : List Cls} (hw : WfC cs) : ∀ {f : Nat} {p y : Int}, p < f → f ≤ 5 → p ≤ 3 →
  (joinF cs y f p = 45 ∧ ∀ q, under cs 5 p q = true → under cs 5 y q = false) ∨
  ∃ q : Nat, q ≤ 3 ∧ joinF cs y f p = UInt8.ofNat (65 + q) ∧ under cs 5 p q = true ∧ under cs 5 y q = true ∧ ∀ r, under cs 5 p r = true → under cs 5 y r = true → under cs 5 q r = true := by
 intro f
 induction f with
 | zero => intro p y h _ _; left; exact ⟨rfl, fun q hq => by rw [U_neg hw (by omega)] at hq; cases hq⟩
 | succ f ih =>
  intro p y h hf hp3
  rw [joinF]
  by_cases h0 : p < 0
  ·left
   rw [if_pos h0]
   exact ⟨rfl, fun q hq => by rw [U_neg hw h0] at hq; cases hq⟩
  ·rw [if_neg h0]
   by_cases hy : under cs 5 y p = true
   ·right
    rw [if_pos hy]
    refine ⟨p.toNat, by omega, rfl, ?_, ?_, ?_⟩
    ·rw [Int.toNat_of_nonneg (by omega)]; exact U_refl hw (by omega)
    ·rw [Int.toNat_of_nonneg (by omega)]; exact hy
    ·intro r hr _; rw [Int.toNat_of_nonneg (by omega)]; exact hr
   ·rw [if_neg hy]
    have := parOf_lt hw (p := p) (by omega)
    rcases ih (p := parOf cs p) (y := y) (by omega) (by omega) (by omega) with ⟨h1, h2⟩ | ⟨q, hq, h1, h2, h3, h4⟩
    ·left
     refine ⟨h1, fun q hq => ?_⟩
     rcases (U_step hw (by omega) (by omega)).1 hq with rfl | hq
     ·simpa using hy
     ·exact h2 q hq
    ·right
     refine ⟨q, hq, h1, (U_step hw (by omega) (by omega)).2 (Or.inr h2), h3, fun r hr hr' => ?_⟩
     rcases (U_step hw (by omega) (by omega)).1 hr with rfl | hr
     ·exact absurd hr' hy
     ·exact h4 r hr hr'
/-- The number of a class's letter. -/
abbrev kl (c : UInt8) : Int := (c.toNat : Int) - 65
theorem subT_iff {cs : List Cls} {a b : UInt8} : subT cs a b = true ↔ a = b ∨ b.toNat = 45 ∨ (isC b = true ∧ a.toNat = 122) ∨ (isC a = true ∧ isC b = true ∧ under cs 5 (kl a) (kl b) = true) := by
 unfold subT
 have e : a = b ↔ a.toNat = b.toNat := UInt8.toNat_inj.symm
 rw [e]
 by_cases h1 : a.toNat = b.toNat ∨ b.toNat = 45
 ·simp only [if_pos h1, true_iff]; rcases h1 with h | h <;> simp [h]
 ·rw [if_neg h1]
  have h1' := not_or.1 h1
  simp only [h1'.1, h1'.2, false_or]
  by_cases hb : isC b = false
  ·simp [hb]
  ·have hb' : isC b = true := by simpa using hb
   simp only [hb, if_false, hb', true_and]
   by_cases ha : a.toNat = 122
   ·simp [ha]
   ·simp only [ha, if_false, false_or]
    by_cases hc : isC a = false
    ·simp [hc]
    ·have hc' : isC a = true := by simpa using hc
     simp [hc, hc']
theorem subT_refl {cs : List Cls} (a : UInt8) : subT cs a a = true := subT_iff.2 (Or.inl rfl)
theorem kl_range {cs : List Cls} (hw : WfC cs) {c : UInt8} (h : isC c = true) : 0 ≤ kl c ∧ kl c ≤ 3 := by
 rw [isC_iff] at h
 unfold kl
 omega
theorem subT_trans {cs : List Cls} (hw : WfC cs) {a b c : UInt8} (h : subT cs a b = true) (h' : subT cs b c = true) : subT cs a c = true := by
 rw [subT_iff] at h h'
 rw [subT_iff]
 rcases h with rfl | h | ⟨h1, h2⟩ | ⟨h1, h2, h3⟩
 ·exact h'
 ·rcases h' with rfl | h' | ⟨h1, h2⟩ | ⟨h1, h2, h3⟩
  ·exact Or.inr (Or.inl h)
  ·exact Or.inr (Or.inl h')
  ·omega
  ·rw [isC_iff] at h1; omega
 ·rcases h' with rfl | h' | ⟨h3, h4⟩ | ⟨h3, h4, h5⟩
  ·exact Or.inr (Or.inr (Or.inl ⟨h1, h2⟩))
  ·exact Or.inr (Or.inl h')
  ·rw [isC_iff] at h1; omega
  ·exact Or.inr (Or.inr (Or.inl ⟨h4, h2⟩))
 ·rcases h' with rfl | h' | ⟨h4, h5⟩ | ⟨h4, h5, h6⟩
  ·exact Or.inr (Or.inr (Or.inr ⟨h1, h2, h3⟩))
  ·exact Or.inr (Or.inl h')
  ·rw [isC_iff] at h2; omega
  ·have := kl_range hw h1
   exact Or.inr (Or.inr (Or.inr ⟨h1, h5, U_trans hw 4 (by omega) (by omega) h3 h6⟩))
theorem subT_anti {cs : List Cls} (hw : WfC cs) {a b : UInt8} (h : subT cs a b = true) (h' : subT cs b a = true) : a = b := by
 rw [subT_iff] at h h'
 have e : a.toNat = b.toNat → a = b := UInt8.toNat_inj.1
 rcases h with h | h | ⟨h1, h2⟩ | ⟨h1, h2, h3⟩
 ·exact h
 ·rcases h' with h' | h' | ⟨h1, h2⟩ | ⟨h1, h2, h3⟩
  ·exact h'.symm
  ·exact e (by omega)
  ·omega
  ·rw [isC_iff] at h1; omega
 ·rcases h' with h' | h' | ⟨h3, h4⟩ | ⟨h3, h4, h5⟩
  ·exact h'.symm
  ·omega
  ·rw [isC_iff] at h1; omega
  ·rw [isC_iff] at h4; omega
 ·rcases h' with h' | h' | ⟨h4, h5⟩ | ⟨h4, h5, h6⟩
  ·exact h'.symm
  ·rw [isC_iff] at h1; omega
  ·rw [isC_iff] at h2; omega
  ·have r1 := kl_range hw h1
   have r2 := kl_range hw h2
   have := U_le hw 4 (by omega) (by omega) h3
   have := U_le hw 4 (by omega) (by omega) h6
   apply e
   unfold kl at *
   omega
theorem cls_letter {cs : List Cls} (hw : WfC cs) {q : Nat} (hq : q ≤ 3) : isC (UInt8.ofNat (65 + q)) = true ∧ kl (UInt8.ofNat (65 + q)) = q := by
 have h : (UInt8.ofNat (65 + q)).toNat = 65 + q := by simp; omega
 rw [isC_iff]
 unfold kl
 omega
/-- The meeting lies above both, and below all that does. -/
theorem joinT_lub {cs : List Cls} (hw : WfC cs) (a b : UInt8) : subT cs a (joinT cs a b) = true ∧ subT cs b (joinT cs a b) = true ∧ ∀ c, subT cs a c = true → subT cs b c = true → subT cs (joinT cs a b) c = true := by
 unfold joinT
 by_cases h1 : subT cs a b = true
 ·rw [if_pos h1]; exact ⟨h1, subT_refl _, fun c _ h => h⟩
 rw [if_neg h1]
 by_cases h2 : subT cs b a = true
 ·rw [if_pos h2]; exact ⟨subT_refl _, h2, fun c h _ => h⟩
 rw [if_neg h2]
 have top : ∀ x : UInt8, subT cs x 45 = true := fun x => subT_iff.2 (Or.inr (Or.inl rfl))
 by_cases h3 : isC a = false ∨ isC b = false
 ·rw [if_pos h3]
  refine ⟨top _, top _, fun c ha hb => ?_⟩
  rw [subT_iff] at ha hb
  have hc : c.toNat = 45 := by
   rcases ha with rfl | ha | ⟨p1, p2⟩ | ⟨p1, p2, p3⟩
   ·exact absurd (subT_iff.2 hb) h2
   ·exact ha
   ·rcases hb with rfl | hb | ⟨q1, q2⟩ | ⟨q1, q2, q3⟩
    ·exact absurd (subT_iff.2 (Or.inr (Or.inr (Or.inl ⟨p1, p2⟩)))) h1
    ·exact hb
    ·exact absurd (subT_iff.2 (Or.inl (UInt8.toNat_inj.1 (by omega)))) h1
    ·exact absurd (subT_iff.2 (Or.inr (Or.inr (Or.inl ⟨q1, p2⟩)))) h1
   ·rcases hb with rfl | hb | ⟨q1, q2⟩ | ⟨q1, q2, q3⟩
    ·exact absurd (subT_iff.2 (Or.inr (Or.inr (Or.inr ⟨p1, p2, p3⟩)))) h1
    ·exact hb
    ·exact absurd (subT_iff.2 (Or.inr (Or.inr (Or.inl ⟨p1, q2⟩)))) h2
    ·rcases h3 with h3 | h3
     ·rw [h3] at p1; cases p1
     ·rw [h3] at q1; cases q1
  exact subT_iff.2 (Or.inr (Or.inl hc))
 rw [if_neg h3]
 have ha : isC a = true := by have := not_or.1 h3; simpa using this.1
 have hb : isC b = true := by have := not_or.1 h3; simpa using this.2
 have r1 := kl_range hw ha
 have r2 := kl_range hw hb
 have hp := parOf_lt hw (p := kl a) r1.1
 have base : ∀ c, subT cs a c = true → subT cs b c = true → c.toNat = 45 ∨ (isC c = true ∧ under cs 5 (parOf cs (kl a)) (kl c) = true ∧ under cs 5 (kl b) (kl c) = true) := by
  intro c hac hbc
  rw [subT_iff] at hac hbc
  rcases hac with rfl | hac | ⟨p1, p2⟩ | ⟨p1, p2, p3⟩
  ·exact absurd (subT_iff.2 hbc) h2
  ·exact Or.inl hac
  ·rw [isC_iff] at ha; omega
  ·rcases hbc with rfl | hbc | ⟨q1, q2⟩ | ⟨q1, q2, q3⟩
   ·exact absurd (subT_iff.2 (Or.inr (Or.inr (Or.inr ⟨p1, p2, p3⟩)))) h1
   ·exact Or.inl hbc
   ·rw [isC_iff] at hb; omega
   ·rcases (U_step hw r1.1 (by omega)).1 p3 with h | h
    ·have : a = c := by
      apply UInt8.toNat_inj.1
      unfold kl at h
      omega
     subst this
     exact absurd (subT_iff.2 (Or.inr (Or.inr (Or.inr ⟨q1, q2, q3⟩)))) h2
    ·exact Or.inr ⟨p2, h, q3⟩
 rcases joinF_spec hw (f := 5) (p := parOf cs (kl a)) (y := kl b) (by omega) (by omega) (by omega) with ⟨e, hno⟩ | ⟨q, hq, e, e1, e2, e3⟩
 ·rw [show joinF cs ((b.toNat : Int) - 65) 5 (parOf cs ((a.toNat : Int) - 65)) = 45 from e]
  refine ⟨top _, top _, fun c hac hbc => ?_⟩
  rcases base c hac hbc with h | ⟨_, h4, h5⟩
  ·exact subT_iff.2 (Or.inr (Or.inl h))
  ·rw [hno _ h4] at h5; cases h5
 ·rw [show joinF cs ((b.toNat : Int) - 65) 5 (parOf cs ((a.toNat : Int) - 65)) = UInt8.ofNat (65 + q) from e]
  obtain ⟨l1, l2⟩ := cls_letter hw hq
  refine ⟨?_, ?_, fun c hac hbc => ?_⟩
  ·rw [subT_iff, l2]
   exact Or.inr (Or.inr (Or.inr ⟨ha, l1, (U_step hw r1.1 (by omega)).2 (Or.inr e1)⟩))
  ·rw [subT_iff, l2]
   exact Or.inr (Or.inr (Or.inr ⟨hb, l1, e2⟩))
  ·rcases base c hac hbc with h | ⟨h3, h4, h5⟩
   ·exact subT_iff.2 (Or.inr (Or.inl h))
   ·rw [subT_iff, l2]
    exact Or.inr (Or.inr (Or.inr ⟨l1, h3, e3 _ h4 h5⟩))
end Go.Proofs.YtpfkkmacakjmbaaGreatDoor
