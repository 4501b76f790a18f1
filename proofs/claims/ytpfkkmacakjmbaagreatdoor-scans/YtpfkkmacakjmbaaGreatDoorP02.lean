import Derived.Test.YtpfkkmacakjmbaaGreatDoorP00
/- Types: what fits what, meetings. -/
namespace Go.Proofs.YtpfkkmacakjmbaaGreatDoor.Sp
def under (cs : List Cls) : Nat → Int → Int → Bool
 | 0, _, _ => false
 | f + 1, x, y => if x < 0 then false else if x = y then true else under cs f (parOf cs x) y
def isC (c : UInt8) : Bool := decide (65 ≤ c.toNat) && decide (c.toNat ≤ 68)
def subT (cs : List Cls) (a b : UInt8) : Bool :=
 if a.toNat = b.toNat ∨ b.toNat = 45 then true else
 if isC b = false then false else
 if a.toNat = 122 then true else
 if isC a = false then false else under cs 5 ((a.toNat : Int) - 65) ((b.toNat : Int) - 65)
def joinF (cs : List Cls) (y : Int) : Nat → Int → UInt8
 | 0, _ => 45
 | f + 1, p => if p < 0 then 45 else if under cs 5 y p = true then UInt8.ofNat (65 + p.toNat) else joinF cs y f (parOf cs p)
def joinT (cs : List Cls) (a b : UInt8) : UInt8 :=
 if subT cs a b = true then b else
 if subT cs b a = true then a else
 if isC a = false ∨ isC b = false then 45 else
 joinF cs ((b.toNat : Int) - 65) 5 (parOf cs ((a.toNat : Int) - 65))
/-- A type of the text. -/
def okT (n : Nat) (c : UInt8) : Bool := isTy n c || decide (c.toNat = 122) || decide (c.toNat = 45)
theorem okT_iff {n : Nat} {c : UInt8} : okT n c = true ↔ c.toNat = 105 ∨ (65 ≤ c.toNat ∧ c.toNat < 65 + n) ∨ c.toNat = 122 ∨ c.toNat = 45 := by
 simp [okT, isTy, isLet, or_assoc]
theorem isC_iff {c : UInt8} : isC c = true ↔ 65 ≤ c.toNat ∧ c.toNat ≤ 68 := by simp [isC]
theorem isC_false {c : UInt8} : isC c = false ↔ ¬ (65 ≤ c.toNat ∧ c.toNat ≤ 68) := by
 rw [← isC_iff]; cases isC c <;> simp
def isR (c : UInt8) : Bool := decide (c.toNat = 122) || isC c
/-- Do the topmost types fit where those are asked for? -/
def fitsT (cs : List Cls) (stack want : List UInt8) : Bool :=
 decide (want.length ≤ stack.length) && (List.range want.length).all fun i => subT cs (stack.getD (stack.length - want.length + i) 0) (want.getD i 0)
def fieldT (cs : List Cls) (a k : Nat) : UInt8 := ((cs[a]?.map (·.fields)).getD []).getD k 0
def clsT (a : Nat) : UInt8 := UInt8.ofNat (65 + a)
def argT (gs : List Sig) (k : Nat) : UInt8 := (gs[k]?.map (·.arg)).getD 0
def retT (gs : List Sig) (k : Nat) : UInt8 := (gs[k]?.map (·.ret)).getD 0
def arith (c : Nat) : Bool := [43, 45, 42, 47, 60, 61].contains c
def popsT (cs : List Cls) (gs : List Sig) (b : Bod) (x : Ins) : List UInt8 :=
 if x.op.toNat = 119 ∨ x.op.toNat = 102 then [105] else
 if arith x.op.toNat = true then [105, 105] else
 if x.op.toNat = 103 then [clsT x.a] else
 if x.op.toNat = 112 then [clsT x.a, fieldT cs x.a x.b] else
 if x.op.toNat = 99 then [clsT x.a, argT gs x.b] else
 if x.op.toNat = 116 then (if b.cls < 0 then [105] else [retT gs b.meth.toNat]) else []
def pushT (cs : List Cls) (gs : List Sig) (x : Ins) : List UInt8 :=
 if x.op.toNat = 107 ∨ x.op.toNat = 114 ∨ arith x.op.toNat = true ∨ x.op.toNat = 101 then [105] else
 if x.op.toNat = 122 then [122] else
 if x.op.toNat = 110 ∨ x.op.toNat = 120 then [clsT x.a] else
 if x.op.toNat = 103 then [fieldT cs x.a x.b] else
 if x.op.toNat = 99 then [retT gs x.b] else []
/-- How many types s, d, e, x take; none: what lies there is not fit. -/
def looseT (c : Nat) (stack : List UInt8) : Option Nat :=
 if c = 101 then
  if stack.length < 2 ∨ isR (stack.getD (stack.length - 1) 0) = false ∨ isR (stack.getD (stack.length - 2) 0) = false then none else some 2
 else if stack.length < 1 ∨ (c = 120 ∧ isR (stack.getD (stack.length - 1) 0) = false) then none else some 1
/-- The state behind an instruction (the types on the stack, of the locals). -/
def effT (cs : List Cls) (gs : List Sig) (b : Bod) (x : Ins) (stack locals : List UInt8) : Option (List UInt8 × List UInt8) :=
 if x.op.toNat = 115 ∨ x.op.toNat = 100 ∨ x.op.toNat = 101 ∨ x.op.toNat = 120 then
  match looseT x.op.toNat stack with
  | none => none
  | some k => some (stack.take (stack.length - k) ++ pushT cs gs x, if x.op.toNat = 115 then locals.set x.b (stack.getD (stack.length - 1) 0) else locals)
 else if x.op.toNat = 108 then
  if (locals.getD x.b 0).toNat = 45 then none else some (stack ++ [locals.getD x.b 0], locals)
 else if fitsT cs stack (popsT cs gs b x) = true then some (stack.take (stack.length - (popsT cs gs b x).length) ++ pushT cs gs x, locals)
 else none
def bothT (cs : List Cls) (a b : List UInt8) : List UInt8 := List.zipWith (joinT cs) a b
theorem fitsT_false {cs : List Cls} {st wa : List UInt8} (h : st.length < wa.length) : fitsT cs st wa = false := by
 unfold fitsT
 rw [Bool.and_eq_false_iff]
 left; simp; omega
theorem fitsT_no {cs : List Cls} {st wa : List UInt8} {k : Nat} (hk : k < wa.length) (h : subT cs (st.getD (st.length - wa.length + k) 0) (wa.getD k 0) = false) : fitsT cs st wa = false := by
 unfold fitsT
 rw [Bool.and_eq_false_iff]
 right
 rw [List.all_eq_false]
 exact ⟨k, by simpa using hk, by rw [h]; decide⟩
theorem fitsT_yes {cs : List Cls} {st wa : List UInt8} (hl : wa.length ≤ st.length) (h : ∀ k, k < wa.length → subT cs (st.getD (st.length - wa.length + k) 0) (wa.getD k 0) = true) : fitsT cs st wa = true := by
 unfold fitsT
 rw [Bool.and_eq_true]
 refine ⟨by simpa using hl, ?_⟩
 rw [List.all_eq_true]
 intro k hk
 exact h k (by simpa using hk)
theorem bothT_len {cs : List Cls} {a b : List UInt8} (h : a.length = b.length) : (bothT cs a b).length = a.length := by
 simp [bothT, h]
theorem bothT_snoc {cs : List Cls} {a b : List UInt8} {k : Nat} (ha : k < a.length) (hb : k < b.length) : bothT cs (a.take (k + 1)) (b.take (k + 1)) = bothT cs (a.take k) (b.take k) ++ [joinT cs (a.getD k 0) (b.getD k 0)] := by
 unfold bothT
 rw [List.take_succ_eq_append_getElem ha, List.take_succ_eq_append_getElem hb, List.zipWith_append (by simp; omega)]
 simp [List.getD, ha, hb]
/-- The instructions at which number i can go on; -1: none. -/
def waysT (x : Ins) (i : Nat) : Int × Int :=
 if x.op.toNat = 116 then (-1, -1) else
 if x.op.toNat = 106 then ((x.b : Int), -1) else
 if x.op.toNat = 102 then ((i : Int) + 1, (x.b : Int)) else ((i : Int) + 1, -1)
def mergeT (cs : List Cls) (a : Option (List UInt8 × List UInt8)) (sb lb : List UInt8) : Option (List UInt8 × List UInt8) := match a with
 | none => some (sb, lb)
 | some (sa, la) => if sa.length = sb.length then some (bothT cs sa sb, bothT cs la lb) else none
/-- The types of a state. -/
def okS (n nl : Nat) (s l : List UInt8) : Prop := (∀ c ∈ s, okT n c = true) ∧ (∀ c ∈ l, okT n c = true) ∧ l.length = nl ∧ s.length ≤ 100
/-- What 'into' makes of a table, of whether it has changed, of whether there is none. -/
def intoT (cs : List Cls) (T : List (Option (List UInt8 × List UInt8)) × Bool × Bool) (j : Int) (sb lb : List UInt8) : List (Option (List UInt8 × List UInt8)) × Bool × Bool :=
 if T.2.2 = true ∨ j < 0 then T else
 if (T.1.length : Int) ≤ j then (T.1, T.2.1, true) else
 match mergeT cs (T.1.getD j.toNat none) sb lb with
 | none => (T.1, T.2.1, true)
 | some m => if some m = T.1.getD j.toNat none then T else (T.1.set j.toNat (some m), true, false)
theorem parOf_range {cs : List Cls} (hw : WfC cs) {x : Int} (hx : x < cs.length) (h0 : 0 ≤ x) : -1 ≤ parOf cs x ∧ parOf cs x < cs.length := by
 unfold parOf
 obtain ⟨n, rfl⟩ := Int.eq_ofNat_of_zero_le h0
 have hn : n < cs.length := by omega
 rw [Int.toNat_natCast, List.getElem?_eq_getElem hn]
 have := hw n _ (List.getElem?_eq_getElem hn)
 simp
 omega
theorem joinF_range {cs : List Cls} {y : Int} (hn : cs.length ≤ 4) (hw : WfC cs) : ∀ {f : Nat} {p : Int}, -1 ≤ p → p < cs.length → okT cs.length (joinF cs y f p) = true := by
 intro f
 induction f with
 | zero => intro p _ _; simp [joinF, okT]
 | succ f ih =>
  intro p h1 h2
  unfold joinF
  split
  ·simp [okT]
  ·split
   ·rw [okT_iff]
    right; left
    rw [UInt8.toNat_ofNat']
    omega
   ·have := parOf_range hw h2 (by omega)
    exact ih this.1 this.2
theorem joinT_ok {cs : List Cls} {a b : UInt8} (hn : cs.length ≤ 4) (hw : WfC cs) (ha : okT cs.length a = true) (hb : okT cs.length b = true) : okT cs.length (joinT cs a b) = true := by
 unfold joinT
 split
 ·exact hb
 ·split
  ·exact ha
  ·split
   ·simp [okT]
   ·rename_i h
    have ha' := okT_iff.1 ha
    have hca : isC a = true := by cases h' : isC a with
     | true => rfl
     | false => exact absurd (Or.inl h') h
    have := isC_iff.1 hca
    have hr := parOf_range hw (x := (a.toNat : Int) - 65) (by omega) (by omega)
    exact joinF_range hn hw hr.1 hr.2
theorem pushT_len (cs : List Cls) (gs : List Sig) (x : Ins) : (pushT cs gs x).length ≤ 1 := by
 unfold pushT
 repeat' split
 all_goals simp
end Go.Proofs.YtpfkkmacakjmbaaGreatDoor.Sp
/- The reading of a source, as a function of its bytes: what both readers come to. A body's nodes stand in a row, each ahead of its parts. -/
namespace Go.Proofs.YtpfkkmacakjmbaaGreatDoor.Sp
/-- The letters of nodes: rwls+-*/<=enzgpcx,io and the digits. -/
def nodeLetters : List Nat := [48, 49, 50, 51, 52, 53, 54, 55, 56, 57, 114, 119, 108, 115, 43, 45, 42, 47, 60, 61, 101, 110, 122, 103, 112, 99, 120, 44, 105, 111]
def isDigit (c : UInt8) : Bool := decide (48 ≤ c.toNat) && decide (c.toNat ≤ 57)
/-- How many parts a node has. -/
def arity (c : UInt8) : Nat :=
 if c.toNat = 105 then 3
 else if [43, 45, 42, 47, 60, 61, 101, 112, 99, 44, 111].contains c.toNat = true then 2
 else if [115, 103, 120, 119].contains c.toNat = true then 1
 else 0
/-- One node without its parts. -/
def nodP (s : ByteArray) (cs : List Cls) (ns nl i : Nat) : Except Nat (Ins × Nat) :=
 if nodeLetters.contains (pk s i).toNat = true then
  match operP s cs ns nl (pk s i).toNat (i + 1) with
  | .ok (a, b, j) => .ok (⟨pk s i, a, if isDigit (pk s i) = true then (pk s i).toNat - 48 else b, i⟩, j)
  | .error j => .error j
 else .error i
/-- m further nodes with all their parts, of which at most k may stand there. -/
def nodesP (s : ByteArray) (cs : List Cls) (ns nl : Nat) : Nat → List Ins → Nat → Nat → Except Nat (List Ins × Nat)
 | _, t, 0, i => .ok (t, i)
 | 0, _, _ + 1, i => .error i
 | k + 1, t, m + 1, i =>
  match nodP s cs ns nl i with
  | .error j => .error j
  | .ok (x, j) => nodesP s cs ns nl k (t ++ [x]) (m + arity x.op) j
theorem nodesP_zero {s : ByteArray} {cs : List Cls} {ns nl k : Nat} {t : List Ins} {i : Nat} : nodesP s cs ns nl k t 0 i = .ok (t, i) := by cases k <;> rfl
theorem nodesP_len {s : ByteArray} {cs : List Cls} {ns nl : Nat} : ∀ {k : Nat} {t : List Ins} {m i : Nat} {r : List Ins} {j : Nat}, nodesP s cs ns nl k t m i = .ok (r, j) → t.length ≤ r.length ∧ r.length ≤ t.length + k ∧ ∃ u, r = t ++ u := by
 intro k
 induction k with
 | zero =>
  intro t m i r j h
  cases m with
  | zero => cases h; exact ⟨by omega, by omega, [], by simp⟩
  | succ m => cases h
 | succ k ih =>
  intro t m i r j h
  cases m with
  | zero => cases h; exact ⟨by omega, by omega, [], by simp⟩
  | succ m =>
   simp only [nodesP] at h
   cases hx : nodP s cs ns nl i with
   | error l => rw [hx] at h; cases h
   | ok y =>
    rw [hx] at h
    obtain ⟨h1, h2, u, h3⟩ := ih h
    simp at h1 h2
    exact ⟨by omega, by omega, y.1 :: u, by rw [h3]; simp⟩
/-- First some, then the others. -/
theorem nodesP_add {s : ByteArray} {cs : List Cls} {ns nl : Nat} : ∀ {k : Nat} {t : List Ins} {m n i : Nat}, nodesP s cs ns nl k t (m + n) i = match nodesP s cs ns nl k t m i with
  | .error j => .error j
  | .ok (r, j) => nodesP s cs ns nl (k - (r.length - t.length)) r n j := by
 intro k
 induction k with
 | zero =>
  intro t m n i
  cases m with
  | zero => simp [nodesP_zero]
  | succ m => rw [show m + 1 + n = (m + n) + 1 from by omega]; rfl
 | succ k ih =>
  intro t m n i
  cases m with
  | zero => simp [nodesP_zero]
  | succ m =>
   rw [show m + 1 + n = (m + n) + 1 from by omega]
   simp only [nodesP]
   cases hx : nodP s cs ns nl i with
   | error l => rfl
   | ok y =>
    obtain ⟨x, j⟩ := y
    simp only
    rw [show m + n + arity x.op = (m + arity x.op) + n from by omega, ih]
    cases hr : nodesP s cs ns nl k (t ++ [x]) (m + arity x.op) j with
    | error l => rfl
    | ok q =>
     obtain ⟨r, l⟩ := q
     have := nodesP_len hr
     simp only
     have e : k - (r.length - (t ++ [x]).length) = k + 1 - (r.length - t.length) := by
      have := this.1
      simp at this ⊢
      omega
     rw [e]
/-- What is to be done in a body of a source: one node, and a dot. -/
def treeP (s : ByteArray) (cs : List Cls) (ns nl i : Nat) : Except Nat (List Ins × Nat) :=
 match nodesP s cs ns nl 24 [] 1 i with
 | .error j => .error j
 | .ok (t, j) => if (pk s j).toNat = 46 then .ok (t, j + 1) else .error j
def bodS (s : ByteArray) (cs : List Cls) (gs : List Sig) : Nat → List Bod → Nat → Except Nat (List Bod × Nat)
 | 0, bs, i => if (pk s i).toNat = 59 then .ok (bs, i + 1) else .error i
 | k + 1, bs, i => if (pk s i).toNat = 59 then .ok (bs, i + 1) else
  match letP s cs.length i with
  | .error j => .error j
  | .ok (x, j) =>
   match digP s gs.length j with
   | .error l => .error l
   | .ok (m, l) =>
    if (ownB bs x m).isSome = true then .error j else
    match tys s cs.length 58 3 [] l with
    | .error p => .error p
    | .ok (t, p) =>
     match treeP s cs gs.length (t.length + 2) p with
     | .error q => .error q
     | .ok (is, q) => bodS s cs gs k (bs ++ [⟨x, m, UInt8.ofNat (65 + x) :: argOf gs m :: t, is⟩]) q
/-- The whole source, or the place of the first byte that cannot stand there. -/
def readS (s : ByteArray) : Except Nat Img :=
 match clsP s 4 [] 0 with
 | .error i => .error i
 | .ok (cs, i) =>
  match sigP s cs.length 3 [] i with
  | .error j => .error j
  | .ok (gs, j) =>
   match bodS s cs gs 6 [] j with
   | .error l => .error l
   | .ok (bs, l) =>
    match tys s cs.length 58 3 [] l with
    | .error p => .error p
    | .ok (t, p) =>
     match treeP s cs gs.length t.length p with
     | .error q => .error q
     | .ok (is, q) => if q < s.size then .error q else .ok ⟨cs, gs, bs ++ [⟨-1, -1, t, is⟩]⟩
/-- How many nodes m nodes are, with all their parts. -/
def sk : Nat → List Ins → Nat
 | 0, _ => 0
 | _ + 1, [] => 0
 | m + 1, x :: t => 1 + sk (m + arity x.op) t
/-- These are m whole nodes. -/
def full : Nat → List Ins → Prop
 | 0, [] => True
 | 0, _ :: _ => False
 | _ + 1, [] => False
 | m + 1, x :: t => full (m + arity x.op) t
/-- Where the node behind node i begins. -/
def endN (t : List Ins) (i : Nat) : Nat := i + sk 1 (t.drop i)
theorem sk_zero {t : List Ins} : sk 0 t = 0 := by cases t <;> rfl
theorem sk_le : ∀ {t : List Ins} {m : Nat}, sk m t ≤ t.length := by
 intro t
 induction t with
 | nil => intro m; cases m <;> simp [sk]
 | cons x t ih =>
  intro m
  cases m with
  | zero => simp [sk]
  | succ m => have := ih (m := m + arity x.op); simp [sk]; omega
theorem sk_add : ∀ {t : List Ins} {m n : Nat}, sk (m + n) t = sk m t + sk n (t.drop (sk m t)) := by
 intro t
 induction t with
 | nil => intro m n; cases m <;> cases n <;> simp [sk]
 | cons x t ih =>
  intro m n
  cases m with
  | zero => simp [sk_zero]
  | succ m =>
   rw [show m + 1 + n = (m + n) + 1 from by omega]
   simp only [sk]
   rw [show m + n + arity x.op = (m + arity x.op) + n from by omega, ih, show 1 + sk (m + arity x.op) t = sk (m + arity x.op) t + 1 from by omega, List.drop_succ_cons]
   omega
theorem full_sk : ∀ {u : List Ins} {m : Nat} {v : List Ins}, full m u → sk m (u ++ v) = u.length := by
 intro u
 induction u with
 | nil =>
  intro m v h
  cases m with
  | zero => simp [sk_zero]
  | succ m => cases h
 | cons x u ih =>
  intro m v h
  cases m with
  | zero => cases h
  | succ m => simp only [List.cons_append, sk, List.length_cons]; rw [ih h]; omega
theorem full_add : ∀ {u : List Ins} {m n : Nat} {v : List Ins}, full m u → full n v → full (m + n) (u ++ v) := by
 intro u
 induction u with
 | nil =>
  intro m n v h h2
  cases m with
  | zero => simpa using h2
  | succ m => cases h
 | cons x u ih =>
  intro m n v h h2
  cases m with
  | zero => cases h
  | succ m =>
   rw [show m + 1 + n = (m + n) + 1 from by omega]
   show full (m + n + arity x.op) (u ++ v)
   rw [show m + n + arity x.op = (m + arity x.op) + n from by omega]
   exact ih h h2
theorem nodesP_full {s : ByteArray} {cs : List Cls} {ns nl : Nat} : ∀ {k : Nat} {t : List Ins} {m i : Nat} {r : List Ins} {j : Nat}, nodesP s cs ns nl k t m i = .ok (r, j) → ∃ u, r = t ++ u ∧ full m u ∧ u.length ≤ k := by
 intro k
 induction k with
 | zero =>
  intro t m i r j h
  cases m with
  | zero => cases h; exact ⟨[], by simp, trivial, by simp⟩
  | succ m => cases h
 | succ k ih =>
  intro t m i r j h
  cases m with
  | zero => cases h; exact ⟨[], by simp, trivial, by simp⟩
  | succ m =>
   simp only [nodesP] at h
   cases hx : nodP s cs ns nl i with
   | error l => rw [hx] at h; cases h
   | ok y =>
    rw [hx] at h
    obtain ⟨u, h1, h2, h3⟩ := ih h
    exact ⟨y.1 :: u, by rw [h1]; simp, h2, by simp; omega⟩
/-- The types that a node's parts must fit (those of e x , i o are looked at apart). -/
def askT (cs : List Cls) (gs : List Sig) (lo : List UInt8) (x : Ins) : List UInt8 :=
 if arith x.op.toNat = true then [105, 105]
 else if x.op.toNat = 119 then [105]
 else if x.op.toNat = 115 then [lo.getD x.b 0]
 else if x.op.toNat = 103 then [clsT x.a]
 else if x.op.toNat = 112 then [clsT x.a, fieldT cs x.a x.b]
 else if x.op.toNat = 99 then [clsT x.a, argT gs x.b]
 else []
/-- The type of a node, by its letter. -/
def giveT (cs : List Cls) (gs : List Sig) (lo : List UInt8) (x : Ins) : UInt8 :=
 if x.op.toNat = 122 then 122
 else if x.op.toNat = 108 then lo.getD x.b 0
 else if x.op.toNat = 110 then clsT x.a
 else if x.op.toNat = 103 then fieldT cs x.a x.b
 else if x.op.toNat = 99 then retT gs x.b
 else 105
/-- The type of a node whose parts have these types. -/
def nodeT (cs : List Cls) (gs : List Sig) (lo : List UInt8) (x : Ins) (ts : List UInt8) : Option UInt8 :=
 if askT cs gs lo x ≠ [] ∧ fitsT cs ts (askT cs gs lo x) = false then none
 else if x.op.toNat = 101 then (if isR (ts.getD 0 0) = true ∧ isR (ts.getD 1 0) = true then some 105 else none)
 else if x.op.toNat = 120 then (if isR (ts.getD 0 0) = true then some (clsT x.a) else none)
 else if x.op.toNat = 44 then some (ts.getD 1 0)
 else if x.op.toNat = 105 then (if (ts.getD 0 0).toNat = 105 ∧ (joinT cs (ts.getD 1 0) (ts.getD 2 0)).toNat ≠ 45 then some (joinT cs (ts.getD 1 0) (ts.getD 2 0)) else none)
 else if x.op.toNat = 111 then (if (ts.getD 0 0).toNat = 105 then some 105 else none)
 else some (giveT cs gs lo x)
/-- The types of n nodes, one behind the other, from number k on. -/
def partsT (t : List Ins) (g : Nat → Option UInt8) : Nat → Nat → Option (List UInt8)
 | 0, _ => some []
 | n + 1, k => match g k with
  | none => none
  | some c => (partsT t g n (endN t k)).map (c :: ·)
/-- The type of node i. -/
def typN (cs : List Cls) (gs : List Sig) (lo : List UInt8) (t : List Ins) : Nat → Nat → Option UInt8
 | 0, _ => none
 | f + 1, i => match t[i]? with
  | none => none
  | some x => match partsT t (typN cs gs lo t f) (arity x.op) (i + 1) with
   | none => none
   | some ts => nodeT cs gs lo x ts
/-- The first node that calls a method that its class does not have. -/
def unlS (cs : List Cls) (bs : List Bod) (t : List Ins) : Option Nat := unl cs bs t
def linkS (s : ByteArray) : Except (Nat × Nat) Img :=
 if 400 < s.size then .error (1, 0) else
 match readS s with
 | .error j => .error (2, j)
 | .ok im => match im.bodies.findSome? (fun b => unl im.classes im.bodies b.code) with
  | some p => .error (3, p)
  | none => .ok im
/-- Whether a body's node has a type that fits. -/
def bodyT (im : Img) (b : Bod) : Bool := match typN im.classes im.sigs b.locals b.code b.code.length 0 with
 | none => false
 | some c => subT im.classes c (if b.cls < 0 then 105 else retT im.sigs b.meth.toNat)
def scanP (s : ByteArray) : Nat × Nat := match linkS s with
 | .error e => e
 | .ok im => match im.bodies.findIdx? (fun b => !bodyT im b) with
  | some k => (4, k)
  | none => (0, 0)
end Go.Proofs.YtpfkkmacakjmbaaGreatDoor.Sp
/- A source that was read: all that it names is there. -/
namespace Go.Proofs.YtpfkkmacakjmbaaGreatDoor.Sp
/-- A node's operands are there. -/
structure WfN (cs : List Cls) (ns nl : Nat) (x : Ins) : Prop where
 op : nodeLetters.contains x.op.toNat = true
 pos : x.pos ≤ 2000
 cls : x.op.toNat = 110 ∨ x.op.toNat = 120 ∨ x.op.toNat = 103 ∨ x.op.toNat = 112 ∨ x.op.toNat = 99 → x.a < cs.length
 fld : x.op.toNat = 103 ∨ x.op.toNat = 112 → x.b < nFields cs x.a
 sig : x.op.toNat = 99 → x.b < ns
 loc : x.op.toNat = 108 ∨ x.op.toNat = 115 → x.b < nl
 num : x.b < 100
structure WfBS (cs : List Cls) (gs : List Sig) (b : Bod) : Prop where
 code : ∀ x ∈ b.code, WfN cs gs.length b.locals.length x
 full : full 1 b.code
 len : b.code.length ≤ 24
 loc : b.locals.length ≤ 5 ∧ ∀ t ∈ b.locals, isTy cs.length t = true
 cls : (b.cls = -1 ∧ b.meth = -1) ∨ (0 ≤ b.cls ∧ b.cls < cs.length ∧ 0 ≤ b.meth ∧ b.meth < gs.length)
structure WfIS (im : Img) : Prop where
 cls : WfC im.classes
 nc : im.classes.length ≤ 4
 ns : im.sigs.length ≤ 3
 sig : ∀ g ∈ im.sigs, isTy im.classes.length g.arg = true ∧ isTy im.classes.length g.ret = true
 bod : ∀ b ∈ im.bodies, WfBS im.classes im.sigs b
 nb : im.bodies.length ≤ 7
theorem digit_range {c : UInt8} (h : isDigit c = true) : 48 ≤ c.toNat ∧ c.toNat ≤ 57 := by simpa [isDigit] using h
theorem nodP_wf {s : ByteArray} {cs : List Cls} {ns nl i : Nat} {x : Ins} {j : Nat} (hs : s.size ≤ 2000) (h : nodP s cs ns nl i = .ok (x, j)) : WfN cs ns nl x := by
 unfold nodP at h
 split at h
 ·rename_i hl
  split at h
  ·rename_i a b l ho
   cases h
   have hp : i < s.size := pk_lt (by
    rcases Nat.eq_zero_or_pos (pk s i).toNat with h | h
    ·rw [h] at hl; exact absurd hl (by decide)
    ·exact h)
   by_cases hd : isDigit (pk s i) = true
   ·have hr := digit_range hd
    refine ⟨hl, by simp; omega, ?_, ?_, ?_, ?_, ?_⟩
    all_goals simp only [hd, if_true]
    all_goals (intros; omega)
   ·refine ⟨hl, by simp; omega, ?_, ?_, ?_, ?_, ?_⟩
    all_goals simp only [hd, if_false, Bool.false_eq_true]
    all_goals
     unfold operP at ho
     repeat' split at ho
    all_goals first
     | (cases ho; done)
     | skip
    all_goals (intros; first | omega | skip)
    all_goals (cases ho; first | omega | (have := digP_spec ‹_›; omega) | (have := letP_spec ‹_›; omega) | (have h1 := digP_spec ‹digP s 10 (i + 1) = _›; have h2 := digP_spec ‹digP s 10 _ = Except.ok (_, j)›; omega))
  ·cases h
 ·cases h
theorem nodesP_wf {s : ByteArray} {cs : List Cls} {ns nl : Nat} (hs : s.size ≤ 2000) : ∀ {k : Nat} {t : List Ins} {m i : Nat} {r : List Ins} {j : Nat}, (∀ x ∈ t, WfN cs ns nl x) → nodesP s cs ns nl k t m i = .ok (r, j) → ∀ x ∈ r, WfN cs ns nl x := by
 intro k
 induction k with
 | zero =>
  intro t m i r j hw h
  cases m with
  | zero => cases h; exact hw
  | succ m => cases h
 | succ k ih =>
  intro t m i r j hw h
  cases m with
  | zero => cases h; exact hw
  | succ m =>
   simp only [nodesP] at h
   cases hx : nodP s cs ns nl i with
   | error l => rw [hx] at h; cases h
   | ok y =>
    rw [hx] at h
    exact ih (fun z hz => by
     rcases List.mem_append.1 hz with hz | hz
     ·exact hw z hz
     ·simp at hz; subst hz; exact nodP_wf hs hx) h
theorem treeP_wf {s : ByteArray} {cs : List Cls} {ns nl i : Nat} {r : List Ins} {j : Nat} (hs : s.size ≤ 2000) (h : treeP s cs ns nl i = .ok (r, j)) : (∀ x ∈ r, WfN cs ns nl x) ∧ full 1 r ∧ r.length ≤ 24 := by
 unfold treeP at h
 split at h
 ·cases h
 ·rename_i t l hn
  split at h
  ·cases h
   obtain ⟨u, h1, h2, h3⟩ := nodesP_full hn
   simp at h1
   subst h1
   exact ⟨nodesP_wf hs (by simp) hn, h2, h3⟩
  ·cases h
theorem bodS_wf {s : ByteArray} {cs : List Cls} {gs : List Sig} (hs : s.size ≤ 2000) (hn : cs.length ≤ 4) (hg : ∀ g ∈ gs, isTy cs.length g.arg = true ∧ isTy cs.length g.ret = true) : ∀ {k : Nat} {bs : List Bod} {i : Nat} {r : List Bod} {j : Nat}, (∀ b ∈ bs, WfBS cs gs b) → bodS s cs gs k bs i = .ok (r, j) → (∀ b ∈ r, WfBS cs gs b) ∧ r.length ≤ k + bs.length := by
 intro k
 induction k with
 | zero =>
  intro bs i r j hw h
  unfold bodS at h
  split at h
  ·cases h; exact ⟨hw, by omega⟩
  ·cases h
 | succ k ih =>
  intro bs i r j hw h
  unfold bodS at h
  split at h
  ·cases h; exact ⟨hw, by omega⟩
  ·split at h
   ·cases h
   ·rename_i x l1 h1
    split at h
    ·cases h
    ·rename_i m l2 h2
     split at h
     ·cases h
     ·split at h
      ·cases h
      ·rename_i t l3 h3
       split at h
       ·cases h
       ·rename_i is l4 h4
        have hx := letP_spec h1
        have hm := digP_spec h2
        have ht := tys_len h3
        have ha := tys_all (by simp) h3
        have hc := treeP_wf hs h4
        have := ih (fun b hb => by
         rcases List.mem_append.1 hb with hb | hb
         ·exact hw b hb
         ·rw [List.mem_singleton] at hb
          subst hb
          refine ⟨by simpa using hc.1, hc.2.1, hc.2.2, ⟨by simp at ht ⊢; omega, ?_⟩, Or.inr ⟨by simp, by simp; omega, by simp, by simp; omega⟩⟩
          intro c hcm
          rw [List.mem_cons, List.mem_cons] at hcm
          rcases hcm with rfl | rfl | hcm
          ·exact isTy_let hx hn
          ·unfold argOf
           rw [List.getElem?_eq_getElem (by omega)]
           exact (hg _ (List.getElem_mem _)).1
          ·exact ha c hcm) h
        simp at this
        exact ⟨this.1, by omega⟩
theorem readS_wf {s : ByteArray} {im : Img} (hs : s.size ≤ 2000) (h : readS s = .ok im) : WfIS im := by
 unfold readS at h
 split at h
 ·cases h
 ·rename_i cs l1 h1
  split at h
  ·cases h
  ·rename_i gs l2 h2
   split at h
   ·cases h
   ·rename_i bs l3 h3
    split at h
    ·cases h
    ·rename_i t l4 h4
     split at h
     ·cases h
     ·rename_i is l5 h5
      split at h
      ·cases h
      ·cases h
       have hc := clsP_wf h1
       have hsl := sigP_len h2
       have hsa := sigP_all (by simp) h2
       have hb := bodS_wf hs hc.2 hsa (by simp) h3
       have ht := tys_len h4
       have hta := tys_all (by simp) h4
       have hco := treeP_wf hs h5
       refine ⟨hc.1, hc.2, by simpa using hsl, hsa, ?_, by simp at hb ⊢; omega⟩
       intro b hbm
       simp at hbm
       rcases hbm with hbm | rfl
       ·exact hb.1 b hbm
       ·exact ⟨hco.1, hco.2.1, hco.2.2, ⟨by simp at ht ⊢; omega, hta⟩, Or.inl ⟨rfl, rfl⟩⟩
end Go.Proofs.YtpfkkmacakjmbaaGreatDoor.Sp
/- The working out of a table, round after round, without the program. -/
namespace Go.Proofs.YtpfkkmacakjmbaaGreatDoor
open Go Sp
set_option linter.unusedSimpArgs false
set_option linter.unusedVariables false
abbrev St := Option (List UInt8 × List UInt8)
abbrev Tn := List St × Bool × Bool
def stepT (im : Img) (bd : Bod) (T : Tn) (i : Nat) : Option Tn :=
 match bd.code[i]?, T.1.getD i none with
 | some x, some (s, l) =>
  match effT im.classes im.sigs bd x s l with
  | none => none
  | some (s', l') => some (intoT im.classes (intoT im.classes T (waysT x i).1 s' l') (waysT x i).2 s' l')
 | _, _ => some T
def sweepT (im : Img) (bd : Bod) : Nat → Nat → Tn → Option Tn
 | 0, _, T => some T
 | f + 1, i, T => if T.2.2 = true then some T else
  match stepT im bd T i with
  | none => none
  | some T' => sweepT im bd f (i + 1) T'
def roundsT (im : Img) (bd : Bod) : Nat → Tn → Option (List St)
 | 0, T => some T.1
 | f + 1, T => if T.2.1 = false then some T.1 else
  match sweepT im bd bd.code.length 0 (T.1, false, T.2.2) with
  | none => none
  | some T' => if T'.2.2 = true then none else roundsT im bd f T'
def startTab (bd : Bod) : List St := (List.replicate bd.code.length none).set 0 (some ([], bd.locals))
def leastT (im : Img) (bd : Bod) : Option (List St) := roundsT im bd 80000 (startTab bd, true, false)
/-- How many states are set. -/
def setN (tb : List St) : Nat := tb.countP Option.isSome
def okZ (nc nl : Nat) (s l : List UInt8) : Prop := (∀ c ∈ s, okT nc c = true) ∧ (∀ c ∈ l, okT nc c = true) ∧ l.length = nl
/-- The types are types; no stack is longer than states are set. -/
def wfT (nc nl n : Nat) (tb : List St) : Prop := tb.length = n ∧ ∀ (k : Nat) s l, tb[k]? = some (some (s, l)) → okZ nc nl s l ∧ s.length < setN tb
theorem setN_le (tb : List St) : setN tb ≤ tb.length := List.countP_le_length
theorem wfT.okS {nc nl n : Nat} {tb : List St} (h : wfT nc nl n tb) (hn : n ≤ 100) (k : Nat) (s l : List UInt8) (hk : tb[k]? = some (some (s, l))) : okS nc nl s l := by
 obtain ⟨⟨a, b, c⟩, d⟩ := h.2 k s l hk
 have := setN_le tb
 have := h.1
 exact ⟨a, b, c, by omega⟩
theorem setN_set {tb : List St} {j : Nat} {m : List UInt8 × List UInt8} (hj : j < tb.length) : setN (tb.set j (some m)) = setN tb + (if (tb[j]'hj).isSome then 0 else 1) := by
 unfold setN
 rw [List.countP_set hj]
 have : tb[j].isSome = true → 0 < tb.countP Option.isSome := fun h => List.countP_pos_iff.2 ⟨_, List.getElem_mem hj, h⟩
 by_cases h : tb[j].isSome = true
 ·have := this h; simp [h]; omega
 ·simp [h]
theorem mem_bothT {cs : List Cls} (hn : cs.length ≤ 4) (hw : WfC cs) : ∀ {a b : List UInt8}, (∀ c ∈ a, okT cs.length c = true) → (∀ c ∈ b, okT cs.length c = true) → ∀ c ∈ bothT cs a b, okT cs.length c = true := by
 intro a
 induction a with
 | nil => intro b _ _ c hc; simp [bothT] at hc
 | cons x a ih =>
  intro b ha hb c hc
  cases b with
  | nil => simp [bothT] at hc
  | cons y b =>
   simp only [bothT, List.zipWith_cons_cons, List.mem_cons] at hc
   rcases hc with rfl | hc
   ·exact joinT_ok hn hw (ha _ (by simp)) (hb _ (by simp))
   ·exact ih (fun c h => ha c (by simp [h])) (fun c h => hb c (by simp [h])) c hc
theorem intoT_wf {cs : List Cls} {nl n : Nat} (hn : cs.length ≤ 4) (hw : WfC cs) {T : Tn} {j : Int} {sb lb : List UInt8} (h : wfT cs.length nl n T.1) (hz : okZ cs.length nl sb lb) (hl : sb.length ≤ setN T.1) :
  wfT cs.length nl n (intoT cs T j sb lb).1 ∧ setN T.1 ≤ setN (intoT cs T j sb lb).1 := by
 unfold intoT
 split
 ·exact ⟨h, Nat.le_refl _⟩
 split
 ·exact ⟨h, Nat.le_refl _⟩
 rename_i h1 h2
 have hjl : j.toNat < T.1.length := by omega
 split
 ·exact ⟨h, Nat.le_refl _⟩
 rename_i m hm
 split
 ·exact ⟨h, Nat.le_refl _⟩
 have hs := setN_set (m := m) hjl
 simp only
 refine ⟨⟨by rw [List.length_set]; exact h.1, ?_⟩, by omega⟩
 intro k s l hk
 rw [List.getElem?_set] at hk
 split at hk
 ·rename_i hjk
  subst hjk
  try rw [if_pos hjl] at hk
  injection hk with hk
  injection hk with hk
  subst hk
  have hge : T.1.getD j.toNat none = T.1[j.toNat] := by simp [List.getD, hjl]
  rw [hge] at hm
  cases ho : T.1[j.toNat] with
  | none =>
   rw [ho] at hm hs
   simp [mergeT] at hm
   obtain ⟨rfl, rfl⟩ := hm
   simp at hs
   exact ⟨hz, by omega⟩
  | some p =>
   obtain ⟨sa, la⟩ := p
   rw [ho] at hm hs
   simp only [mergeT] at hm
   split at hm
   ·rename_i hlen
    injection hm with hm
    injection hm with h3 h4
    subst h3 h4
    have ha := h.2 j.toNat sa la (by rw [List.getElem?_eq_getElem hjl, ho])
    simp at hs
    refine ⟨⟨mem_bothT hn hw ha.1.1 hz.1, mem_bothT hn hw ha.1.2.1 hz.2.1, ?_⟩, ?_⟩
    ·rw [bothT_len (by rw [ha.1.2.2, hz.2.2])]; exact ha.1.2.2
    ·rw [bothT_len hlen]; omega
   ·cases hm
 ·have := h.2 k s l hk
  exact ⟨this.1, by omega⟩
theorem intoT_len (cs : List Cls) (T : Tn) (j : Int) (sb lb : List UInt8) : (intoT cs T j sb lb).1.length = T.1.length := by
 unfold intoT
 split
 ·rfl
 split
 ·rfl
 split
 ·rfl
 split
 ·rfl
 ·simp
theorem isTy_ok {n : Nat} {c : UInt8} (h : isTy n c = true) : okT n c = true := by simp [okT, h]
theorem pushT_ok {im : Img} (hW : WfI im) {x : Ins} {nl : Nat} (hx : WfX im.classes im.sigs.length nl x) : ∀ c ∈ pushT im.classes im.sigs x, okT im.classes.length c = true := by
 intro c hc
 have hcl : ∀ a, a < im.classes.length → okT im.classes.length (clsT a) = true := by
  intro a ha
  have := hW.nc
  rw [okT_iff]
  right; left
  have h1 : (clsT a).toNat = 65 + a := by simp [clsT]; omega
  omega
 unfold pushT at hc
 split at hc
 ·simp at hc; subst hc; simp [okT_iff]
 split at hc
 ·simp at hc; subst hc; simp [okT_iff]
 split at hc
 ·rename_i h
  simp at hc
  subst hc
  exact hcl _ (hx.cls (by omega))
 split at hc
 ·rename_i h
  simp at hc
  subst hc
  have h1 := hx.cls (by omega)
  have h2 := hx.fld (by omega)
  obtain ⟨cl, hcl⟩ : ∃ cl, im.classes[x.a]? = some cl := ⟨_, List.getElem?_eq_getElem h1⟩
  unfold fieldT
  rw [hcl]
  simp only [nFields, hcl] at h2
  simp only [Option.map_some, Option.getD_some] at h2 ⊢
  have hf := hW.cls x.a cl hcl
  have hm : cl.fields.getD x.b 0 ∈ cl.fields := by
   have : cl.fields.getD x.b 0 = cl.fields[x.b]'(by simpa using h2) := by simp [List.getD, h2]
   rw [this]; exact List.getElem_mem _
  exact isTy_ok (isTy_mono (by omega) (hf.2.2.2 _ hm))
 split at hc
 ·rename_i h
  simp at hc
  subst hc
  have h2 := hx.sig h
  obtain ⟨g, hg⟩ : ∃ g, im.sigs[x.b]? = some g := ⟨_, List.getElem?_eq_getElem h2⟩
  unfold retT
  rw [hg]
  simp only [Option.map_some, Option.getD_some]
  exact isTy_ok (hW.sig g (List.mem_of_getElem? hg)).2
 ·simp at hc
theorem getD_ok {n : Nat} {l : List UInt8} (h : ∀ c ∈ l, okT n c = true) {k : Nat} (hk : k < l.length) : okT n (l.getD k 0) = true := by
 have : l.getD k 0 = l[k] := by simp [List.getD, hk]
 rw [this]; exact h _ (List.getElem_mem _)
theorem effT_ok {im : Img} (hW : WfI im) {bd : Bod} {x : Ins} (hx : WfX im.classes im.sigs.length bd.locals.length x) {s l s' l' : List UInt8} (hz : okZ im.classes.length bd.locals.length s l) (h : effT im.classes im.sigs bd x s l = some (s', l')) :
  okZ im.classes.length bd.locals.length s' l' ∧ s'.length ≤ s.length + 1 := by
 have hp := pushT_ok hW hx
 have hpl := pushT_len im.classes im.sigs x
 have key : ∀ k, (∀ c ∈ s.take k ++ pushT im.classes im.sigs x, okT im.classes.length c = true) ∧ (s.take k ++ pushT im.classes im.sigs x).length ≤ s.length + 1 := by
  intro k
  constructor
  ·intro c hc
   rw [List.mem_append] at hc
   rcases hc with hc | hc
   ·exact hz.1 c (List.mem_of_mem_take hc)
   ·exact hp c hc
  ·simp; omega
 unfold effT at h
 split at h
 ·split at h
  ·cases h
  ·rename_i k hk
   injection h with h
   injection h with h1 h2
   subst h1
   refine ⟨⟨(key _).1, ?_, ?_⟩, (key _).2⟩
   ·intro c hc
    rw [← h2] at hc
    split at hc
    ·rename_i h115
     have := List.mem_or_eq_of_mem_set hc
     rcases this with h | h
     ·exact hz.2.1 c h
     ·rw [h]
      apply getD_ok hz.1
      rw [h115] at hk
      unfold looseT at hk
      simp at hk
      have := List.length_pos_iff.2 hk.1
      omega
    ·exact hz.2.1 c hc
   ·rw [← h2]
    split
    ·rw [List.length_set]; exact hz.2.2
    ·exact hz.2.2
 split at h
 ·split at h
  ·cases h
  ·rename_i h108 _
   injection h with h
   injection h with h1 h2
   subst h1 h2
   refine ⟨⟨?_, hz.2⟩, by simp⟩
   intro c hc
   rw [List.mem_append] at hc
   rcases hc with hc | hc
   ·exact hz.1 c hc
   ·simp at hc
    subst hc
    have := getD_ok hz.2.1 (k := x.b) (by rw [hz.2.2]; exact hx.loc (Or.inl h108))
    simpa [List.getD] using this
 split at h
 ·injection h with h
  injection h with h1 h2
  subst h1 h2
  exact ⟨⟨(key _).1, hz.2⟩, (key _).2⟩
 ·cases h
theorem stepT_wf {im : Img} (hW : WfI im) {bd : Bod} (hb : WfB im.classes im.sigs bd) {n : Nat} {T T' : Tn} {i : Nat} (h : wfT im.classes.length bd.locals.length n T.1) (hs : stepT im bd T i = some T') :
  wfT im.classes.length bd.locals.length n T'.1 := by
 unfold stepT at hs
 split at hs
 ·rename_i x s l hx hst
  split at hs
  ·cases hs
  ·rename_i s' l' he
   injection hs with hs
   subst hs
   have hg : T.1[i]? = some (some (s, l)) := by
    simp only [List.getD] at hst
    cases hh : T.1[i]? with
    | none => rw [hh] at hst; cases hst
    | some o => rw [hh] at hst; simp at hst; rw [hst]
   have hz := h.2 i s l hg
   have he' := effT_ok hW (hb.code x (List.mem_of_getElem? hx)) hz.1 he
   have h1 := intoT_wf hW.nc hW.cls (j := (waysT x i).1) h he'.1 (by omega)
   exact (intoT_wf hW.nc hW.cls (j := (waysT x i).2) h1.1 he'.1 (by omega)).1
 ·injection hs with hs
  subst hs
  exact h
theorem startTab_wf {im : Img} {bd : Bod} (hb : WfB im.classes im.sigs bd) : wfT im.classes.length bd.locals.length bd.code.length (startTab bd) := by
 unfold startTab
 refine ⟨by simp, ?_⟩
 intro k s l hk
 have h0 : 0 < (List.replicate bd.code.length (none : St)).length := by simpa using hb.len.1
 have hs := setN_set (m := ([], bd.locals)) h0
 rw [List.getElem?_set] at hk
 split at hk
 ·rename_i hk0
  subst hk0
  try rw [if_pos h0] at hk
  injection hk with hk
  injection hk with hk
  injection hk with h1 h2
  subst h1 h2
  refine ⟨⟨by simp, fun c hc => isTy_ok (hb.loc.2 c hc), rfl⟩, ?_⟩
  rw [hs]
  simp
 ·rw [List.getElem?_replicate] at hk
  split at hk <;> simp at hk
def afterSweep (im : Img) (bd : Bod) (f : Nat) : Option Tn → Option (List St)
 | none => none
 | some T' => if T'.2.2 = true then none else roundsT im bd f T'
theorem roundsT_go (im : Img) (bd : Bod) (f : Nat) (tb : List St) : roundsT im bd (f + 1) (tb, true, false) = afterSweep im bd f (sweepT im bd bd.code.length 0 (tb, false, false)) := by
 unfold roundsT
 rw [if_neg (by simp)]
 simp only
 cases sweepT im bd bd.code.length 0 (tb, false, false) <;> rfl
theorem roundsT_stop (im : Img) (bd : Bod) (f : Nat) (tb : List St) (b : Bool) : roundsT im bd f (tb, false, b) = some tb := by
 cases f <;> simp [roundsT]
theorem sweepT_bad (im : Img) (bd : Bod) (f i : Nat) (T : Tn) (h : T.2.2 = true) : sweepT im bd f i T = some T := by
 cases f
 ·rfl
 ·simp only [sweepT, if_pos h]
theorem sweepT_none {im : Img} {bd : Bod} {f i : Nat} {T : Tn} (h : T.2.2 = false) (hs : stepT im bd T i = none) : sweepT im bd (f + 1) i T = none := by
 simp [sweepT, h, hs]
theorem sweepT_some {im : Img} {bd : Bod} {f i : Nat} {T T' : Tn} (h : T.2.2 = false) (hs : stepT im bd T i = some T') : sweepT im bd (f + 1) i T = sweepT im bd f (i + 1) T' := by
 simp [sweepT, h, hs]
theorem stepT_skip {im : Img} {bd : Bod} {T : Tn} {i : Nat} (h : T.1[i]? = some none) : stepT im bd T i = some T := by
 unfold stepT
 rw [List.getD_eq_getElem?_getD, h]
 simp
theorem stepT_none {im : Img} {bd : Bod} {T : Tn} {i : Nat} {x : Ins} {s l : List UInt8} (hx : bd.code[i]? = some x) (h : T.1[i]? = some (some (s, l))) (he : effT im.classes im.sigs bd x s l = none) : stepT im bd T i = none := by
 unfold stepT
 rw [List.getD_eq_getElem?_getD, h, hx]
 simp [he]
theorem stepT_some {im : Img} {bd : Bod} {T : Tn} {i : Nat} {x : Ins} {s l s' l' : List UInt8} (hx : bd.code[i]? = some x) (h : T.1[i]? = some (some (s, l))) (he : effT im.classes im.sigs bd x s l = some (s', l')) :
  stepT im bd T i = some (intoT im.classes (intoT im.classes T (waysT x i).1 s' l') (waysT x i).2 s' l') := by
 unfold stepT
 rw [List.getD_eq_getElem?_getD, h, hx]
 simp [he]
theorem sweepT_wf {im : Img} (hW : WfI im) {bd : Bod} (hb : WfB im.classes im.sigs bd) {n : Nat} : ∀ {f i : Nat} {T T' : Tn}, wfT im.classes.length bd.locals.length n T.1 → sweepT im bd f i T = some T' → wfT im.classes.length bd.locals.length n T'.1 := by
 intro f
 induction f with
 | zero => intro i T T' h hs; simp [sweepT] at hs; subst hs; exact h
 | succ f ih =>
  intro i T T' h hs
  simp only [sweepT] at hs
  split at hs
  ·injection hs with hs; subst hs; exact h
  ·split at hs
   ·cases hs
   ·rename_i T1 h1
    exact ih (stepT_wf hW hb h h1) hs
theorem roundsT_wf {im : Img} (hW : WfI im) {bd : Bod} (hb : WfB im.classes im.sigs bd) {n : Nat} : ∀ {f : Nat} {T : Tn} {tb : List St}, wfT im.classes.length bd.locals.length n T.1 → roundsT im bd f T = some tb → wfT im.classes.length bd.locals.length n tb := by
 intro f
 induction f with
 | zero => intro T tb h hs; simp [roundsT] at hs; subst hs; exact h
 | succ f ih =>
  intro T tb h hs
  simp only [roundsT] at hs
  split at hs
  ·injection hs with hs; subst hs; exact h
  ·split at hs
   ·cases hs
   ·rename_i T1 h1
    split at hs
    ·cases hs
    ·exact ih (sweepT_wf hW hb (by exact h) h1) hs
theorem leastT_wf {im : Img} (hW : WfI im) {bd : Bod} (hb : WfB im.classes im.sigs bd) {tb : List St} (h : leastT im bd = some tb) : wfT im.classes.length bd.locals.length bd.code.length tb :=
 roundsT_wf hW hb (startTab_wf hb) h
end Go.Proofs.YtpfkkmacakjmbaaGreatDoor
