import Derived.OrdersHeld
import Derived.Deep.RegionHeld3
import Derived.Deep.AppendLies
/- The reading of an image, as a function of its bytes: what both readers come to. -/
namespace Go.Proofs.YtpfkkmacakjmbaaGreatDoor.Sp
structure Cls where
 par : Int
 fields : List UInt8
structure Sig where
 arg : UInt8
 ret : UInt8
structure Ins where
 op : UInt8
 a : Nat
 b : Nat
 pos : Nat
structure Bod where
 cls : Int
 meth : Int
 locals : List UInt8
 code : List Ins
structure Img where
 classes : List Cls
 sigs : List Sig
 bodies : List Bod
/-- The byte at a place; 0 behind the end. -/
def pk (s : ByteArray) (i : Nat) : UInt8 := if h : i < s.size then s[i] else 0
def isLet (n : Nat) (c : UInt8) : Bool := decide (65 ≤ c.toNat) && decide (c.toNat < 65 + n)
def isDig (n : Nat) (c : UInt8) : Bool := decide (48 ≤ c.toNat) && decide (c.toNat ≤ 57) && decide (c.toNat < 48 + n)
def isTy (n : Nat) (c : UInt8) : Bool := decide (c.toNat = 105) || isLet n c
/-- Up to k further types, then the byte e. -/
def tys (s : ByteArray) (n : Nat) (e : UInt8) : Nat → List UInt8 → Nat → Except Nat (List UInt8 × Nat)
 | 0, t, i => if pk s i = e then .ok (t, i + 1) else .error i
 | k + 1, t, i => if pk s i = e then .ok (t, i + 1) else if isTy n (pk s i) = true then tys s n e k (t ++ [pk s i]) (i + 1) else .error i
def byteP (s : ByteArray) (c : UInt8) (i : Nat) : Except Nat Nat := if pk s i = c then .ok (i + 1) else .error i
def letP (s : ByteArray) (n i : Nat) : Except Nat (Nat × Nat) := if isLet n (pk s i) = true then .ok ((pk s i).toNat - 65, i + 1) else .error i
def digP (s : ByteArray) (n i : Nat) : Except Nat (Nat × Nat) := if isDig n (pk s i) = true then .ok ((pk s i).toNat - 48, i + 1) else .error i
def tyP (s : ByteArray) (n i : Nat) : Except Nat (UInt8 × Nat) := if isTy n (pk s i) = true then .ok (pk s i, i + 1) else .error i
def inh (cs : List Cls) (p : Int) : List UInt8 := if p < 0 then [] else (cs[p.toNat]?.map (·.fields)).getD []
def parP (s : ByteArray) (n i : Nat) : Except Nat (Int × Nat) :=
 if (pk s i).toNat = 45 then .ok (-1, i + 1) else
 match letP s n i with
 | .ok (p, j) => .ok ((p : Int), j)
 | .error j => .error j
def clsP (s : ByteArray) : Nat → List Cls → Nat → Except Nat (List Cls × Nat)
 | 0, cs, i => if (pk s i).toNat = 59 then .ok (cs, i + 1) else .error i
 | k + 1, cs, i => if (pk s i).toNat = 59 then .ok (cs, i + 1) else
  match parP s cs.length i with
  | .error j => .error j
  | .ok (p, j) =>
   match tys s (cs.length + 1) 46 2 [] j with
   | .error l => .error l
   | .ok (own, l) => clsP s k (cs ++ [⟨p, inh cs p ++ own⟩]) l
def sigP (s : ByteArray) (n : Nat) : Nat → List Sig → Nat → Except Nat (List Sig × Nat)
 | 0, gs, i => if (pk s i).toNat = 59 then .ok (gs, i + 1) else .error i
 | k + 1, gs, i => if (pk s i).toNat = 59 then .ok (gs, i + 1) else
  match tyP s n i with
  | .error j => .error j
  | .ok (a, j) =>
   match tyP s n j with
   | .error l => .error l
   | .ok (b, l) =>
    match byteP s 46 l with
    | .error m => .error m
    | .ok m => sigP s n k (gs ++ [⟨a, b⟩]) m
def nFields (cs : List Cls) (a : Nat) : Nat := ((cs[a]?.map (·.fields)).getD []).length
/-- What stands behind the letter c of an instruction, from the place i on. -/
def operP (s : ByteArray) (cs : List Cls) (ns nl : Nat) (c i : Nat) : Except Nat (Nat × Nat × Nat) :=
 if c = 108 ∨ c = 115 then
  match digP s nl i with
  | .ok (b, j) => .ok (0, b, j)
  | .error j => .error j
 else if c = 107 then
  match digP s 10 i with
  | .ok (b, j) => .ok (0, b, j)
  | .error j => .error j
 else if c = 110 ∨ c = 120 then
  match letP s cs.length i with
  | .ok (a, j) => .ok (a, 0, j)
  | .error j => .error j
 else if c = 103 ∨ c = 112 then
  match letP s cs.length i with
  | .error j => .error j
  | .ok (a, j) =>
   match digP s (nFields cs a) j with
   | .ok (b, l) => .ok (a, b, l)
   | .error l => .error l
 else if c = 99 then
  match letP s cs.length i with
  | .error j => .error j
  | .ok (a, j) =>
   match digP s ns j with
   | .ok (b, l) => .ok (a, b, l)
   | .error l => .error l
 else if c = 106 ∨ c = 102 then
  match digP s 10 i with
  | .error j => .error j
  | .ok (a, j) =>
   match digP s 10 j with
   | .ok (b, l) => .ok (0, 10 * a + b, l)
   | .error l => .error l
 else .ok (0, 0, i)
/-- The letters of instructions: krwls+-*/<=enzgpcxdjft. -/
def letters : List Nat := [107, 114, 119, 108, 115, 43, 45, 42, 47, 60, 61, 101, 110, 122, 103, 112, 99, 120, 100, 106, 102, 116]
def insP (s : ByteArray) (cs : List Cls) (ns nl i : Nat) : Except Nat (Ins × Nat) :=
 if letters.contains (pk s i).toNat = true then
  match operP s cs ns nl (pk s i).toNat (i + 1) with
  | .ok (a, b, j) => .ok (⟨pk s i, a, b, i⟩, j)
  | .error j => .error j
 else .error i
/-- Up to k further instructions, then a dot. -/
def codeP (s : ByteArray) (cs : List Cls) (ns nl : Nat) : Nat → List Ins → Nat → Except Nat (List Ins × Nat)
 | 0, is, i => if (pk s i).toNat = 46 ∧ is ≠ [] then .ok (is, i + 1) else .error i
 | k + 1, is, i => if (pk s i).toNat = 46 ∧ is ≠ [] then .ok (is, i + 1) else
  match insP s cs ns nl i with
  | .error j => .error j
  | .ok (x, j) => codeP s cs ns nl k (is ++ [x]) j
def ownB (bs : List Bod) (x m : Int) : Option Nat := bs.findIdx? fun b => b.cls == x && b.meth == m
def argOf (gs : List Sig) (m : Nat) : UInt8 := (gs[m]?.map (·.arg)).getD 0
def bodP (s : ByteArray) (cs : List Cls) (gs : List Sig) : Nat → List Bod → Nat → Except Nat (List Bod × Nat)
 | 0, bs, i => if (pk s i).toNat = 59 then .ok (bs, i + 1) else .error i
 | k + 1, bs, i => if (pk s i).toNat = 59 then .ok (bs, i + 1) else
  match letP s cs.length i with
  | .error j => .error j
  | .ok (x, j) =>
   match digP s gs.length j with
   | .error l => .error l
   | .ok (m, l) =>
    if (ownB bs x m).isSome = true then .error j else
    match tys s cs.length 58 3 [] l with
    | .error p => .error p
    | .ok (t, p) =>
     match codeP s cs gs.length (t.length + 2) 100 [] p with
     | .error q => .error q
     | .ok (is, q) => bodP s cs gs k (bs ++ [⟨x, m, UInt8.ofNat (65 + x) :: argOf gs m :: t, is⟩]) q
/-- The whole image, or the place of the first byte that cannot stand there. -/
def readP (s : ByteArray) : Except Nat Img :=
 match clsP s 4 [] 0 with
 | .error i => .error i
 | .ok (cs, i) =>
  match sigP s cs.length 3 [] i with
  | .error j => .error j
  | .ok (gs, j) =>
   match bodP s cs gs 6 [] j with
   | .error l => .error l
   | .ok (bs, l) =>
    match tys s cs.length 58 3 [] l with
    | .error p => .error p
    | .ok (t, p) =>
     match codeP s cs gs.length t.length 100 [] p with
     | .error q => .error q
     | .ok (is, q) => if q < s.size then .error q else .ok ⟨cs, gs, bs ++ [⟨-1, -1, t, is⟩]⟩
theorem tys_len {s : ByteArray} {n : Nat} {e : UInt8} : ∀ {k : Nat} {t : List UInt8} {i : Nat} {r : List UInt8} {j : Nat}, tys s n e k t i = .ok (r, j) → r.length ≤ k + t.length := by
 intro k
 induction k with
 | zero =>
  intro t i r j h
  unfold tys at h
  split at h
  ·cases h; omega
  ·cases h
 | succ k ih =>
  intro t i r j h
  unfold tys at h
  split at h
  ·cases h; omega
  ·split at h
   ·have := ih h; simp at this; omega
   ·cases h
theorem tys_all {s : ByteArray} {n : Nat} {e : UInt8} : ∀ {k : Nat} {t : List UInt8} {i : Nat} {r : List UInt8} {j : Nat}, (∀ c ∈ t, isTy n c = true) → tys s n e k t i = .ok (r, j) → ∀ c ∈ r, isTy n c = true := by
 intro k
 induction k with
 | zero =>
  intro t i r j ht h
  unfold tys at h
  split at h
  ·cases h; exact ht
  ·cases h
 | succ k ih =>
  intro t i r j ht h
  unfold tys at h
  split at h
  ·cases h; exact ht
  ·split at h
   ·refine ih ?_ h
    intro c hc
    rcases List.mem_append.1 hc with hc | hc
    ·exact ht c hc
    ·simp at hc; subst hc; assumption
   ·cases h
/-- The classes so far are in order. -/
def WfC (cs : List Cls) : Prop := ∀ (j : Nat) (c : Cls), cs[j]? = some c → -1 ≤ c.par ∧ c.par < j ∧ c.fields.length ≤ 2 * (j + 1) ∧ ∀ t ∈ c.fields, isTy (j + 1) t = true
theorem isTy_mono {n m : Nat} {c : UInt8} (h : n ≤ m) (hc : isTy n c = true) : isTy m c = true := by
 simp only [isTy, isLet, Bool.or_eq_true, Bool.and_eq_true, decide_eq_true_eq] at *
 omega
theorem parP_ok {s : ByteArray} {n i : Nat} {p : Int} {j : Nat} (h : parP s n i = .ok (p, j)) : j = i + 1 ∧ ((p = -1 ∧ (pk s i).toNat = 45) ∨ ((pk s i).toNat ≠ 45 ∧ isLet n (pk s i) = true ∧ p = (((pk s i).toNat - 65 : Nat) : Int))) := by
 unfold parP letP at h
 split at h
 ·cases h; exact ⟨rfl, Or.inl ⟨rfl, by assumption⟩⟩
 ·split at h
  ·rename_i hh
   split at hh
   ·cases hh; cases h; exact ⟨rfl, Or.inr ⟨by assumption, by assumption, rfl⟩⟩
   ·cases hh
  ·cases h
theorem inh_some {cs : List Cls} {n : Nat} {c : Cls} (h : cs[n]? = some c) : inh cs (n : Int) = c.fields := by
 unfold inh
 rw [if_neg (by omega), Int.toNat_natCast, h]
 rfl
theorem inh_len {cs : List Cls} (h : WfC cs) (p : Int) : (inh cs p).length ≤ 2 * cs.length := by
 unfold inh
 split
 ·simp
 ·cases hc : cs[p.toNat]? with
  | none => simp
  | some c =>
   have h1 := (List.getElem?_eq_some_iff.1 hc).1
   have h2 := (h _ _ hc).2.2.1
   simp
   omega
theorem wf_snoc {s : ByteArray} {cs : List Cls} {p : Int} {i j l : Nat} {own : List UInt8} (h : WfC cs) (hp : parP s cs.length i = .ok (p, j)) (ho : tys s (cs.length + 1) 46 2 [] j = .ok (own, l)) :
  WfC (cs ++ [⟨p, inh cs p ++ own⟩]) := by
 intro k c hc
 rcases Nat.lt_or_ge k cs.length with hk | hk
 ·rw [List.getElem?_append_left hk] at hc
  exact h k c hc
 ·rw [List.getElem?_append_right hk] at hc
  have hk0 : k - cs.length = 0 := by
   have := (List.getElem?_eq_some_iff.1 hc).1
   simp at this; omega
  have hk1 : k = cs.length := by omega
  rw [hk0] at hc
  simp at hc
  subst hc
  subst hk1
  obtain ⟨_, hp⟩ := parP_ok hp
  have h1 := inh_len h p
  have h2 := tys_len ho
  refine ⟨?_, ?_, ?_, ?_⟩
  ·rcases hp with ⟨rfl, _⟩ | ⟨_, _, rfl⟩ <;> simp <;> omega
  ·rcases hp with ⟨rfl, _⟩ | ⟨_, hl, rfl⟩
   ·simp; omega
   ·simp [isLet] at hl; simp; omega
  ·simp at h1 h2 ⊢; omega
  ·intro t ht
   simp at ht
   rcases ht with ht | ht
   ·unfold inh at ht
    split at ht
    ·simp at ht
    ·cases hc : cs[p.toNat]? with
     | none => simp [hc] at ht
     | some c =>
      simp [hc] at ht
      have h3 := (List.getElem?_eq_some_iff.1 hc).1
      exact isTy_mono (by omega) ((h _ _ hc).2.2.2 t ht)
   ·exact tys_all (by simp) ho t ht
theorem clsP_wf' {s : ByteArray} : ∀ {k : Nat} {cs : List Cls} {i : Nat} {r : List Cls} {j : Nat}, WfC cs → clsP s k cs i = .ok (r, j) → WfC r ∧ r.length ≤ k + cs.length := by
 intro k
 induction k with
 | zero =>
  intro cs i r j hw h
  unfold clsP at h
  split at h
  ·cases h; exact ⟨hw, by omega⟩
  ·cases h
 | succ k ih =>
  intro cs i r j hw h
  unfold clsP at h
  split at h
  ·cases h; exact ⟨hw, by omega⟩
  ·split at h
   ·cases h
   ·rename_i p l hp
    split at h
    ·cases h
    ·rename_i own m ho
     have := ih (wf_snoc hw hp ho) h
     simp at this
     exact ⟨this.1, by omega⟩
theorem clsP_wf {s : ByteArray} {i : Nat} {r : List Cls} {j : Nat} (h : clsP s 4 [] i = .ok (r, j)) : WfC r ∧ r.length ≤ 4 := by
 have := clsP_wf' (fun j c h => by simp at h) h
 simpa using this
theorem sigP_len {s : ByteArray} {n : Nat} : ∀ {k : Nat} {gs : List Sig} {i : Nat} {r : List Sig} {j : Nat}, sigP s n k gs i = .ok (r, j) → r.length ≤ k + gs.length := by
 intro k
 induction k with
 | zero =>
  intro gs i r j h
  unfold sigP at h
  split at h
  ·cases h; omega
  ·cases h
 | succ k ih =>
  intro gs i r j h
  unfold sigP at h
  split at h
  ·cases h; omega
  ·split at h
   ·cases h
   ·split at h
    ·cases h
    ·split at h
     ·cases h
     ·have := ih h; simp at this; omega
def ownI (bs : List Bod) (x m : Int) : Int := match ownB bs x m with
 | some k => k
 | none => -1
def parOf (cs : List Cls) (x : Int) : Int := (cs[x.toNat]?.map (·.par)).getD (-1)
/-- The body that a class has for a method, looked for in at most f classes; -1: none. -/
def findF (cs : List Cls) (bs : List Bod) (m : Int) : Nat → Int → Int
 | 0, _ => -1
 | f + 1, x => if x < 0 then -1 else if 0 ≤ ownI bs x m then ownI bs x m else findF cs bs m f (parOf cs x)
/-- An instruction that goes on at, or calls, what there is not. -/
def broken (cs : List Cls) (bs : List Bod) (n : Nat) (x : Ins) : Bool :=
 (decide (x.op.toNat = 99) && decide (findF cs bs x.b 5 x.a < 0)) || ((decide (x.op.toNat = 106) || decide (x.op.toNat = 102)) && decide (n ≤ x.b))
def unl (cs : List Cls) (bs : List Bod) (c : List Ins) : Option Nat := (c.find? (broken cs bs c.length)).map (·.pos)
def linkP (s : ByteArray) : Except (Nat × Nat) Img :=
 if 2000 < s.size then .error (1, 0) else
 match readP s with
 | .error j => .error (2, j)
 | .ok im =>
  match im.bodies.findSome? (fun b => unl im.classes im.bodies b.code) with
  | some p => .error (3, p)
  | none => .ok im
/-- An instruction's operands are there. -/
structure WfX (cs : List Cls) (ns nl : Nat) (x : Ins) : Prop where
 op : letters.contains x.op.toNat = true
 pos : x.pos ≤ 2000
 cls : x.op.toNat = 110 ∨ x.op.toNat = 120 ∨ x.op.toNat = 103 ∨ x.op.toNat = 112 ∨ x.op.toNat = 99 → x.a < cs.length
 fld : x.op.toNat = 103 ∨ x.op.toNat = 112 → x.b < nFields cs x.a
 sig : x.op.toNat = 99 → x.b < ns
 loc : x.op.toNat = 108 ∨ x.op.toNat = 115 → x.b < nl
 num : x.b < 100
/-- A body's parts are there. -/
structure WfB (cs : List Cls) (gs : List Sig) (b : Bod) : Prop where
 code : ∀ x ∈ b.code, WfX cs gs.length b.locals.length x
 len : 0 < b.code.length ∧ b.code.length ≤ 100
 loc : b.locals.length ≤ 5 ∧ ∀ t ∈ b.locals, isTy cs.length t = true
 cls : (b.cls = -1 ∧ b.meth = -1) ∨ (0 ≤ b.cls ∧ b.cls < cs.length ∧ 0 ≤ b.meth ∧ b.meth < gs.length)
structure WfI (im : Img) : Prop where
 cls : WfC im.classes
 nc : im.classes.length ≤ 4
 ns : im.sigs.length ≤ 3
 sig : ∀ g ∈ im.sigs, isTy im.classes.length g.arg = true ∧ isTy im.classes.length g.ret = true
 bod : ∀ b ∈ im.bodies, WfB im.classes im.sigs b
 nb : im.bodies.length ≤ 7
theorem pk_lt {s : ByteArray} {i : Nat} (h : 0 < (pk s i).toNat) : i < s.size := by
 unfold pk at h
 split at h
 ·assumption
 ·simp at h
theorem digP_spec {s : ByteArray} {n i d j : Nat} (h : digP s n i = .ok (d, j)) : d < n ∧ d < 10 := by
 unfold digP at h
 split at h
 ·rename_i hd
  cases h
  simp [isDig] at hd
  omega
 ·cases h
theorem letP_spec {s : ByteArray} {n i d j : Nat} (h : letP s n i = .ok (d, j)) : d < n := by
 unfold letP at h
 split at h
 ·rename_i hd
  cases h
  simp [isLet] at hd
  omega
 ·cases h
theorem insP_wf {s : ByteArray} {cs : List Cls} {ns nl i : Nat} {x : Ins} {j : Nat} (hs : s.size ≤ 2000) (h : insP s cs ns nl i = .ok (x, j)) : WfX cs ns nl x := by
 unfold insP at h
 split at h
 ·rename_i hl
  split at h
  ·rename_i a b l ho
   cases h
   have hp : i < s.size := pk_lt (by
    rcases Nat.eq_zero_or_pos (pk s i).toNat with h | h
    ·rw [h] at hl; exact absurd hl (by decide)
    ·exact h)
   refine ⟨hl, by simp; omega, ?_, ?_, ?_, ?_, ?_⟩
   all_goals simp only
   all_goals
    unfold operP at ho
    repeat' split at ho
   all_goals first
    | (cases ho; done)
    | skip
   all_goals (intros; first | omega | skip)
   all_goals (cases ho; first | omega | (have := digP_spec ‹_›; omega) | (have := letP_spec ‹_›; omega) | (have h1 := digP_spec ‹digP s 10 (i + 1) = _›; have h2 := digP_spec ‹digP s 10 _ = Except.ok (_, j)›; omega))
  ·cases h
 ·cases h
theorem codeP_wf {s : ByteArray} {cs : List Cls} {ns nl : Nat} (hs : s.size ≤ 2000) : ∀ {k : Nat} {is : List Ins} {i : Nat} {r : List Ins} {j : Nat}, (∀ x ∈ is, WfX cs ns nl x) → codeP s cs ns nl k is i = .ok (r, j) → (∀ x ∈ r, WfX cs ns nl x) ∧ 0 < r.length ∧ r.length ≤ k + is.length := by
 intro k
 induction k with
 | zero =>
  intro is i r j hw h
  unfold codeP at h
  split at h
  ·rename_i hc; cases h; exact ⟨hw, List.length_pos_iff.2 hc.2, by omega⟩
  ·cases h
 | succ k ih =>
  intro is i r j hw h
  unfold codeP at h
  split at h
  ·rename_i hc; cases h; exact ⟨hw, List.length_pos_iff.2 hc.2, by omega⟩
  ·split at h
   ·cases h
   ·rename_i x l hx
    have := ih (fun y hy => by
     rcases List.mem_append.1 hy with hy | hy
     ·exact hw y hy
     ·simp at hy; subst hy; exact insP_wf hs hx) h
    simp at this
    exact ⟨this.1, this.2.1, by omega⟩
theorem sigP_all {s : ByteArray} {n : Nat} : ∀ {k : Nat} {gs : List Sig} {i : Nat} {r : List Sig} {j : Nat}, (∀ g ∈ gs, isTy n g.arg = true ∧ isTy n g.ret = true) → sigP s n k gs i = .ok (r, j) → ∀ g ∈ r, isTy n g.arg = true ∧ isTy n g.ret = true := by
 intro k
 induction k with
 | zero =>
  intro gs i r j hw h
  unfold sigP at h
  split at h
  ·cases h; exact hw
  ·cases h
 | succ k ih =>
  intro gs i r j hw h
  unfold sigP at h
  split at h
  ·cases h; exact hw
  ·split at h
   ·cases h
   ·rename_i a l1 h1
    split at h
    ·cases h
    ·rename_i b l2 h2
     split at h
     ·cases h
     ·refine ih (fun g hg => ?_) h
      rcases List.mem_append.1 hg with hg | hg
      ·exact hw g hg
      ·simp at hg
       subst hg
       unfold tyP at h1 h2
       split at h1 <;> split at h2 <;> first | (cases h1; done) | (cases h2; done) | skip
       cases h1
       cases h2
       exact ⟨by assumption, by assumption⟩
theorem isTy_let {n x : Nat} (hx : x < n) (hn : n ≤ 4) : isTy n (UInt8.ofNat (65 + x)) = true := by
 have : (UInt8.ofNat (65 + x)).toNat = 65 + x := by rw [UInt8.toNat_ofNat']; omega
 unfold isTy isLet
 rw [this]
 simp
 omega
theorem bodP_wf {s : ByteArray} {cs : List Cls} {gs : List Sig} (hs : s.size ≤ 2000) (hn : cs.length ≤ 4) (hg : ∀ g ∈ gs, isTy cs.length g.arg = true ∧ isTy cs.length g.ret = true) : ∀ {k : Nat} {bs : List Bod} {i : Nat} {r : List Bod} {j : Nat}, (∀ b ∈ bs, WfB cs gs b) → bodP s cs gs k bs i = .ok (r, j) → (∀ b ∈ r, WfB cs gs b) ∧ r.length ≤ k + bs.length := by
 intro k
 induction k with
 | zero =>
  intro bs i r j hw h
  unfold bodP at h
  split at h
  ·cases h; exact ⟨hw, by omega⟩
  ·cases h
 | succ k ih =>
  intro bs i r j hw h
  unfold bodP at h
  split at h
  ·cases h; exact ⟨hw, by omega⟩
  ·split at h
   ·cases h
   ·rename_i x l1 h1
    split at h
    ·cases h
    ·rename_i m l2 h2
     split at h
     ·cases h
     ·split at h
      ·cases h
      ·rename_i t l3 h3
       split at h
       ·cases h
       ·rename_i is l4 h4
        have hx := letP_spec h1
        have hm := digP_spec h2
        have ht := tys_len h3
        have ha := tys_all (by simp) h3
        have hc := codeP_wf hs (by simp) h4
        have := ih (fun b hb => by
         rcases List.mem_append.1 hb with hb | hb
         ·exact hw b hb
         ·rw [List.mem_singleton] at hb
          subst hb
          refine ⟨hc.1, ⟨hc.2.1, by simpa using hc.2.2⟩, ⟨by simp at ht ⊢; omega, ?_⟩, Or.inr ⟨by simp, by simp; omega, by simp, by simp; omega⟩⟩
          intro c hcm
          rw [List.mem_cons, List.mem_cons] at hcm
          rcases hcm with rfl | rfl | hcm
          ·exact isTy_let hx hn
          ·unfold argOf
           rw [List.getElem?_eq_getElem (by omega)]
           exact (hg _ (List.getElem_mem _)).1
          ·exact ha c hcm) h
        simp at this
        exact ⟨this.1, by omega⟩
theorem readP_wf {s : ByteArray} {im : Img} (hs : s.size ≤ 2000) (h : readP s = .ok im) : WfI im := by
 unfold readP at h
 split at h
 ·cases h
 ·rename_i cs l1 h1
  split at h
  ·cases h
  ·rename_i gs l2 h2
   split at h
   ·cases h
   ·rename_i bs l3 h3
    split at h
    ·cases h
    ·rename_i t l4 h4
     split at h
     ·cases h
     ·rename_i is l5 h5
      split at h
      ·cases h
      ·cases h
       have hc := clsP_wf h1
       have hsl := sigP_len h2
       have hsa := sigP_all (by simp) h2
       have hb := bodP_wf hs hc.2 hsa (by simp) h3
       have ht := tys_len h4
       have hta := tys_all (by simp) h4
       have hco := codeP_wf hs (by simp) h5
       refine ⟨hc.1, hc.2, by simpa using hsl, hsa, ?_, by simp at hb ⊢; omega⟩
       intro b hbm
       simp at hbm
       rcases hbm with hbm | rfl
       ·exact hb.1 b hbm
       ·exact ⟨hco.1, ⟨hco.2.1, by simpa using hco.2.2⟩, ⟨by simp at ht ⊢; omega, hta⟩, Or.inl ⟨rfl, rfl⟩⟩
end Go.Proofs.YtpfkkmacakjmbaaGreatDoor.Sp
/- A region that draws its order, walked in the order of its text: reads first under a condition S on the world; then the operations that change the world, each the only one that may come up; behind those from number p on S is asked no more. -/
namespace Go.Proofs.YtpfkkmacakjmbaaGreatDoor
open Go
section
variable {P : Program} {ops : Array Oper} {Q : Exit → Act → World → Prop} {S : World → Prop} {p : Nat}
def wpTL (P : Program) (ops : Array Oper) (Q : Exit → Act → World → Prop) (S : World → Prop) (p : Nat) : Nat → Array Bool → Act → World → Prop
 | 0, listed, a, w => Region.ready .any ops listed = [] ∧ Q .normal a w
 | fuel + 1, listed, a, w =>
  (Region.ready .any ops listed = [] → Q .normal a w) ∧
  ∀ i ∈ Region.ready .any ops listed, wpOp P ops Q i (fun a' w' => (i < p → S w') ∧ wpTL P ops Q S p fuel (listed.setIfInBounds i true) a' w') a w
theorem wpAny_of_TL : ∀ (fuel : Nat) (listed : Array Bool) (a : Act) (w : World), wpTL P ops Q S p fuel listed a w → wpAny P .any ops Q fuel listed a w
 | 0, _, _, _, h => h
 | fuel + 1, _, _, _, h => ⟨h.1, fun i hi => wpOp_mono (fun a' w' h' => wpAny_of_TL fuel _ a' w' h'.2) (h.2 i hi)⟩
theorem wpTL_first {i : Nat} {oi : Oper} {v : Value} (hi : ops[i]? = some oi) (hip : i < p) (hsel : ∀ (j : Nat) (o : Oper) cs b, ops[j]? = some o → o.op ≠ .select cs b)
  (hwait : ∀ j oj, ops[j]? = some oj → p ≤ j → ∃ e ∈ oj.after, Region.binds .any e = true ∧ e.on = i)
  (hQ : ∀ c a w, Q (.panic c) (a.put oi.dst v) w → Q (.panic c) a w) :
  ∀ (fuel : Nat) (listed : Array Bool) (a : Act) (w : World),
   (∀ j oj, ops[j]? = some oj → j ≠ i → listed.getD j true = false → (∀ e ∈ oj.after, Region.binds .any e = true → e.on ≠ i) → oi.apart ops oj = true) →
   i ∈ Region.ready .any ops listed → YieldsIf P ops S oi v a → S w →
   wpTL P ops Q S p fuel (listed.setIfInBounds i true) (a.put oi.dst v) w → wpTL P ops Q S p (fuel + 1) listed a w := by
 intro fuel
 induction fuel with
 | zero =>
  intro listed a w _ hr hy hS H
  refine ⟨fun h => (by rw [h] at hr; cases hr), fun j hj => ?_⟩
  by_cases hji : j = i
  ·subst hji; exact hy.wpOp hi hS ⟨fun _ => hS, H⟩
  ·have := ready_mono hj hji
   rw [H.1] at this
   cases this
 | succ fuel ih =>
  intro listed a w hfree hr hy hS H
  refine ⟨fun h => (by rw [h] at hr; cases hr), fun j hj => ?_⟩
  by_cases hji : j = i
  ·subst hji; exact hy.wpOp hi hS ⟨fun _ => hS, H⟩
  ·have h1 := H.2 j (ready_mono hj hji)
   obtain ⟨hjun, oj, hoj, hall⟩ := mem_ready.1 hj
   have hnot : ∀ e ∈ oj.after, Region.binds .any e = true → e.on ≠ i := fun e he hb heq => by
    have h1 := hall e he hb
    have h0 := (mem_ready.1 hr).1
    rw [heq] at h1
    rcases Nat.lt_or_ge i listed.size with h' | h'
    ·simp [h'] at h0 h1; rw [h0] at h1; cases h1
    ·simp [Array.getElem?_eq_none h'] at h1
   have hjp : j < p := by
    rcases Nat.lt_or_ge j p with h | h
    ·exact h
    ·obtain ⟨e, he, hb, ho⟩ := hwait j oj hoj h
     exact absurd ho (hnot e he hb)
   have h2 := wpOp_putIf hoj (hfree j oj hoj hji hjun hnot) (fun cs b => hsel i oi cs b hi) (fun cs b => hsel j oj cs b hoj) hQ hy h1
   have hfree' : ∀ k ok, ops[k]? = some ok → k ≠ i → (listed.setIfInBounds j true).getD k true = false →
     (∀ e ∈ ok.after, Region.binds .any e = true → e.on ≠ i) → oi.apart ops ok = true := fun k ok hk hki hun hno => by
    refine hfree k ok hk hki ?_ hno
    by_cases hjk : j = k
    ·subst hjk; exact hjun
    ·rw [getD_set_ne true hjk] at hun; exact hun
   refine wpOp_mono (fun a' w' h3 => ⟨h3.2.1, ih (listed.setIfInBounds j true) a' w' hfree' (ready_mono hr (Ne.symm hji)) h3.1 (h3.2.1 hjp) ?_⟩) h2
   rw [Array.setIfInBounds_comm _ _ hji]
   exact h3.2.2
/-- The operations up to number k have come up. -/
def upTo (n k : Nat) : Array Bool := ((List.range n).map fun i => decide (i < k)).toArray
theorem upTo_set (n k : Nat) : (upTo n k).setIfInBounds k true = upTo n (k + 1) := by
 unfold upTo
 apply Array.ext
 ·simp
 ·intro i h1 h2
  by_cases h : k = i
  ·subst h; simp
  ·rw [Array.getElem_setIfInBounds_ne (by simpa using h1) h]
   simp
   omega
theorem upTo_zero (n : Nat) : Array.replicate n false = upTo n 0 := by
 unfold upTo
 apply Array.ext
 ·simp
 ·intro i h1 h2; simp
/-- Whether number k may be taken first where those ahead of it have come up; all from p on wait for it. -/
def takeOk (ops : Array Oper) (p k : Nat) : Bool :=
 decide (k < p) && Region.noSelect ops && Region.free .any ops (upTo ops.size k) k && (Region.ready .any ops (upTo ops.size k)).contains k &&
 (List.range ops.size).all fun j => decide (j < p) || match ops[j]? with
  | some oj => oj.after.any fun e => Region.binds .any e && e.on == k
  | none => true
/-- The walk, number k next. -/
def wpTx (P : Program) (ops : Array Oper) (Q : Exit → Act → World → Prop) (S : World → Prop) (p k : Nat) (a : Act) (w : World) : Prop :=
 wpTL P ops Q S p (ops.size - k) (upTo ops.size k) a w
theorem wpTx_begin {id : Nat} {a : Act} {w : World} (S : World → Prop) (p : Nat) (hm : P.follows .mixedOrders = true) (h : wpTx P ops Q S p 0 a w.drew) : (Code.region id ops true).wp P Q a w := by
 refine wp_region_any hm (wpAny_of_TL (S := S) (p := p) _ _ _ _ ?_)
 rw [upTo_zero]
 exact h
theorem puts : (∀ (l : List Value) (i : Nat) (v : Value), l.toArray.setIfInBounds i v = (l.set i v).toArray) ∧ (∀ (x : Value) (l : List Value) (v : Value), (x :: l).set 0 v = v :: l) ∧
  (∀ (x : Value) (l : List Value) (n : Nat) (v : Value), (x :: l).set (n + 1) v = x :: l.set n v) := ⟨fun _ _ _ => by simp, fun _ _ _ => rfl, fun _ _ _ _ => rfl⟩
theorem at_of_drop {ops : Array Oper} {k : Nat} {o : Oper} {rest : List Oper} (h : ops.toList.drop k = o :: rest) : ops[k]? = some o := by
 have h1 : (ops.toList.drop k)[0]? = some o := by rw [h]; rfl
 rw [List.getElem?_drop, Nat.add_zero] at h1
 simpa using h1
theorem wpTx_take {k : Nat} {o : Oper} {rest : List Oper} {v : Value} {a : Act} {w : World} (hod : ops.toList.drop k = o :: rest) (hc : takeOk ops p k = true)
  (hQ : ∀ c a w, Q (.panic c) (a.put o.dst v) w → Q (.panic c) a w)
  (hw : Region.wanted o (yielded ops a.tmps) = true) (hS : S w) (hy : ∀ w, S w → (execOp a.eval o).run P w = .ok (.value v) w) (h : wpTx P ops Q S p (k + 1) (a.put o.dst v) w) : wpTx P ops Q S p k a w := by
 have ho := at_of_drop hod
 unfold takeOk at hc
 simp only [Bool.and_eq_true, decide_eq_true_eq, List.all_eq_true, List.mem_range] at hc
 obtain ⟨⟨⟨⟨hkp, hns⟩, hfr⟩, hrd⟩, hwt⟩ := hc
 have hk : k < ops.size := (Array.getElem?_eq_some_iff.1 ho).1
 unfold wpTx at *
 rw [show ops.size - k = (ops.size - (k + 1)) + 1 from by omega]
 refine wpTL_first ho hkp (Region.noSelect_spec hns) ?_ hQ _ _ a w (Region.free_spec ho hfr) (by simpa using hrd) (Or.inl ⟨hw, hy⟩) hS (by rw [upTo_set]; exact h)
 intro j oj hj hpj
 have hjs : j < ops.size := (Array.getElem?_eq_some_iff.1 hj).1
 have := hwt j hjs
 rw [hj] at this
 simp only [Bool.or_eq_true, decide_eq_true_eq, Array.any_eq_true, Bool.and_eq_true, beq_iff_eq] at this
 rcases this with h1 | ⟨i, hi, h1, h2⟩
 ·omega
 ·exact ⟨oj.after[i], Array.getElem_mem hi, h1, h2⟩
theorem wpTx_step {k : Nat} {o : Oper} {rest : List Oper} {a : Act} {w : World} (hod : ops.toList.drop k = o :: rest) (hr : Region.ready .any ops (upTo ops.size k) = [k])
  (h : ∀ K' : Act → World → Prop, Go.Shut (∀ a w, (k < p → S w) → wpTx P ops Q S p (k + 1) a w → K' a w) → if Region.wanted o (yielded ops a.tmps) = true then Oper.wp P o a w K' Q else K' (a.put o.dst undef) w) : wpTx P ops Q S p k a w := by
 have ho := at_of_drop hod
 have hk : k < ops.size := (Array.getElem?_eq_some_iff.1 ho).1
 unfold wpTx
 rw [show ops.size - k = (ops.size - (k + 1)) + 1 from by omega]
 refine ⟨fun h => (by rw [hr] at h; cases h), fun i hi => ?_⟩
 rw [hr] at hi
 simp at hi
 subst hi
 exact wpOp_step ho (fun K' hK => h K' (fun a w hS hW => hK a w ⟨hS, by rw [upTo_set]; exact hW⟩))
theorem wpTx_done {k : Nat} {a : Act} {w : World} (hk : k = ops.size) (hr : Region.ready .any ops (upTo ops.size k) = []) (h : Q .normal a w) : wpTx P ops Q S p k a w := by
 subst hk
 unfold wpTx
 rw [Nat.sub_self]
 exact ⟨hr, h⟩
end
end Go.Proofs.YtpfkkmacakjmbaaGreatDoor
/- A region that draws its order, walked in an order of our choice. -/
namespace Go.Proofs.YtpfkkmacakjmbaaGreatDoor
open Go
section
variable {P : Program} {ops : Array Oper} {Q : Exit → Act → World → Prop} {S : World → Prop} {p : Nat}
/-- The operations of L have come up. -/
def has (n : Nat) (L : List Nat) : Array Bool := ((List.range n).map fun i => L.contains i).toArray
theorem has_set (n k : Nat) (L : List Nat) : (has n L).setIfInBounds k true = has n (k :: L) := by
 unfold has
 apply Array.ext
 ·simp
 ·intro i h1 h2
  by_cases h : k = i
  ·subst h; simp
  ·rw [Array.getElem_setIfInBounds_ne (by simpa using h1) h]
   have h' : ¬ i = k := fun e => h e.symm
   simp [h']
theorem has_nil (n : Nat) : Array.replicate n false = has n [] := by
 unfold has
 apply Array.ext
 ·simp
 ·intro i h1 h2; simp
def takeOkL (ops : Array Oper) (p : Nat) (L : List Nat) (k : Nat) : Bool :=
 decide (k < p) && Region.noSelect ops && Region.free .any ops (has ops.size L) k && (Region.ready .any ops (has ops.size L)).contains k &&
 (List.range ops.size).all fun j => decide (j < p) || match ops[j]? with
  | some oj => oj.after.any fun e => Region.binds .any e && e.on == k
  | none => true
def wpP (P : Program) (ops : Array Oper) (Q : Exit → Act → World → Prop) (S : World → Prop) (p : Nat) (L : List Nat) (a : Act) (w : World) : Prop :=
 wpTL P ops Q S p (ops.size - L.length) (has ops.size L) a w
theorem wpP_begin {id : Nat} {a : Act} {w : World} (S : World → Prop) (p : Nat) (hm : P.follows .mixedOrders = true) (h : wpP P ops Q S p [] a w.drew) : (Code.region id ops true).wp P Q a w := by
 refine wp_region_any hm (wpAny_of_TL (S := S) (p := p) _ _ _ _ ?_)
 rw [has_nil]
 exact h
theorem wpP_take {k : Nat} {L : List Nat} {o : Oper} {v : Value} {a : Act} {w : World} (ho : ops[k]? = some o) (hl : L.length < ops.size) (hc : takeOkL ops p L k = true)
  (hQ : ∀ c a w, Q (.panic c) (a.put o.dst v) w → Q (.panic c) a w)
  (hw : Region.wanted o (yielded ops a.tmps) = true) (hS : S w) (hy : ∀ w, S w → (execOp a.eval o).run P w = .ok (.value v) w) (h : wpP P ops Q S p (k :: L) (a.put o.dst v) w) : wpP P ops Q S p L a w := by
 unfold takeOkL at hc
 simp only [Bool.and_eq_true, decide_eq_true_eq, List.all_eq_true, List.mem_range] at hc
 obtain ⟨⟨⟨⟨hkp, hns⟩, hfr⟩, hrd⟩, hwt⟩ := hc
 unfold wpP at *
 rw [show ops.size - L.length = (ops.size - (k :: L).length) + 1 from by simp; omega]
 refine wpTL_first ho hkp (Region.noSelect_spec hns) ?_ hQ _ _ a w (Region.free_spec ho hfr) (by simpa using hrd) (Or.inl ⟨hw, hy⟩) hS (by rw [has_set]; exact h)
 intro j oj hj hpj
 have hjs : j < ops.size := (Array.getElem?_eq_some_iff.1 hj).1
 have := hwt j hjs
 rw [hj] at this
 simp only [Bool.or_eq_true, decide_eq_true_eq, Array.any_eq_true, Bool.and_eq_true, beq_iff_eq] at this
 rcases this with h1 | ⟨i, hi, h1, h2⟩
 ·omega
 ·exact ⟨oj.after[i], Array.getElem_mem hi, h1, h2⟩
theorem wpP_step {k : Nat} {L : List Nat} {o : Oper} {a : Act} {w : World} (ho : ops[k]? = some o) (hl : L.length < ops.size) (hr : Region.ready .any ops (has ops.size L) = [k])
  (h : ∀ K' : Act → World → Prop, Go.Shut (∀ a w, (k < p → S w) → wpP P ops Q S p (k :: L) a w → K' a w) → if Region.wanted o (yielded ops a.tmps) = true then Oper.wp P o a w K' Q else K' (a.put o.dst undef) w) : wpP P ops Q S p L a w := by
 unfold wpP
 rw [show ops.size - L.length = (ops.size - (k :: L).length) + 1 from by simp; omega]
 refine ⟨fun h => (by rw [hr] at h; cases h), fun i hi => ?_⟩
 rw [hr] at hi
 simp at hi
 subst hi
 exact wpOp_step ho (fun K' hK => h K' (fun a w hS hW => hK a w ⟨hS, by rw [has_set]; exact hW⟩))
theorem wpP_two {k1 k2 : Nat} {L : List Nat} {o1 o2 : Oper} {a : Act} {w : World} (ho1 : ops[k1]? = some o1) (ho2 : ops[k2]? = some o2) (hl : L.length < ops.size) (hr : Region.ready .any ops (has ops.size L) = [k1, k2])
  (h1 : ∀ K' : Act → World → Prop, Go.Shut (∀ a w, (k1 < p → S w) → wpP P ops Q S p (k1 :: L) a w → K' a w) → if Region.wanted o1 (yielded ops a.tmps) = true then Oper.wp P o1 a w K' Q else K' (a.put o1.dst undef) w)
  (h2 : ∀ K' : Act → World → Prop, Go.Shut (∀ a w, (k2 < p → S w) → wpP P ops Q S p (k2 :: L) a w → K' a w) → if Region.wanted o2 (yielded ops a.tmps) = true then Oper.wp P o2 a w K' Q else K' (a.put o2.dst undef) w) : wpP P ops Q S p L a w := by
 unfold wpP
 rw [show ops.size - L.length = (ops.size - (L.length + 1)) + 1 from by omega]
 refine ⟨fun h => (by rw [hr] at h; cases h), fun i hi => ?_⟩
 rw [hr] at hi
 simp only [List.mem_cons, List.not_mem_nil, or_false] at hi
 rcases hi with rfl | rfl
 ·exact wpOp_step ho1 (fun K' hK => h1 K' (fun a w hS hW => hK a w ⟨hS, by rw [has_set]; exact hW⟩))
 ·exact wpOp_step ho2 (fun K' hK => h2 K' (fun a w hS hW => hK a w ⟨hS, by rw [has_set]; exact hW⟩))
theorem wpP_three {k1 k2 k3 : Nat} {L : List Nat} {o1 o2 o3 : Oper} {a : Act} {w : World} (ho1 : ops[k1]? = some o1) (ho2 : ops[k2]? = some o2) (ho3 : ops[k3]? = some o3) (hl : L.length < ops.size) (hr : Region.ready .any ops (has ops.size L) = [k1, k2, k3])
  (h1 : ∀ K' : Act → World → Prop, Go.Shut (∀ a w, (k1 < p → S w) → wpP P ops Q S p (k1 :: L) a w → K' a w) → if Region.wanted o1 (yielded ops a.tmps) = true then Oper.wp P o1 a w K' Q else K' (a.put o1.dst undef) w)
  (h2 : ∀ K' : Act → World → Prop, Go.Shut (∀ a w, (k2 < p → S w) → wpP P ops Q S p (k2 :: L) a w → K' a w) → if Region.wanted o2 (yielded ops a.tmps) = true then Oper.wp P o2 a w K' Q else K' (a.put o2.dst undef) w)
  (h3 : ∀ K' : Act → World → Prop, Go.Shut (∀ a w, (k3 < p → S w) → wpP P ops Q S p (k3 :: L) a w → K' a w) → if Region.wanted o3 (yielded ops a.tmps) = true then Oper.wp P o3 a w K' Q else K' (a.put o3.dst undef) w) : wpP P ops Q S p L a w := by
 unfold wpP
 rw [show ops.size - L.length = (ops.size - (L.length + 1)) + 1 from by omega]
 refine ⟨fun h => (by rw [hr] at h; cases h), fun i hi => ?_⟩
 rw [hr] at hi
 simp only [List.mem_cons, List.not_mem_nil, or_false] at hi
 rcases hi with rfl | rfl | rfl
 ·exact wpOp_step ho1 (fun K' hK => h1 K' (fun a w hS hW => hK a w ⟨hS, by rw [has_set]; exact hW⟩))
 ·exact wpOp_step ho2 (fun K' hK => h2 K' (fun a w hS hW => hK a w ⟨hS, by rw [has_set]; exact hW⟩))
 ·exact wpOp_step ho3 (fun K' hK => h3 K' (fun a w hS hW => hK a w ⟨hS, by rw [has_set]; exact hW⟩))
theorem wpP_done {L : List Nat} {a : Act} {w : World} (hl : L.length = ops.size) (hr : Region.ready .any ops (has ops.size L) = []) (h : Q .normal a w) : wpP P ops Q S p L a w := by
 unfold wpP
 rw [hl, Nat.sub_self]
 exact ⟨hr, h⟩
end
end Go.Proofs.YtpfkkmacakjmbaaGreatDoor
