import Derived.Test.YtpfkkmacakjmbaaGreatDoorP00
set_option maxRecDepth 100000
set_option maxHeartbeats 6400000
namespace Go.Proofs.YtpfkkmacakjmbaaGreatDoor
open Go Go.RowKit Sp
set_option linter.unusedSimpArgs false
set_option linter.unusedVariables false
attribute [local go_sem ↓] Go.wp_at_zero Go.wp_at_succ
theorem num_any (e : Int) (w : World) :
  Calls Tryz.prog 21 #[.int .i64 e] w fun en w' => en = .returned (.int .i64 e) ∧ w' = w := by
 go_enter Tryz.func21, Tryz.ntmps21
 go_wp2_with fail
 all_goals go_ret
 all_goals exact ⟨rfl, rfl⟩
structure OpAt (w : World) (b o : Nat) (kd : Int) (s : ByteArray) : Prop where
 rest : ∃ (x y z : Int) (t u : ByteArray), w.cell? ⟨b, o, none⟩ = some (.int .i64 kd) ∧ w.cell? ⟨b, o + 1, none⟩ = some (.int .i64 x) ∧ w.cell? ⟨b, o + 2, none⟩ = some (.int .i64 y) ∧ w.cell? ⟨b, o + 3, none⟩ = some (.int .i64 z) ∧
  w.cell? ⟨b, o + 4, none⟩ = some (.string s) ∧ w.cell? ⟨b, o + 5, none⟩ = some (.string t) ∧ w.cell? ⟨b, o + 6, none⟩ = some (.string u)
 short : s.size ≤ maxLen
def OpsAt (w : World) (ao : Option Addr) (n : Nat) : Prop :=
 n ≤ maxLen ∧ (0 < n → ∃ b o, ao = some ⟨b, o, none⟩ ∧ b < w.heap.size ∧ ∀ k, k < n → ∃ kd s, OpAt w b (o + k * 7) kd s)
theorem upto_kindI (I : World → Prop) (hI : ∀ w w', I w → But (fun _ => False) w w' → I w') (K : Int) (hP : ∀ (x y z : Int) (s t u : ByteArray) (w : World), I w → s.size ≤ maxLen → Calls Tryz.prog 27 #[.agg #[.int .i64 K, .int .i64 x, .int .i64 y, .int .i64 z, .string s, .string t, .string u]] w fun en w' => en = .returned (.bool true) ∧ But (fun _ => False) w w') (ao : Option Addr) (n cap : Nat) (w : World) (hw : I w) (hO : OpsAt w ao n) :
  Calls Tryz.prog 15 #[.slice ao n cap, .int .i64 K, .int .i64 K] w fun en w' => en = .returned (.int .i64 (-1)) ∧ But (fun _ => False) w w' := by
 have HP := hid (fun x y z s t u w1 (hB : But (fun _ => False) w w1) => hP x y z s t u w1 (hI w w1 hw hB))
 clear hP hI hw
 go_enter Tryz.func15, Tryz.ntmps15
 go_wp2_with fail
 have hn : n ≤ 9223372036854775807 := hO.1
 go_loopg [7] n (fun mm is wr => ∃ (k : Nat), is = .int .i64 k ∧ k ≤ n ∧ k + mm ≤ n ∧ n ≤ k + mm ∧ But (fun _ => False) w wr)
 case atStart => exact ⟨0, rfl, by omega, by omega, by omega, But.refl _ _⟩
 case round =>
  obtain ⟨k, rfl, hk1, hk2, hk3, hBr⟩ := hrel
  clear hk2
  by_cases hlt : k < n
  ·have hkn : (k : Int) < (n : Int) := by omega
   obtain ⟨b, o, rfl, hb, hA⟩ := hO.2 (by omega)
   obtain ⟨kd, s, ⟨x, y, z, t, u, q0, q1, q2, q3, q4, q5, q6⟩, hs⟩ := hA k hlt
   have hbr : b < wr.heap.size := Nat.lt_of_lt_of_le hb hBr.size
   rw [← hBr.cell (p := ⟨b, _, none⟩) hb (fun h => h)] at q0 q1 q2 q3 q4 q5 q6
   clear hA
   have hwr : IntKind.i64.wrap ((k : Int) + 1) = (k : Int) + 1 := (IntWalk.i64_left _).trans (IntWalk.wrap64_in _ ⟨by omega, by omega⟩)
   by_cases hmx : (k : Int) < 1152921504606846976
   ·rcases Int.lt_trichotomy kd K with h1 | h1 | h1
    ·have hB2 := hBr.trans (But.alloc _ wr (.cells #[.int .i64 kd, .int .i64 x, .int .i64 y, .int .i64 z, .string s, .string t, .string u] 27))
     have g1 : decide (K ≤ kd) = false := decide_eq_false (by omega)
     clear hO hlt hn h1 hb
     go_wp2_with fail
     go_roundg (n - (k + 1))
     case measure => omega
     case rel => exact ⟨k + 1, by simp, by omega, by omega, by omega, hB2⟩
    ·subst h1
     have g1 : decide (kd ≤ kd) = true := decide_eq_true (by omega)
     go_wp2_with fail
     refine (HP.out x y z s t u _ (hBr.trans (But.alloc _ _ _)) hs).mono ?_
     rintro en w1 ⟨rfl, hB1⟩
     have hB2 := hBr.trans ((But.alloc _ _ _).trans hB1)
     clear hB1
     go_wp2_with fail
     go_roundg (n - (k + 1))
     case measure => omega
     case rel => exact ⟨k + 1, by simp, by omega, by omega, by omega, hB2⟩
    ·have hB2 := hBr.trans (But.alloc _ wr (.cells #[.int .i64 kd, .int .i64 x, .int .i64 y, .int .i64 z, .string s, .string t, .string u] 27))
     have g1 : decide (K ≤ kd) = true := decide_eq_true (by omega)
     have g2 : decide (kd ≤ K) = false := decide_eq_false (by omega)
     clear hO hlt hn h1 hb
     go_wp2_with fail
     go_roundg (n - (k + 1))
     case measure => omega
     case rel => exact ⟨k + 1, by simp, by omega, by omega, by omega, hB2⟩
   ·go_wp2_with fail
    exact bodyPost_ret (v := .int .i64 (-1)) (by simp [results, Tryz.results15, go_sem]) rfl ⟨rfl, hBr⟩
  ·have hkn : ¬ (k : Int) < (n : Int) := by omega
   go_wp2_with fail
   exact bodyPost_ret (v := .int .i64 (-1)) (by simp [results, Tryz.results15, go_sem]) rfl ⟨rfl, hBr⟩
theorem upto_kind (K : Int) (hP : ∀ (x y z : Int) (s t u : ByteArray) (w : World), s.size ≤ maxLen → Calls Tryz.prog 27 #[.agg #[.int .i64 K, .int .i64 x, .int .i64 y, .int .i64 z, .string s, .string t, .string u]] w fun en w' => en = .returned (.bool true) ∧ But (fun _ => False) w w') (ao : Option Addr) (n cap : Nat) (w : World) (hO : OpsAt w ao n) :
  Calls Tryz.prog 15 #[.slice ao n cap, .int .i64 K, .int .i64 K] w fun en w' => en = .returned (.int .i64 (-1)) ∧ But (fun _ => False) w w' :=
 upto_kindI (fun _ => True) (fun _ _ _ _ => trivial) K (fun x y z s t u w _ h => hP x y z s t u w h) ao n cap w trivial hO
end Go.Proofs.YtpfkkmacakjmbaaGreatDoor
namespace Go.Proofs.YtpfkkmacakjmbaaGreatDoor.Sp
def under (cs : List Cls) : Nat → Int → Int → Bool
 | 0, _, _ => false
 | f + 1, x, y => if x < 0 then false else if x = y then true else under cs f (parOf cs x) y
def isC (c : UInt8) : Bool := decide (65 ≤ c.toNat) && decide (c.toNat ≤ 68)
def subT (cs : List Cls) (a b : UInt8) : Bool :=
 if a.toNat = b.toNat ∨ b.toNat = 45 then true else
 if isC b = false then false else
 if a.toNat = 122 then true else
 if isC a = false then false else under cs 5 ((a.toNat : Int) - 65) ((b.toNat : Int) - 65)
def joinF (cs : List Cls) (y : Int) : Nat → Int → UInt8
 | 0, _ => 45
 | f + 1, p => if p < 0 then 45 else if under cs 5 y p = true then UInt8.ofNat (65 + p.toNat) else joinF cs y f (parOf cs p)
def joinT (cs : List Cls) (a b : UInt8) : UInt8 :=
 if subT cs a b = true then b else
 if subT cs b a = true then a else
 if isC a = false ∨ isC b = false then 45 else
 joinF cs ((b.toNat : Int) - 65) 5 (parOf cs ((a.toNat : Int) - 65))
def okT (n : Nat) (c : UInt8) : Bool := isTy n c || decide (c.toNat = 122) || decide (c.toNat = 45)
theorem okT_iff {n : Nat} {c : UInt8} : okT n c = true ↔ c.toNat = 105 ∨ (65 ≤ c.toNat ∧ c.toNat < 65 + n) ∨ c.toNat = 122 ∨ c.toNat = 45 := by
 simp [okT, isTy, isLet, or_assoc]
theorem isC_iff {c : UInt8} : isC c = true ↔ 65 ≤ c.toNat ∧ c.toNat ≤ 68 := by simp [isC]
def isR (c : UInt8) : Bool := decide (c.toNat = 122) || isC c
def fitsT (cs : List Cls) (stack want : List UInt8) : Bool :=
 decide (want.length ≤ stack.length) && (List.range want.length).all fun i => subT cs (stack.getD (stack.length - want.length + i) 0) (want.getD i 0)
def fieldT (cs : List Cls) (a k : Nat) : UInt8 := ((cs[a]?.map (·.fields)).getD []).getD k 0
def clsT (a : Nat) : UInt8 := UInt8.ofNat (65 + a)
def argT (gs : List Sig) (k : Nat) : UInt8 := (gs[k]?.map (·.arg)).getD 0
def retT (gs : List Sig) (k : Nat) : UInt8 := (gs[k]?.map (·.ret)).getD 0
def arith (c : Nat) : Bool := [43, 45, 42, 47, 60, 61].contains c
theorem fitsT_false {cs : List Cls} {st wa : List UInt8} (h : st.length < wa.length) : fitsT cs st wa = false := by
 unfold fitsT
 rw [Bool.and_eq_false_iff]
 left; simp; omega
theorem fitsT_no {cs : List Cls} {st wa : List UInt8} {k : Nat} (hk : k < wa.length) (h : subT cs (st.getD (st.length - wa.length + k) 0) (wa.getD k 0) = false) : fitsT cs st wa = false := by
 unfold fitsT
 rw [Bool.and_eq_false_iff]
 right
 rw [List.all_eq_false]
 exact ⟨k, by simpa using hk, by rw [h]; decide⟩
theorem fitsT_yes {cs : List Cls} {st wa : List UInt8} (hl : wa.length ≤ st.length) (h : ∀ k, k < wa.length → subT cs (st.getD (st.length - wa.length + k) 0) (wa.getD k 0) = true) : fitsT cs st wa = true := by
 unfold fitsT
 rw [Bool.and_eq_true]
 refine ⟨by simpa using hl, ?_⟩
 rw [List.all_eq_true]
 intro k hk
 exact h k (by simpa using hk)
theorem parOf_range {cs : List Cls} (hw : WfC cs) {x : Int} (hx : x < cs.length) (h0 : 0 ≤ x) : -1 ≤ parOf cs x ∧ parOf cs x < cs.length := by
 unfold parOf
 obtain ⟨n, rfl⟩ := Int.eq_ofNat_of_zero_le h0
 have hn : n < cs.length := by omega
 rw [Int.toNat_natCast, List.getElem?_eq_getElem hn]
 have := hw n _ (List.getElem?_eq_getElem hn)
 simp
 omega
theorem joinF_range {cs : List Cls} {y : Int} (hn : cs.length ≤ 4) (hw : WfC cs) : ∀ {f : Nat} {p : Int}, -1 ≤ p → p < cs.length → okT cs.length (joinF cs y f p) = true := by
 intro f
 induction f with
 | zero => intro p _ _; simp [joinF, okT]
 | succ f ih =>
  intro p h1 h2
  unfold joinF
  split
  ·simp [okT]
  ·split
   ·rw [okT_iff]
    right; left
    rw [UInt8.toNat_ofNat']
    omega
   ·have := parOf_range hw h2 (by omega)
    exact ih this.1 this.2
theorem joinT_ok {cs : List Cls} {a b : UInt8} (hn : cs.length ≤ 4) (hw : WfC cs) (ha : okT cs.length a = true) (hb : okT cs.length b = true) : okT cs.length (joinT cs a b) = true := by
 unfold joinT
 split
 ·exact hb
 ·split
  ·exact ha
  ·split
   ·simp [okT]
   ·rename_i h
    have ha' := okT_iff.1 ha
    have hca : isC a = true := by cases h' : isC a with
     | true => rfl
     | false => exact absurd (Or.inl h') h
    have := isC_iff.1 hca
    have hr := parOf_range hw (x := (a.toNat : Int) - 65) (by omega) (by omega)
    exact joinF_range hn hw hr.1 hr.2
def nodeLetters : List Nat := [48, 49, 50, 51, 52, 53, 54, 55, 56, 57, 114, 119, 108, 115, 43, 45, 42, 47, 60, 61, 101, 110, 122, 103, 112, 99, 120, 44, 105, 111]
def isDigit (c : UInt8) : Bool := decide (48 ≤ c.toNat) && decide (c.toNat ≤ 57)
def arity (c : UInt8) : Nat :=
 if c.toNat = 105 then 3
 else if [43, 45, 42, 47, 60, 61, 101, 112, 99, 44, 111].contains c.toNat = true then 2
 else if [115, 103, 120, 119].contains c.toNat = true then 1
 else 0
def nodP (s : ByteArray) (cs : List Cls) (ns nl i : Nat) : Except Nat (Ins × Nat) :=
 if nodeLetters.contains (pk s i).toNat = true then
  match operP s cs ns nl (pk s i).toNat (i + 1) with
  | .ok (a, b, j) => .ok (⟨pk s i, a, if isDigit (pk s i) = true then (pk s i).toNat - 48 else b, i⟩, j)
  | .error j => .error j
 else .error i
def nodesP (s : ByteArray) (cs : List Cls) (ns nl : Nat) : Nat → List Ins → Nat → Nat → Except Nat (List Ins × Nat)
 | _, t, 0, i => .ok (t, i)
 | 0, _, _ + 1, i => .error i
 | k + 1, t, m + 1, i =>
  match nodP s cs ns nl i with
  | .error j => .error j
  | .ok (x, j) => nodesP s cs ns nl k (t ++ [x]) (m + arity x.op) j
theorem nodesP_zero {s : ByteArray} {cs : List Cls} {ns nl k : Nat} {t : List Ins} {i : Nat} : nodesP s cs ns nl k t 0 i = .ok (t, i) := by cases k <;> rfl
theorem nodesP_len {s : ByteArray} {cs : List Cls} {ns nl : Nat} : ∀ {k : Nat} {t : List Ins} {m i : Nat} {r : List Ins} {j : Nat}, nodesP s cs ns nl k t m i = .ok (r, j) → t.length ≤ r.length ∧ r.length ≤ t.length + k ∧ ∃ u, r = t ++ u := by
 intro k
 induction k with
 | zero =>
  intro t m i r j h
  cases m with
  | zero => cases h; exact ⟨by omega, by omega, [], by simp⟩
  | succ m => cases h
 | succ k ih =>
  intro t m i r j h
  cases m with
  | zero => cases h; exact ⟨by omega, by omega, [], by simp⟩
  | succ m =>
   simp only [nodesP] at h
   cases hx : nodP s cs ns nl i with
   | error l => rw [hx] at h; cases h
   | ok y =>
    rw [hx] at h
    obtain ⟨h1, h2, u, h3⟩ := ih h
    simp at h1 h2
    exact ⟨by omega, by omega, y.1 :: u, by rw [h3]; simp⟩
theorem nodesP_add {s : ByteArray} {cs : List Cls} {ns nl : Nat} : ∀ {k : Nat} {t : List Ins} {m n i : Nat}, nodesP s cs ns nl k t (m + n) i = match nodesP s cs ns nl k t m i with
  | .error j => .error j
  | .ok (r, j) => nodesP s cs ns nl (k - (r.length - t.length)) r n j := by
 intro k
 induction k with
 | zero =>
  intro t m n i
  cases m with
  | zero => simp [nodesP_zero]
  | succ m => rw [show m + 1 + n = (m + n) + 1 from by omega]; rfl
 | succ k ih =>
  intro t m n i
  cases m with
  | zero => simp [nodesP_zero]
  | succ m =>
   rw [show m + 1 + n = (m + n) + 1 from by omega]
   simp only [nodesP]
   cases hx : nodP s cs ns nl i with
   | error l => rfl
   | ok y =>
    obtain ⟨x, j⟩ := y
    simp only
    rw [show m + n + arity x.op = (m + arity x.op) + n from by omega, ih]
    cases hr : nodesP s cs ns nl k (t ++ [x]) (m + arity x.op) j with
    | error l => rfl
    | ok q =>
     obtain ⟨r, l⟩ := q
     have := nodesP_len hr
     simp only
     have e : k - (r.length - (t ++ [x]).length) = k + 1 - (r.length - t.length) := by
      have := this.1
      simp at this ⊢
      omega
     rw [e]
def treeP (s : ByteArray) (cs : List Cls) (ns nl i : Nat) : Except Nat (List Ins × Nat) :=
 match nodesP s cs ns nl 24 [] 1 i with
 | .error j => .error j
 | .ok (t, j) => if (pk s j).toNat = 46 then .ok (t, j + 1) else .error j
def bodS (s : ByteArray) (cs : List Cls) (gs : List Sig) : Nat → List Bod → Nat → Except Nat (List Bod × Nat)
 | 0, bs, i => if (pk s i).toNat = 59 then .ok (bs, i + 1) else .error i
 | k + 1, bs, i => if (pk s i).toNat = 59 then .ok (bs, i + 1) else
  match letP s cs.length i with
  | .error j => .error j
  | .ok (x, j) =>
   match digP s gs.length j with
   | .error l => .error l
   | .ok (m, l) =>
    if (ownB bs x m).isSome = true then .error j else
    match tys s cs.length 58 3 [] l with
    | .error p => .error p
    | .ok (t, p) =>
     match treeP s cs gs.length (t.length + 2) p with
     | .error q => .error q
     | .ok (is, q) => bodS s cs gs k (bs ++ [⟨x, m, UInt8.ofNat (65 + x) :: argOf gs m :: t, is⟩]) q
def readS (s : ByteArray) : Except Nat Img :=
 match clsP s 4 [] 0 with
 | .error i => .error i
 | .ok (cs, i) =>
  match sigP s cs.length 3 [] i with
  | .error j => .error j
  | .ok (gs, j) =>
   match bodS s cs gs 6 [] j with
   | .error l => .error l
   | .ok (bs, l) =>
    match tys s cs.length 58 3 [] l with
    | .error p => .error p
    | .ok (t, p) =>
     match treeP s cs gs.length t.length p with
     | .error q => .error q
     | .ok (is, q) => if q < s.size then .error q else .ok ⟨cs, gs, bs ++ [⟨-1, -1, t, is⟩]⟩
def sk : Nat → List Ins → Nat
 | 0, _ => 0
 | _ + 1, [] => 0
 | m + 1, x :: t => 1 + sk (m + arity x.op) t
def full : Nat → List Ins → Prop
 | 0, [] => True
 | 0, _ :: _ => False
 | _ + 1, [] => False
 | m + 1, x :: t => full (m + arity x.op) t
def endN (t : List Ins) (i : Nat) : Nat := i + sk 1 (t.drop i)
theorem sk_zero {t : List Ins} : sk 0 t = 0 := by cases t <;> rfl
theorem sk_le : ∀ {t : List Ins} {m : Nat}, sk m t ≤ t.length := by
 intro t
 induction t with
 | nil => intro m; cases m <;> simp [sk]
 | cons x t ih =>
  intro m
  cases m with
  | zero => simp [sk]
  | succ m => have := ih (m := m + arity x.op); simp [sk]; omega
theorem sk_add : ∀ {t : List Ins} {m n : Nat}, sk (m + n) t = sk m t + sk n (t.drop (sk m t)) := by
 intro t
 induction t with
 | nil => intro m n; cases m <;> cases n <;> simp [sk]
 | cons x t ih =>
  intro m n
  cases m with
  | zero => simp [sk_zero]
  | succ m =>
   rw [show m + 1 + n = (m + n) + 1 from by omega]
   simp only [sk]
   rw [show m + n + arity x.op = (m + arity x.op) + n from by omega, ih, show 1 + sk (m + arity x.op) t = sk (m + arity x.op) t + 1 from by omega, List.drop_succ_cons]
   omega
theorem full_sk : ∀ {u : List Ins} {m : Nat} {v : List Ins}, full m u → sk m (u ++ v) = u.length := by
 intro u
 induction u with
 | nil =>
  intro m v h
  cases m with
  | zero => simp [sk_zero]
  | succ m => cases h
 | cons x u ih =>
  intro m v h
  cases m with
  | zero => cases h
  | succ m => simp only [List.cons_append, sk, List.length_cons]; rw [ih h]; omega
theorem full_add : ∀ {u : List Ins} {m n : Nat} {v : List Ins}, full m u → full n v → full (m + n) (u ++ v) := by
 intro u
 induction u with
 | nil =>
  intro m n v h h2
  cases m with
  | zero => simpa using h2
  | succ m => cases h
 | cons x u ih =>
  intro m n v h h2
  cases m with
  | zero => cases h
  | succ m =>
   rw [show m + 1 + n = (m + n) + 1 from by omega]
   show full (m + n + arity x.op) (u ++ v)
   rw [show m + n + arity x.op = (m + arity x.op) + n from by omega]
   exact ih h h2
theorem nodesP_full {s : ByteArray} {cs : List Cls} {ns nl : Nat} : ∀ {k : Nat} {t : List Ins} {m i : Nat} {r : List Ins} {j : Nat}, nodesP s cs ns nl k t m i = .ok (r, j) → ∃ u, r = t ++ u ∧ full m u ∧ u.length ≤ k := by
 intro k
 induction k with
 | zero =>
  intro t m i r j h
  cases m with
  | zero => cases h; exact ⟨[], by simp, trivial, by simp⟩
  | succ m => cases h
 | succ k ih =>
  intro t m i r j h
  cases m with
  | zero => cases h; exact ⟨[], by simp, trivial, by simp⟩
  | succ m =>
   simp only [nodesP] at h
   cases hx : nodP s cs ns nl i with
   | error l => rw [hx] at h; cases h
   | ok y =>
    rw [hx] at h
    obtain ⟨u, h1, h2, h3⟩ := ih h
    exact ⟨y.1 :: u, by rw [h1]; simp, h2, by simp; omega⟩
def askT (cs : List Cls) (gs : List Sig) (lo : List UInt8) (x : Ins) : List UInt8 :=
 if arith x.op.toNat = true then [105, 105]
 else if x.op.toNat = 119 then [105]
 else if x.op.toNat = 115 then [lo.getD x.b 0]
 else if x.op.toNat = 103 then [clsT x.a]
 else if x.op.toNat = 112 then [clsT x.a, fieldT cs x.a x.b]
 else if x.op.toNat = 99 then [clsT x.a, argT gs x.b]
 else []
def giveT (cs : List Cls) (gs : List Sig) (lo : List UInt8) (x : Ins) : UInt8 :=
 if x.op.toNat = 122 then 122
 else if x.op.toNat = 108 then lo.getD x.b 0
 else if x.op.toNat = 110 then clsT x.a
 else if x.op.toNat = 103 then fieldT cs x.a x.b
 else if x.op.toNat = 99 then retT gs x.b
 else 105
def nodeT (cs : List Cls) (gs : List Sig) (lo : List UInt8) (x : Ins) (ts : List UInt8) : Option UInt8 :=
 if askT cs gs lo x ≠ [] ∧ fitsT cs ts (askT cs gs lo x) = false then none
 else if x.op.toNat = 101 then (if isR (ts.getD 0 0) = true ∧ isR (ts.getD 1 0) = true then some 105 else none)
 else if x.op.toNat = 120 then (if isR (ts.getD 0 0) = true then some (clsT x.a) else none)
 else if x.op.toNat = 44 then some (ts.getD 1 0)
 else if x.op.toNat = 105 then (if (ts.getD 0 0).toNat = 105 ∧ (joinT cs (ts.getD 1 0) (ts.getD 2 0)).toNat ≠ 45 then some (joinT cs (ts.getD 1 0) (ts.getD 2 0)) else none)
 else if x.op.toNat = 111 then (if (ts.getD 0 0).toNat = 105 then some 105 else none)
 else some (giveT cs gs lo x)
def partsT (t : List Ins) (g : Nat → Option UInt8) : Nat → Nat → Option (List UInt8)
 | 0, _ => some []
 | n + 1, k => match g k with
  | none => none
  | some c => (partsT t g n (endN t k)).map (c :: ·)
def typN (cs : List Cls) (gs : List Sig) (lo : List UInt8) (t : List Ins) : Nat → Nat → Option UInt8
 | 0, _ => none
 | f + 1, i => match t[i]? with
  | none => none
  | some x => match partsT t (typN cs gs lo t f) (arity x.op) (i + 1) with
   | none => none
   | some ts => nodeT cs gs lo x ts
def linkS (s : ByteArray) : Except (Nat × Nat) Img :=
 if 400 < s.size then .error (1, 0) else
 match readS s with
 | .error j => .error (2, j)
 | .ok im => match im.bodies.findSome? (fun b => unl im.classes im.bodies b.code) with
  | some p => .error (3, p)
  | none => .ok im
def bodyT (im : Img) (b : Bod) : Bool := match typN im.classes im.sigs b.locals b.code b.code.length 0 with
 | none => false
 | some c => subT im.classes c (if b.cls < 0 then 105 else retT im.sigs b.meth.toNat)
def scanP (s : ByteArray) : Nat × Nat := match linkS s with
 | .error e => e
 | .ok im => match im.bodies.findIdx? (fun b => !bodyT im b) with
  | some k => (4, k)
  | none => (0, 0)
structure WfN (cs : List Cls) (ns nl : Nat) (x : Ins) : Prop where
 op : nodeLetters.contains x.op.toNat = true
 pos : x.pos ≤ 2000
 cls : x.op.toNat = 110 ∨ x.op.toNat = 120 ∨ x.op.toNat = 103 ∨ x.op.toNat = 112 ∨ x.op.toNat = 99 → x.a < cs.length
 fld : x.op.toNat = 103 ∨ x.op.toNat = 112 → x.b < nFields cs x.a
 sig : x.op.toNat = 99 → x.b < ns
 loc : x.op.toNat = 108 ∨ x.op.toNat = 115 → x.b < nl
 num : x.b < 100
structure WfBS (cs : List Cls) (gs : List Sig) (b : Bod) : Prop where
 code : ∀ x ∈ b.code, WfN cs gs.length b.locals.length x
 full : full 1 b.code
 len : b.code.length ≤ 24
 loc : b.locals.length ≤ 5 ∧ ∀ t ∈ b.locals, isTy cs.length t = true
 cls : (b.cls = -1 ∧ b.meth = -1) ∨ (0 ≤ b.cls ∧ b.cls < cs.length ∧ 0 ≤ b.meth ∧ b.meth < gs.length)
structure WfIS (im : Img) : Prop where
 cls : WfC im.classes
 nc : im.classes.length ≤ 4
 ns : im.sigs.length ≤ 3
 sig : ∀ g ∈ im.sigs, isTy im.classes.length g.arg = true ∧ isTy im.classes.length g.ret = true
 bod : ∀ b ∈ im.bodies, WfBS im.classes im.sigs b
 nb : im.bodies.length ≤ 7
theorem digit_range {c : UInt8} (h : isDigit c = true) : 48 ≤ c.toNat ∧ c.toNat ≤ 57 := by simpa [isDigit] using h
theorem nodP_wf {s : ByteArray} {cs : List Cls} {ns nl i : Nat} {x : Ins} {j : Nat} (hs : s.size ≤ 2000) (h : nodP s cs ns nl i = .ok (x, j)) : WfN cs ns nl x := by
 unfold nodP at h
 split at h
 ·rename_i hl
  split at h
  ·rename_i a b l ho
   cases h
   have hp : i < s.size := pk_lt (by
    rcases Nat.eq_zero_or_pos (pk s i).toNat with h | h
    ·rw [h] at hl; exact absurd hl (by decide)
    ·exact h)
   by_cases hd : isDigit (pk s i) = true
   ·have hr := digit_range hd
    refine ⟨hl, by simp; omega, ?_, ?_, ?_, ?_, ?_⟩
    all_goals simp only [hd, if_true]
    all_goals (intros; omega)
   ·refine ⟨hl, by simp; omega, ?_, ?_, ?_, ?_, ?_⟩
    all_goals simp only [hd, if_false, Bool.false_eq_true]
    all_goals
     unfold operP at ho
     repeat' split at ho
    all_goals first
     | (cases ho; done)
     | skip
    all_goals (intros; first | omega | skip)
    all_goals (cases ho; first | omega | (have := digP_spec ‹_›; omega) | (have := letP_spec ‹_›; omega) | (have h1 := digP_spec ‹digP s 10 (i + 1) = _›; have h2 := digP_spec ‹digP s 10 _ = Except.ok (_, j)›; omega))
  ·cases h
 ·cases h
theorem nodesP_wf {s : ByteArray} {cs : List Cls} {ns nl : Nat} (hs : s.size ≤ 2000) : ∀ {k : Nat} {t : List Ins} {m i : Nat} {r : List Ins} {j : Nat}, (∀ x ∈ t, WfN cs ns nl x) → nodesP s cs ns nl k t m i = .ok (r, j) → ∀ x ∈ r, WfN cs ns nl x := by
 intro k
 induction k with
 | zero =>
  intro t m i r j hw h
  cases m with
  | zero => cases h; exact hw
  | succ m => cases h
 | succ k ih =>
  intro t m i r j hw h
  cases m with
  | zero => cases h; exact hw
  | succ m =>
   simp only [nodesP] at h
   cases hx : nodP s cs ns nl i with
   | error l => rw [hx] at h; cases h
   | ok y =>
    rw [hx] at h
    exact ih (fun z hz => by
     rcases List.mem_append.1 hz with hz | hz
     ·exact hw z hz
     ·simp at hz; subst hz; exact nodP_wf hs hx) h
theorem treeP_wf {s : ByteArray} {cs : List Cls} {ns nl i : Nat} {r : List Ins} {j : Nat} (hs : s.size ≤ 2000) (h : treeP s cs ns nl i = .ok (r, j)) : (∀ x ∈ r, WfN cs ns nl x) ∧ full 1 r ∧ r.length ≤ 24 := by
 unfold treeP at h
 split at h
 ·cases h
 ·rename_i t l hn
  split at h
  ·cases h
   obtain ⟨u, h1, h2, h3⟩ := nodesP_full hn
   simp at h1
   subst h1
   exact ⟨nodesP_wf hs (by simp) hn, h2, h3⟩
  ·cases h
theorem bodS_wf {s : ByteArray} {cs : List Cls} {gs : List Sig} (hs : s.size ≤ 2000) (hn : cs.length ≤ 4) (hg : ∀ g ∈ gs, isTy cs.length g.arg = true ∧ isTy cs.length g.ret = true) : ∀ {k : Nat} {bs : List Bod} {i : Nat} {r : List Bod} {j : Nat}, (∀ b ∈ bs, WfBS cs gs b) → bodS s cs gs k bs i = .ok (r, j) → (∀ b ∈ r, WfBS cs gs b) ∧ r.length ≤ k + bs.length := by
 intro k
 induction k with
 | zero =>
  intro bs i r j hw h
  unfold bodS at h
  split at h
  ·cases h; exact ⟨hw, by omega⟩
  ·cases h
 | succ k ih =>
  intro bs i r j hw h
  unfold bodS at h
  split at h
  ·cases h; exact ⟨hw, by omega⟩
  ·split at h
   ·cases h
   ·rename_i x l1 h1
    split at h
    ·cases h
    ·rename_i m l2 h2
     split at h
     ·cases h
     ·split at h
      ·cases h
      ·rename_i t l3 h3
       split at h
       ·cases h
       ·rename_i is l4 h4
        have hx := letP_spec h1
        have hm := digP_spec h2
        have ht := tys_len h3
        have ha := tys_all (by simp) h3
        have hc := treeP_wf hs h4
        have := ih (fun b hb => by
         rcases List.mem_append.1 hb with hb | hb
         ·exact hw b hb
         ·rw [List.mem_singleton] at hb
          subst hb
          refine ⟨by simpa using hc.1, hc.2.1, hc.2.2, ⟨by simp at ht ⊢; omega, ?_⟩, Or.inr ⟨by simp, by simp; omega, by simp, by simp; omega⟩⟩
          intro c hcm
          rw [List.mem_cons, List.mem_cons] at hcm
          rcases hcm with rfl | rfl | hcm
          ·exact isTy_let hx hn
          ·unfold argOf
           rw [List.getElem?_eq_getElem (by omega)]
           exact (hg _ (List.getElem_mem _)).1
          ·exact ha c hcm) h
        simp at this
        exact ⟨this.1, by omega⟩
theorem readS_wf {s : ByteArray} {im : Img} (hs : s.size ≤ 2000) (h : readS s = .ok im) : WfIS im := by
 unfold readS at h
 split at h
 ·cases h
 ·rename_i cs l1 h1
  split at h
  ·cases h
  ·rename_i gs l2 h2
   split at h
   ·cases h
   ·rename_i bs l3 h3
    split at h
    ·cases h
    ·rename_i t l4 h4
     split at h
     ·cases h
     ·rename_i is l5 h5
      split at h
      ·cases h
      ·cases h
       have hc := clsP_wf h1
       have hsl := sigP_len h2
       have hsa := sigP_all (by simp) h2
       have hb := bodS_wf hs hc.2 hsa (by simp) h3
       have ht := tys_len h4
       have hta := tys_all (by simp) h4
       have hco := treeP_wf hs h5
       refine ⟨hc.1, hc.2, by simpa using hsl, hsa, ?_, by simp at hb ⊢; omega⟩
       intro b hbm
       simp at hbm
       rcases hbm with hbm | rfl
       ·exact hb.1 b hbm
       ·exact ⟨hco.1, hco.2.1, hco.2.2, ⟨by simp at ht ⊢; omega, hta⟩, Or.inl ⟨rfl, rfl⟩⟩
end Go.Proofs.YtpfkkmacakjmbaaGreatDoor.Sp
namespace Go.Proofs.YtpfkkmacakjmbaaGreatDoor
open Go Sp
set_option linter.unusedSimpArgs false
set_option linter.unusedVariables false
theorem parOf_lt {cs : List Cls} (hw : WfC cs) {p : Int} (hp : 0 ≤ p) : parOf cs p < p ∧ -1 ≤ parOf cs p := by
 unfold parOf
 cases h : cs[p.toNat]? with
 | none => simp; omega
 | some c =>
  have := hw _ _ h
  simp
  omega
theorem under_more {cs : List Cls} (hw : WfC cs) : ∀ {f : Nat} {p y : Int}, p < f → under cs f p y = under cs (f + 1) p y := by
 intro f
 induction f with
 | zero => intro p y h; simp [under]; intro h'; omega
 | succ f ih =>
  intro p y h
  rw [under, under]
  by_cases h0 : p < 0
  ·simp [h0]
  ·simp only [h0, if_false]
   by_cases hy : p = y
   ·simp [hy]
   ·simp only [hy, if_false]
    have := parOf_lt hw (p := p) (by omega)
    exact ih (by omega)
theorem U_step {cs : List Cls} (hw : WfC cs) {x y : Int} (h0 : 0 ≤ x) (h1 : x ≤ 4) : under cs 5 x y = true ↔ x = y ∨ under cs 5 (parOf cs x) y = true := by
 rw [under]
 simp only [if_neg (show ¬ x < 0 by omega)]
 by_cases hy : x = y
 ·simp [hy]
 ·simp only [hy, if_false, false_or]
  have := parOf_lt hw h0
  rw [under_more hw (by omega : parOf cs x < (4 : Nat))]
theorem U_neg {cs : List Cls} (hw : WfC cs) {x y : Int} (h : x < 0) : under cs 5 x y = false := by
 rw [under]; simp [h]
theorem U_refl {cs : List Cls} (hw : WfC cs) {x : Int} (h : 0 ≤ x) : under cs 5 x x = true := by
 rw [under]; simp; omega
theorem U_le {cs : List Cls} (hw : WfC cs) : ∀ (k : Nat) {x y : Int}, x ≤ k → k ≤ 4 → under cs 5 x y = true → 0 ≤ y ∧ y ≤ x := by
 intro k
 induction k with
 | zero =>
  intro x y hx hk h
  by_cases h0 : x < 0
  ·rw [U_neg hw h0] at h; cases h
  ·rcases (U_step hw (by omega) (by omega)).1 h with rfl | h
   ·omega
   ·have := parOf_lt hw (p := x) (by omega)
    rw [U_neg hw (by omega)] at h; cases h
 | succ k ih =>
  intro x y hx hk h
  by_cases h0 : x < 0
  ·rw [U_neg hw h0] at h; cases h
  ·rcases (U_step hw (by omega) (by omega)).1 h with rfl | h
   ·omega
   ·have := parOf_lt hw (p := x) (by omega)
    have := ih (by omega) (by omega) h
    omega
theorem U_trans {cs : List Cls} (hw : WfC cs) : ∀ (k : Nat) {x y z : Int}, x ≤ k → k ≤ 4 → under cs 5 x y = true → under cs 5 y z = true → under cs 5 x z = true := by
 intro k
 induction k with
 | zero =>
  intro x y z hx hk h h'
  by_cases h0 : x < 0
  ·rw [U_neg hw h0] at h; cases h
  ·rcases (U_step hw (by omega) (by omega)).1 h with rfl | h
   ·exact h'
   ·have := parOf_lt hw (p := x) (by omega)
    rw [U_neg hw (by omega)] at h; cases h
 | succ k ih =>
  intro x y z hx hk h h'
  by_cases h0 : x < 0
  ·rw [U_neg hw h0] at h; cases h
  ·rcases (U_step hw (by omega) (by omega)).1 h with rfl | h
   ·exact h'
   ·have := parOf_lt hw (p := x) (by omega)
    exact (U_step hw (by omega) (by omega)).2 (Or.inr (ih (by omega) (by omega) h h'))
theorem joinF_spec {cs : List Cls} (hw : WfC cs) : ∀ {f : Nat} {p y : Int}, p < f → f ≤ 5 → p ≤ 3 →
  (joinF cs y f p = 45 ∧ ∀ q, under cs 5 p q = true → under cs 5 y q = false) ∨
  ∃ q : Nat, q ≤ 3 ∧ joinF cs y f p = UInt8.ofNat (65 + q) ∧ under cs 5 p q = true ∧ under cs 5 y q = true ∧ ∀ r, under cs 5 p r = true → under cs 5 y r = true → under cs 5 q r = true := by
 intro f
 induction f with
 | zero => intro p y h _ _; left; exact ⟨rfl, fun q hq => by rw [U_neg hw (by omega)] at hq; cases hq⟩
 | succ f ih =>
  intro p y h hf hp3
  rw [joinF]
  by_cases h0 : p < 0
  ·left
   rw [if_pos h0]
   exact ⟨rfl, fun q hq => by rw [U_neg hw h0] at hq; cases hq⟩
  ·rw [if_neg h0]
   by_cases hy : under cs 5 y p = true
   ·right
    rw [if_pos hy]
    refine ⟨p.toNat, by omega, rfl, ?_, ?_, ?_⟩
    ·rw [Int.toNat_of_nonneg (by omega)]; exact U_refl hw (by omega)
    ·rw [Int.toNat_of_nonneg (by omega)]; exact hy
    ·intro r hr _; rw [Int.toNat_of_nonneg (by omega)]; exact hr
   ·rw [if_neg hy]
    have := parOf_lt hw (p := p) (by omega)
    rcases ih (p := parOf cs p) (y := y) (by omega) (by omega) (by omega) with ⟨h1, h2⟩ | ⟨q, hq, h1, h2, h3, h4⟩
    ·left
     refine ⟨h1, fun q hq => ?_⟩
     rcases (U_step hw (by omega) (by omega)).1 hq with rfl | hq
     ·simpa using hy
     ·exact h2 q hq
    ·right
     refine ⟨q, hq, h1, (U_step hw (by omega) (by omega)).2 (Or.inr h2), h3, fun r hr hr' => ?_⟩
     rcases (U_step hw (by omega) (by omega)).1 hr with rfl | hr
     ·exact absurd hr' hy
     ·exact h4 r hr hr'
abbrev kl (c : UInt8) : Int := (c.toNat : Int) - 65
theorem subT_iff {cs : List Cls} {a b : UInt8} : subT cs a b = true ↔ a = b ∨ b.toNat = 45 ∨ (isC b = true ∧ a.toNat = 122) ∨ (isC a = true ∧ isC b = true ∧ under cs 5 (kl a) (kl b) = true) := by
 unfold subT
 have e : a = b ↔ a.toNat = b.toNat := UInt8.toNat_inj.symm
 rw [e]
 by_cases h1 : a.toNat = b.toNat ∨ b.toNat = 45
 ·simp only [if_pos h1, true_iff]; rcases h1 with h | h <;> simp [h]
 ·rw [if_neg h1]
  have h1' := not_or.1 h1
  simp only [h1'.1, h1'.2, false_or]
  by_cases hb : isC b = false
  ·simp [hb]
  ·have hb' : isC b = true := by simpa using hb
   simp only [hb, if_false, hb', true_and]
   by_cases ha : a.toNat = 122
   ·simp [ha]
   ·simp only [ha, if_false, false_or]
    by_cases hc : isC a = false
    ·simp [hc]
    ·have hc' : isC a = true := by simpa using hc
     simp [hc, hc']
theorem subT_refl {cs : List Cls} (a : UInt8) : subT cs a a = true := subT_iff.2 (Or.inl rfl)
theorem kl_range {cs : List Cls} (hw : WfC cs) {c : UInt8} (h : isC c = true) : 0 ≤ kl c ∧ kl c ≤ 3 := by
 rw [isC_iff] at h
 unfold kl
 omega
theorem subT_trans {cs : List Cls} (hw : WfC cs) {a b c : UInt8} (h : subT cs a b = true) (h' : subT cs b c = true) : subT cs a c = true := by
 rw [subT_iff] at h h'
 rw [subT_iff]
 rcases h with rfl | h | ⟨h1, h2⟩ | ⟨h1, h2, h3⟩
 ·exact h'
 ·rcases h' with rfl | h' | ⟨h1, h2⟩ | ⟨h1, h2, h3⟩
  ·exact Or.inr (Or.inl h)
  ·exact Or.inr (Or.inl h')
  ·omega
  ·rw [isC_iff] at h1; omega
 ·rcases h' with rfl | h' | ⟨h3, h4⟩ | ⟨h3, h4, h5⟩
  ·exact Or.inr (Or.inr (Or.inl ⟨h1, h2⟩))
  ·exact Or.inr (Or.inl h')
  ·rw [isC_iff] at h1; omega
  ·exact Or.inr (Or.inr (Or.inl ⟨h4, h2⟩))
 ·rcases h' with rfl | h' | ⟨h4, h5⟩ | ⟨h4, h5, h6⟩
  ·exact Or.inr (Or.inr (Or.inr ⟨h1, h2, h3⟩))
  ·exact Or.inr (Or.inl h')
  ·rw [isC_iff] at h2; omega
  ·have := kl_range hw h1
   exact Or.inr (Or.inr (Or.inr ⟨h1, h5, U_trans hw 4 (by omega) (by omega) h3 h6⟩))
theorem subT_anti {cs : List Cls} (hw : WfC cs) {a b : UInt8} (h : subT cs a b = true) (h' : subT cs b a = true) : a = b := by
 rw [subT_iff] at h h'
 have e : a.toNat = b.toNat → a = b := UInt8.toNat_inj.1
 rcases h with h | h | ⟨h1, h2⟩ | ⟨h1, h2, h3⟩
 ·exact h
 ·rcases h' with h' | h' | ⟨h1, h2⟩ | ⟨h1, h2, h3⟩
  ·exact h'.symm
  ·exact e (by omega)
  ·omega
  ·rw [isC_iff] at h1; omega
 ·rcases h' with h' | h' | ⟨h3, h4⟩ | ⟨h3, h4, h5⟩
  ·exact h'.symm
  ·omega
  ·rw [isC_iff] at h1; omega
  ·rw [isC_iff] at h4; omega
 ·rcases h' with h' | h' | ⟨h4, h5⟩ | ⟨h4, h5, h6⟩
  ·exact h'.symm
  ·rw [isC_iff] at h1; omega
  ·rw [isC_iff] at h2; omega
  ·have r1 := kl_range hw h1
   have r2 := kl_range hw h2
   have := U_le hw 4 (by omega) (by omega) h3
   have := U_le hw 4 (by omega) (by omega) h6
   apply e
   unfold kl at *
   omega
theorem cls_letter {cs : List Cls} (hw : WfC cs) {q : Nat} (hq : q ≤ 3) : isC (UInt8.ofNat (65 + q)) = true ∧ kl (UInt8.ofNat (65 + q)) = q := by
 have h : (UInt8.ofNat (65 + q)).toNat = 65 + q := by simp; omega
 rw [isC_iff]
 unfold kl
 omega
theorem joinT_lub {cs : List Cls} (hw : WfC cs) (a b : UInt8) : subT cs a (joinT cs a b) = true ∧ subT cs b (joinT cs a b) = true ∧ ∀ c, subT cs a c = true → subT cs b c = true → subT cs (joinT cs a b) c = true := by
 unfold joinT
 by_cases h1 : subT cs a b = true
 ·rw [if_pos h1]; exact ⟨h1, subT_refl _, fun c _ h => h⟩
 rw [if_neg h1]
 by_cases h2 : subT cs b a = true
 ·rw [if_pos h2]; exact ⟨subT_refl _, h2, fun c h _ => h⟩
 rw [if_neg h2]
 have top : ∀ x : UInt8, subT cs x 45 = true := fun x => subT_iff.2 (Or.inr (Or.inl rfl))
 by_cases h3 : isC a = false ∨ isC b = false
 ·rw [if_pos h3]
  refine ⟨top _, top _, fun c ha hb => ?_⟩
  rw [subT_iff] at ha hb
  have hc : c.toNat = 45 := by
   rcases ha with rfl | ha | ⟨p1, p2⟩ | ⟨p1, p2, p3⟩
   ·exact absurd (subT_iff.2 hb) h2
   ·exact ha
   ·rcases hb with rfl | hb | ⟨q1, q2⟩ | ⟨q1, q2, q3⟩
    ·exact absurd (subT_iff.2 (Or.inr (Or.inr (Or.inl ⟨p1, p2⟩)))) h1
    ·exact hb
    ·exact absurd (subT_iff.2 (Or.inl (UInt8.toNat_inj.1 (by omega)))) h1
    ·exact absurd (subT_iff.2 (Or.inr (Or.inr (Or.inl ⟨q1, p2⟩)))) h1
   ·rcases hb with rfl | hb | ⟨q1, q2⟩ | ⟨q1, q2, q3⟩
    ·exact absurd (subT_iff.2 (Or.inr (Or.inr (Or.inr ⟨p1, p2, p3⟩)))) h1
    ·exact hb
    ·exact absurd (subT_iff.2 (Or.inr (Or.inr (Or.inl ⟨p1, q2⟩)))) h2
    ·rcases h3 with h3 | h3
     ·rw [h3] at p1; cases p1
     ·rw [h3] at q1; cases q1
  exact subT_iff.2 (Or.inr (Or.inl hc))
 rw [if_neg h3]
 have ha : isC a = true := by have := not_or.1 h3; simpa using this.1
 have hb : isC b = true := by have := not_or.1 h3; simpa using this.2
 have r1 := kl_range hw ha
 have r2 := kl_range hw hb
 have hp := parOf_lt hw (p := kl a) r1.1
 have base : ∀ c, subT cs a c = true → subT cs b c = true → c.toNat = 45 ∨ (isC c = true ∧ under cs 5 (parOf cs (kl a)) (kl c) = true ∧ under cs 5 (kl b) (kl c) = true) := by
  intro c hac hbc
  rw [subT_iff] at hac hbc
  rcases hac with rfl | hac | ⟨p1, p2⟩ | ⟨p1, p2, p3⟩
  ·exact absurd (subT_iff.2 hbc) h2
  ·exact Or.inl hac
  ·rw [isC_iff] at ha; omega
  ·rcases hbc with rfl | hbc | ⟨q1, q2⟩ | ⟨q1, q2, q3⟩
   ·exact absurd (subT_iff.2 (Or.inr (Or.inr (Or.inr ⟨p1, p2, p3⟩)))) h1
   ·exact Or.inl hbc
   ·rw [isC_iff] at hb; omega
   ·rcases (U_step hw r1.1 (by omega)).1 p3 with h | h
    ·have : a = c := by
      apply UInt8.toNat_inj.1
      unfold kl at h
      omega
     subst this
     exact absurd (subT_iff.2 (Or.inr (Or.inr (Or.inr ⟨q1, q2, q3⟩)))) h2
    ·exact Or.inr ⟨p2, h, q3⟩
 rcases joinF_spec hw (f := 5) (p := parOf cs (kl a)) (y := kl b) (by omega) (by omega) (by omega) with ⟨e, hno⟩ | ⟨q, hq, e, e1, e2, e3⟩
 ·rw [show joinF cs ((b.toNat : Int) - 65) 5 (parOf cs ((a.toNat : Int) - 65)) = 45 from e]
  refine ⟨top _, top _, fun c hac hbc => ?_⟩
  rcases base c hac hbc with h | ⟨_, h4, h5⟩
  ·exact subT_iff.2 (Or.inr (Or.inl h))
  ·rw [hno _ h4] at h5; cases h5
 ·rw [show joinF cs ((b.toNat : Int) - 65) 5 (parOf cs ((a.toNat : Int) - 65)) = UInt8.ofNat (65 + q) from e]
  obtain ⟨l1, l2⟩ := cls_letter hw hq
  refine ⟨?_, ?_, fun c hac hbc => ?_⟩
  ·rw [subT_iff, l2]
   exact Or.inr (Or.inr (Or.inr ⟨ha, l1, (U_step hw r1.1 (by omega)).2 (Or.inr e1)⟩))
  ·rw [subT_iff, l2]
   exact Or.inr (Or.inr (Or.inr ⟨hb, l1, e2⟩))
  ·rcases base c hac hbc with h | ⟨h3, h4, h5⟩
   ·exact subT_iff.2 (Or.inr (Or.inl h))
   ·rw [subT_iff, l2]
    exact Or.inr (Or.inr (Or.inr ⟨l1, h3, e3 _ h4 h5⟩))
end Go.Proofs.YtpfkkmacakjmbaaGreatDoor
