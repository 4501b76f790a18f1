import Derived.Test.YtmfbojnnoonidaaGreatDoorP05
import Derived.Test.YtmfbojnnoonidaaGreatDoorP00
namespace Go.Proofs.YtmfbojnnoonidaaGreatDoor
open Go Go.RowKit Sp
set_option linter.unusedSimpArgs false
set_option linter.unusedVariables false

def optI (o : Option Nat) : Int := match o with
  | some p => p
  | none => -1

theorem unl_at {cs : List Cls} {bs : List Bod} {c : List Ins} {k : Nat} (hk : k < c.length) (h : broken cs bs c.length c[k] = true) (hno : ∀ j (hj : j < c.length), j < k → broken cs bs c.length c[j] = false) : unl cs bs c = some c[k].pos := by
  unfold unl
  have : c.find? (broken cs bs c.length) = some c[k] := by
    rw [List.find?_eq_some_iff_getElem]
    exact ⟨h, k, hk, rfl, fun j hj => by rw [hno j (by omega) hj]; rfl⟩
  rw [this]
  rfl
theorem unl_none {cs : List Cls} {bs : List Bod} {c : List Ins} (hno : ∀ j (hj : j < c.length), broken cs bs c.length c[j] = false) : unl cs bs c = none := by
  unfold unl
  have : c.find? (broken cs bs c.length) = none := by
    rw [List.find?_eq_none]
    intro x hx
    obtain ⟨j, hj, rfl⟩ := List.getElem_of_mem hx
    rw [hno j hj]; decide
  rw [this]
  rfl

set_option maxHeartbeats 1600000 in
set_option maxRecDepth 100000 in
theorem unlinked_any (bi : Nat) (im : Img) (bd : Bod) (vk : Value) (w : World) (hI : ImgAt w bi im) (hW : WfI im) (hbd : WfB im.classes im.sigs bd) (hO : w.ownsRow 0 163 4 vk bd.code.length (insCells bd.code)) :
    Calls Tryz.prog 39 #[.pointer (some ⟨bi, 0, none⟩), .agg #[.int .i64 bd.cls, .int .i64 bd.meth, .string ⟨bd.locals.toArray⟩, vk, .slice none 0 0]] w fun en w' => en = .returned (.int .i64 (optI (unl im.classes im.bodies bd.code))) ∧ But (fun _ => False) w w' := by
  obtain ⟨R, hRR⟩ : ∃ R, unl im.classes im.bodies bd.code = R := ⟨_, rfl⟩
  rw [hRR]
  have HRR : Hid (unl im.classes im.bodies bd.code = R) := hRR
  clear hRR
  obtain ⟨ak, capk, rfl⟩ := owns_len hO
  obtain ⟨n, hn⟩ : ∃ n, bd.code.length = n := ⟨_, rfl⟩
  rw [hn] at hO ⊢
  have HN : Hid (bd.code.length = n) := hn
  have hlen := hbd.len
  rw [hn] at hlen
  clear hn
  go_enter Tryz.func39, Tryz.ntmps39
  go_wp2_with fail
  have hB0 : But (fun _ => False) w (w.alloc (.cells #[.int .i64 bd.cls, .int .i64 bd.meth, .string ⟨bd.locals.toArray⟩, .slice ak n capk, .slice none 0 0] 79)) := But.alloc _ _ _
  have hg0 : (w.alloc (.cells #[.int .i64 bd.cls, .int .i64 bd.meth, .string ⟨bd.locals.toArray⟩, .slice ak n capk, .slice none 0 0] 79)).heap[w.heap.size]? = some (.cells #[.int .i64 bd.cls, .int .i64 bd.meth, .string ⟨bd.locals.toArray⟩, .slice ak n capk, .slice none 0 0] 79) := heap_alloc_new _ _
  generalize (w.alloc (.cells #[.int .i64 bd.cls, .int .i64 bd.meth, .string ⟨bd.locals.toArray⟩, .slice ak n capk, .slice none 0 0] 79)) = w0 at *
  go_loopg [5] n (fun mm ks wr => ∃ (k : Nat), ks = .int .i64 k ∧ k ≤ n ∧ k + mm ≤ n ∧ n ≤ k + mm ∧ But (fun _ => False) w0 wr ∧ Hid (∀ j (hj : j < bd.code.length), j < k → broken im.classes im.bodies bd.code.length bd.code[j] = false))
  case atStart => exact ⟨0, rfl, by omega, by omega, by omega, But.refl _ _, fun j hj h => absurd h (by omega)⟩
  case round =>
    obtain ⟨k, rfl, hk1, hk2, hk3, hB, HA⟩ := hrel
    have hgr : wr.heap[w.heap.size]? = some (.cells #[.int .i64 bd.cls, .int .i64 bd.meth, .string ⟨bd.locals.toArray⟩, .slice ak n capk, .slice none 0 0] 79) := (hB.block _ (lt_of_block hg0) (fun h => h)).trans hg0
    have g3 : wr.cell? ⟨w.heap.size, 3, none⟩ = some (.slice ak n capk) := by rw [cell_of_row wr _ 3 _ _ (0, 0) hgr]; rfl
    have g4 : wr.cell? ⟨w.heap.size, 4, none⟩ = some (.slice none 0 0) := by rw [cell_of_row wr _ 4 _ _ (0, 0) hgr]; rfl
    have hBw : But (fun _ => False) w wr := hB0.trans hB
    have hgl := lt_of_block hgr
    by_cases hlt : k < n
    · have hlt' : k < bd.code.length := by rw [HN.out]; exact hlt
      have hx := List.getElem?_eq_getElem hlt'
      have hOr := owns_but hO hBw (fun _ _ h => h)
      obtain ⟨g, rfl, hg1, hg2, hcell⟩ := owns_two hOr (by omega)
      have q0 := hcell _ _ (insCells_at0 hx)
      have q1 := hcell _ _ (insCells_at1 hx)
      have q2 := hcell _ _ (insCells_at2 hx)
      have q3 := hcell _ _ (insCells_at3 hx)
      have hwx : WfX im.classes im.sigs.length bd.locals.length bd.code[k] := hbd.code _ (List.getElem_mem hlt')
      obtain ⟨X, hX⟩ : ∃ X, bd.code[k] = X := ⟨_, rfl⟩
      have HB : Hid (broken im.classes im.bodies bd.code.length X = true → R = some X.pos) := fun h => by
        subst hX
        rw [← HRR.out]
        exact unl_at hlt' h HA.out
      have HNX : Hid (broken im.classes im.bodies bd.code.length X = false → ∀ j (hj : j < bd.code.length), j < k + 1 → broken im.classes im.bodies bd.code.length bd.code[j] = false) := fun h j hj hjk => by
        subst hX
        rcases Nat.lt_or_ge j k with h' | h'
        · exact HA.out j hj h'
        · have : j = k := by omega
          subst this
          exact h
      rw [hX] at q0 q1 q2 q3 hwx
      clear hcell hx hX
      have hkn : (k : Int) < (n : Int) := by omega
      by_cases h99 : X.op.toNat = 99
      · have t1 : ((X.op.toNat : Int) == 99) = true := by rw [beq_iff_eq]; omega
        have t2 : ((X.op.toNat : Int) == 106) = false := by rw [beq_eq_false_iff_ne]; omega
        have t3 : ((X.op.toNat : Int) == 102) = false := by rw [beq_eq_false_iff_ne]; omega
        have hxa : X.a < im.classes.length := hwx.cls (by omega)
        have H99 : Hid (X.op.toNat = 99) := h99
        clear h99
        go_wp2_with fail
        refine (find_any bi im _ _ _ ((hI.but hBw).but (But.alloc _ _ _)) hW.cls hW.nc hW.nb (by omega) (by omega)).mono ?_
        rintro en wx ⟨rfl, hwx'⟩
        rw [hwx']
        clear hwx' wx
        obtain ⟨fr, hfr⟩ : ∃ fr, findF im.classes im.bodies (X.b : Int) 5 (X.a : Int) = fr := ⟨_, rfl⟩
        rw [hfr]
        have HFR : Hid (findF im.classes im.bodies (X.b : Int) 5 (X.a : Int) = fr) := hfr
        clear hfr
        by_cases hf0 : fr < 0
        · have hres : R = some X.pos := HB.out (by simp [broken, H99.out, HFR.out, hf0])
          subst hres
          go_wp2_with fail
          go_ret
          exact ⟨rfl, hBw.trans (But.alloc _ _ _)⟩
        · have hnb : Hid (broken im.classes im.bodies bd.code.length X = false) := by show _ = _; simp [broken, H99.out, HFR.out]; omega
          go_wp2_with fail
          go_roundg (n - (k + 1))
          case measure => omega
          case rel => exact ⟨k + 1, by simp, by omega, by omega, by omega, hB.trans (But.alloc _ _ _), HNX.out hnb.out⟩
      · have t1 : ((X.op.toNat : Int) == 99) = false := by rw [beq_eq_false_iff_ne]; omega
        by_cases hj : X.op.toNat = 106 ∨ X.op.toNat = 102
        · by_cases hb : (n : Int) ≤ (X.b : Int)
          · have hres : R = some X.pos := HB.out (by
              have : bd.code.length ≤ X.b := by rw [HN.out]; omega
              simp [broken, hj, this])
            subst hres
            rcases hj with hj | hj
            · have t2 : ((X.op.toNat : Int) == 106) = true := by rw [beq_iff_eq]; omega
              clear hj h99
              go_wp2_with fail
              go_ret
              exact ⟨rfl, hBw.trans (But.alloc _ _ _)⟩
            · have t2 : ((X.op.toNat : Int) == 106) = false := by rw [beq_eq_false_iff_ne]; omega
              have t3 : ((X.op.toNat : Int) == 102) = true := by rw [beq_iff_eq]; omega
              clear hj h99
              go_wp2_with fail
              go_ret
              exact ⟨rfl, hBw.trans (But.alloc _ _ _)⟩
          · have hnb : Hid (broken im.classes im.bodies bd.code.length X = false) := by
              show _ = _
              have h1 : ¬ bd.code.length ≤ X.b := by rw [HN.out]; omega
              simp [broken, h99, h1]
            have HNX' := HNX.out hnb.out
            rcases hj with hj | hj
            · have t2 : ((X.op.toNat : Int) == 106) = true := by rw [beq_iff_eq]; omega
              have HH : Hid (∀ j (hj : j < bd.code.length), j < k + 1 → broken im.classes im.bodies bd.code.length bd.code[j] = false) := HNX'
              clear hj h99 HNX'
              go_wp2_with fail
              go_roundg (n - (k + 1))
              case measure => omega
              case rel => exact ⟨k + 1, by simp, by omega, by omega, by omega, hB.trans (But.alloc _ _ _), HH⟩
            · have t2 : ((X.op.toNat : Int) == 106) = false := by rw [beq_eq_false_iff_ne]; omega
              have t3 : ((X.op.toNat : Int) == 102) = true := by rw [beq_iff_eq]; omega
              have HH : Hid (∀ j (hj : j < bd.code.length), j < k + 1 → broken im.classes im.bodies bd.code.length bd.code[j] = false) := HNX'
              clear hj h99 HNX'
              go_wp2_with fail
              go_roundg (n - (k + 1))
              case measure => omega
              case rel => exact ⟨k + 1, by simp, by omega, by omega, by omega, hB.trans (But.alloc _ _ _), HH⟩
        · have t2 : ((X.op.toNat : Int) == 106) = false := by rw [beq_eq_false_iff_ne]; omega
          have t3 : ((X.op.toNat : Int) == 102) = false := by rw [beq_eq_false_iff_ne]; omega
          have hnb : Hid (broken im.classes im.bodies bd.code.length X = false) := by
            show _ = _
            simp [broken, h99]; omega
          have HH : Hid (∀ j (hj : j < bd.code.length), j < k + 1 → broken im.classes im.bodies bd.code.length bd.code[j] = false) := HNX.out hnb.out
          clear hj h99
          go_wp2_with fail
          go_roundg (n - (k + 1))
          case measure => omega
          case rel => exact ⟨k + 1, by simp, by omega, by omega, by omega, hB.trans (But.alloc _ _ _), HH⟩
    · have hres : R = none := by
        rw [← HRR.out]
        exact unl_none (fun j hj => HA.out j hj (by rw [HN.out] at hj; omega))
      subst hres
      go_wp2_with fail
      go_loopg [8] 0 (fun mm ks wr' => ks = .int .i64 0 ∧ wr' = wr)
      case atStart => exact ⟨rfl, rfl⟩
      case round =>
        obtain ⟨rfl, hwr⟩ := hrel
        rw [hwr]
        go_wp2_with fail
        go_ret
        exact ⟨rfl, hBw⟩
end Go.Proofs.YtmfbojnnoonidaaGreatDoor
namespace Go.Proofs.YtmfbojnnoonidaaGreatDoor
open Go Go.RowKit Sp
set_option linter.unusedSimpArgs false
set_option linter.unusedVariables false

/-- What 'Linked' answers. -/
def linkV (R : Except (Nat × Nat) Img) (bi : Nat) : Value := match R with
  | .error (e, p) => .tuple #[.pointer none, .int .i64 e, .int .i64 p]
  | .ok _ => .tuple #[.pointer (some ⟨bi, 0, none⟩), .int .i64 0, .int .i64 0]
def LinkPost (R : Except (Nat × Nat) Img) (bi : Nat) (w' : World) : Prop := match R with
  | .error _ => True
  | .ok im => ImgAt w' bi im ∧ WfI im

theorem findSome_at {α : Type} {f : α → Option Nat} : ∀ {l : List α} {k : Nat} {p : Nat} (hk : k < l.length), f l[k] = some p → (∀ j (hj : j < l.length), j < k → f l[j] = none) → l.findSome? f = some p := by
  intro l
  induction l with
  | nil => intro k p hk; simp at hk
  | cons x l ih =>
    intro k p hk h hno
    cases k with
    | zero => simp at h; simp [List.findSome?_cons, h]
    | succ k =>
      have h0 := hno 0 (by simp) (by omega)
      simp at h0 h
      rw [List.findSome?_cons, h0]
      exact ih (by simpa using hk) h (fun j hj hjk => by
        have := hno (j + 1) (by simpa using hj) (by omega)
        rwa [List.getElem_cons_succ] at this)

set_option maxHeartbeats 800000 in
set_option maxRecDepth 100000 in
theorem linked_any (s : ByteArray) (w : World) (hmax : s.size ≤ maxLen) :
    Calls Tryz.prog 21 #[.string s, .bool false] w fun en w' => en = .returned (linkV (linkP s) w.heap.size) ∧ But (fun _ => False) w w' ∧ LinkPost (linkP s) w.heap.size w' := by
  obtain ⟨R, hRR⟩ : ∃ R, linkP s = R := ⟨_, rfl⟩
  rw [hRR]
  unfold maxLen at hmax
  by_cases hbig : 2000 < s.size
  · have hres : R = .error (1, 0) := by rw [← hRR, linkP, if_pos hbig]
    subst hres
    have hb : (2000 : Int) < (s.size : Int) := by omega
    clear hRR
    go_enter Tryz.func21, Tryz.ntmps21
    go_wp2_with fail
    go_ret3
    exact ⟨rfl, But.refl _ _, trivial⟩
  have hs : s.size ≤ 2000 := by omega
  have hb : ¬ (2000 : Int) < (s.size : Int) := by omega
  have HRR : Hid (linkP s = R) := hRR
  clear hRR hbig
  go_enter Tryz.func21, Tryz.ntmps21
  go_wp2_with fail
  refine (read_any s w hs).mono ?_
  rintro en w1 ⟨rfl, hB1, hp⟩
  cases hread : readP s with
  | error j =>
    have hres : R = .error (2, j) := by rw [← HRR.out, linkP, if_neg (by omega), hread]
    subst hres
    simp only [readI]
    have hj0 : (0 : Int) ≤ (j : Int) := by omega
    clear hp HRR hread
    go_wp2_with fail
    go_ret3
    exact ⟨rfl, hB1, trivial⟩
  | ok im =>
    rw [hread] at hp
    have hW := readP_wf hs hread
    simp only [readI]
    have hI : ImgAt w1 w.heap.size im := hp
    have HRD : Hid (readP s = .ok im) := hread
    clear hread hp
    obtain ⟨v0, v1, v2, l, hIm, hC, hS, hB, hl, hcd⟩ := hI
    have hI : ImgAt w1 w.heap.size im := ⟨v0, v1, v2, l, hIm, hC, hS, hB, hl, hcd⟩
    obtain ⟨a2, cap2, rfl⟩ := owns_len hB
    have hll : l.length ≤ 7 := by have := hW.nb; rw [← hl] at this; simpa using this
    have HL : Hid (l.map (·.1) = im.bodies) := hl
    clear hl
    go_wp2_with fail
    go_loopg [9] l.length (fun mm ks wr => ∃ (k : Nat), ks = .int .i64 k ∧ k ≤ l.length ∧ k + mm ≤ l.length ∧ l.length ≤ k + mm ∧ But (fun _ => False) w1 wr ∧ Hid (∀ j (hj : j < l.length), j < k → unl im.classes im.bodies l[j].1.code = none))
    case atStart => exact ⟨0, rfl, by omega, by omega, by omega, But.refl _ _, fun j hj h => absurd h (by omega)⟩
    case round =>
      obtain ⟨k, rfl, hk1, hk2, hk3, hBr, HA⟩ := hrel
      have d2 := (hIm.but hBr (fun h => h)).c2
      by_cases hlt : k < l.length
      · have hx := List.getElem?_eq_getElem hlt
        obtain ⟨g, rfl, hg1, hg2, hcell⟩ := owns_two (owns_but hB hBr (fun _ _ h => h)) (by omega)
        have q0 := hcell _ _ (bodCells_at0 hx)
        have q1 := hcell _ _ (bodCells_at1 hx)
        have q2 := hcell _ _ (bodCells_at2 hx)
        have q3 := hcell _ _ (bodCells_at3 hx)
        have q4 := hcell _ _ (bodCells_at4 hx)
        have hmem : l[k] ∈ l := List.getElem_mem hlt
        obtain ⟨hok, htr⟩ := hcd _ hmem
        have hwb : WfB im.classes im.sigs l[k].1 := hW.bod _ (by rw [← HL.out]; exact List.mem_map_of_mem hmem)
        have HBR : Hid (∀ p, unl im.classes im.bodies l[k].1.code = some p → R = .error (3, p)) := fun p hp => by
          rw [← HRR.out, linkP, if_neg (by omega), HRD.out]
          simp only
          rw [show im.bodies.findSome? (fun b => unl im.classes im.bodies b.code) = some p from ?_]
          rw [← HL.out, List.findSome?_map]
          rw [HL.out]
          exact findSome_at hlt hp HA.out
        have HNX : Hid (unl im.classes im.bodies l[k].1.code = none → ∀ j (hj : j < l.length), j < k + 1 → unl im.classes im.bodies l[j].1.code = none) := fun h j hj hjk => by
          rcases Nat.lt_or_ge j k with h' | h'
          · exact HA.out j hj h'
          · have : j = k := by omega
            subst this
            exact h
        obtain ⟨X, hX⟩ : ∃ X, l[k] = X := ⟨_, rfl⟩
        rw [hX] at q0 q1 q2 q3 q4 hok htr hwb HBR HNX
        rw [htr] at q4
        obtain ⟨Xb, Xk, Xt⟩ := X
        simp only at q0 q1 q2 q3 q4 hok hwb HBR HNX
        obtain ⟨ak, capk, rfl⟩ := owns_len hok
        clear hcell hx hX hmem htr
        have hkn : (k : Int) < (l.length : Int) := by omega
        go_wp2_with fail
        refine (unlinked_any w.heap.size im Xb _ _ (hI.but hBr) hW hwb (owns_but hok hBr (fun _ _ h => h))).mono ?_
        rintro en w2 ⟨rfl, hB2⟩
        cases hu : unl im.classes im.bodies Xb.code with
        | some p =>
          have hres : R = .error (3, p) := HBR.out p hu
          subst hres
          simp only [optI]
          have hp0 : (0 : Int) ≤ (p : Int) := by omega
          clear hu q0 q1 q2 q3 q4 d2
          go_wp2_with fail
          go_ret3
          exact ⟨rfl, (hB1.trans hBr).trans hB2, trivial⟩
        | none =>
          simp only [optI]
          have HH := HNX.out hu
          have HH' : Hid (∀ j (hj : j < l.length), j < k + 1 → unl im.classes im.bodies l[j].1.code = none) := HH
          clear hu HH q0 q1 q2 q3 q4 d2
          go_wp2_with fail
          go_roundg (l.length - (k + 1))
          case measure => omega
          case rel => exact ⟨k + 1, by simp, by omega, by omega, by omega, hBr.trans hB2, HH'⟩
      · have hres : R = .ok im := by
          rw [← HRR.out, linkP, if_neg (by omega), HRD.out]
          simp only
          rw [show im.bodies.findSome? (fun b => unl im.classes im.bodies b.code) = none from ?_]
          rw [List.findSome?_eq_none_iff]
          intro b hb
          rw [← HL.out] at hb
          obtain ⟨x, hx, rfl⟩ := List.mem_map.1 hb
          obtain ⟨j, hj, rfl⟩ := List.getElem_of_mem hx
          exact HA.out j hj (by omega)
        subst hres
        go_wp2_with fail
        go_ret3
        exact ⟨rfl, hB1.trans hBr, hI.but hBr, hW⟩
end Go.Proofs.YtmfbojnnoonidaaGreatDoor
/- Types: what fits what, meetings. -/
namespace Go.Proofs.YtmfbojnnoonidaaGreatDoor.Sp

def under (cs : List Cls) : Nat → Int → Int → Bool
  | 0, _, _ => false
  | f + 1, x, y => if x < 0 then false else if x = y then true else under cs f (parOf cs x) y

def isC (c : UInt8) : Bool := decide (65 ≤ c.toNat) && decide (c.toNat ≤ 68)

def subT (cs : List Cls) (a b : UInt8) : Bool :=
  if a.toNat = b.toNat ∨ b.toNat = 45 then true else
  if isC b = false then false else
  if a.toNat = 122 then true else
  if isC a = false then false else under cs 5 ((a.toNat : Int) - 65) ((b.toNat : Int) - 65)

def joinF (cs : List Cls) (y : Int) : Nat → Int → UInt8
  | 0, _ => 45
  | f + 1, p => if p < 0 then 45 else if under cs 5 y p = true then UInt8.ofNat (65 + p.toNat) else joinF cs y f (parOf cs p)

def joinT (cs : List Cls) (a b : UInt8) : UInt8 :=
  if subT cs a b = true then b else
  if subT cs b a = true then a else
  if isC a = false ∨ isC b = false then 45 else
  joinF cs ((b.toNat : Int) - 65) 5 (parOf cs ((a.toNat : Int) - 65))

/-- A type of the text. -/
def okT (n : Nat) (c : UInt8) : Bool := isTy n c || decide (c.toNat = 122) || decide (c.toNat = 45)

theorem okT_iff {n : Nat} {c : UInt8} : okT n c = true ↔ c.toNat = 105 ∨ (65 ≤ c.toNat ∧ c.toNat < 65 + n) ∨ c.toNat = 122 ∨ c.toNat = 45 := by
  simp [okT, isTy, isLet, or_assoc]
theorem isC_iff {c : UInt8} : isC c = true ↔ 65 ≤ c.toNat ∧ c.toNat ≤ 68 := by simp [isC]
theorem isC_false {c : UInt8} : isC c = false ↔ ¬ (65 ≤ c.toNat ∧ c.toNat ≤ 68) := by
  rw [← isC_iff]; cases isC c <;> simp


def isR (c : UInt8) : Bool := decide (c.toNat = 122) || isC c

/-- Do the topmost types fit where those are asked for? -/
def fitsT (cs : List Cls) (stack want : List UInt8) : Bool :=
  decide (want.length ≤ stack.length) && (List.range want.length).all fun i => subT cs (stack.getD (stack.length - want.length + i) 0) (want.getD i 0)

def fieldT (cs : List Cls) (a k : Nat) : UInt8 := ((cs[a]?.map (·.fields)).getD []).getD k 0
def clsT (a : Nat) : UInt8 := UInt8.ofNat (65 + a)
def argT (gs : List Sig) (k : Nat) : UInt8 := (gs[k]?.map (·.arg)).getD 0
def retT (gs : List Sig) (k : Nat) : UInt8 := (gs[k]?.map (·.ret)).getD 0

def arith (c : Nat) : Bool := [43, 45, 42, 47, 60, 61].contains c

def popsT (cs : List Cls) (gs : List Sig) (b : Bod) (x : Ins) : List UInt8 :=
  if x.op.toNat = 119 ∨ x.op.toNat = 102 then [105] else
  if arith x.op.toNat = true then [105, 105] else
  if x.op.toNat = 103 then [clsT x.a] else
  if x.op.toNat = 112 then [clsT x.a, fieldT cs x.a x.b] else
  if x.op.toNat = 99 then [clsT x.a, argT gs x.b] else
  if x.op.toNat = 116 then (if b.cls < 0 then [105] else [retT gs b.meth.toNat]) else []

def pushT (cs : List Cls) (gs : List Sig) (x : Ins) : List UInt8 :=
  if x.op.toNat = 107 ∨ x.op.toNat = 114 ∨ arith x.op.toNat = true ∨ x.op.toNat = 101 then [105] else
  if x.op.toNat = 122 then [122] else
  if x.op.toNat = 110 ∨ x.op.toNat = 120 then [clsT x.a] else
  if x.op.toNat = 103 then [fieldT cs x.a x.b] else
  if x.op.toNat = 99 then [retT gs x.b] else []

/-- How many types s, d, e, x take; none: what lies there is not fit. -/
def looseT (c : Nat) (stack : List UInt8) : Option Nat :=
  if c = 101 then
    if stack.length < 2 ∨ isR (stack.getD (stack.length - 1) 0) = false ∨ isR (stack.getD (stack.length - 2) 0) = false then none else some 2
  else if stack.length < 1 ∨ (c = 120 ∧ isR (stack.getD (stack.length - 1) 0) = false) then none else some 1

/-- The state behind an instruction (the types on the stack, of the locals). -/
def effT (cs : List Cls) (gs : List Sig) (b : Bod) (x : Ins) (stack locals : List UInt8) : Option (List UInt8 × List UInt8) :=
  if x.op.toNat = 115 ∨ x.op.toNat = 100 ∨ x.op.toNat = 101 ∨ x.op.toNat = 120 then
    match looseT x.op.toNat stack with
    | none => none
    | some k => some (stack.take (stack.length - k) ++ pushT cs gs x, if x.op.toNat = 115 then locals.set x.b (stack.getD (stack.length - 1) 0) else locals)
  else if x.op.toNat = 108 then
    if (locals.getD x.b 0).toNat = 45 then none else some (stack ++ [locals.getD x.b 0], locals)
  else if fitsT cs stack (popsT cs gs b x) = true then some (stack.take (stack.length - (popsT cs gs b x).length) ++ pushT cs gs x, locals)
  else none


def bothT (cs : List Cls) (a b : List UInt8) : List UInt8 := List.zipWith (joinT cs) a b

theorem fitsT_false {cs : List Cls} {st wa : List UInt8} (h : st.length < wa.length) : fitsT cs st wa = false := by
  unfold fitsT
  rw [Bool.and_eq_false_iff]
  left; simp; omega
theorem fitsT_no {cs : List Cls} {st wa : List UInt8} {k : Nat} (hk : k < wa.length) (h : subT cs (st.getD (st.length - wa.length + k) 0) (wa.getD k 0) = false) : fitsT cs st wa = false := by
  unfold fitsT
  rw [Bool.and_eq_false_iff]
  right
  rw [List.all_eq_false]
  exact ⟨k, by simpa using hk, by rw [h]; decide⟩
theorem fitsT_yes {cs : List Cls} {st wa : List UInt8} (hl : wa.length ≤ st.length) (h : ∀ k, k < wa.length → subT cs (st.getD (st.length - wa.length + k) 0) (wa.getD k 0) = true) : fitsT cs st wa = true := by
  unfold fitsT
  rw [Bool.and_eq_true]
  refine ⟨by simpa using hl, ?_⟩
  rw [List.all_eq_true]
  intro k hk
  exact h k (by simpa using hk)


theorem bothT_len {cs : List Cls} {a b : List UInt8} (h : a.length = b.length) : (bothT cs a b).length = a.length := by
  simp [bothT, h]
theorem bothT_snoc {cs : List Cls} {a b : List UInt8} {k : Nat} (ha : k < a.length) (hb : k < b.length) : bothT cs (a.take (k + 1)) (b.take (k + 1)) = bothT cs (a.take k) (b.take k) ++ [joinT cs (a.getD k 0) (b.getD k 0)] := by
  unfold bothT
  rw [List.take_succ_eq_append_getElem ha, List.take_succ_eq_append_getElem hb, List.zipWith_append (by simp; omega)]
  simp [List.getD, ha, hb]

end Go.Proofs.YtmfbojnnoonidaaGreatDoor.Sp
namespace Go.Proofs.YtmfbojnnoonidaaGreatDoor
open Go Go.RowKit Sp
set_option linter.unusedSimpArgs false
set_option linter.unusedVariables false

/-- The classes of an image in memory. -/
def ClsAt (w : World) (bi : Nat) (cs : List Cls) : Prop :=
  ∃ v0 v1 v2, ImB w bi v0 v1 v2 ∧ w.ownsRow 0 188 2 v0 cs.length (clsCells cs)

theorem ImgAt.cls {w : World} {bi : Nat} {im : Img} (h : ImgAt w bi im) : ClsAt w bi im.classes := by
  obtain ⟨v0, v1, v2, l, hI, h0, _⟩ := h
  exact ⟨v0, v1, v2, hI, h0⟩
theorem ClsAt.but {w w' : World} {bi : Nat} {cs : List Cls} (h : ClsAt w bi cs) (hb : But (fun _ => False) w w') : ClsAt w' bi cs := by
  obtain ⟨v0, v1, v2, hI, h0⟩ := h
  exact ⟨v0, v1, v2, hI.but hb (fun h => h), owns_but h0 hb (fun _ _ h => h)⟩

/-- A class's parent in memory. -/
theorem ClsAt.par {w : World} {bi : Nat} {cs : List Cls} (h : ClsAt w bi cs) (hw : WfC cs) {x : Int} (h0 : 0 ≤ x) (hx : x < cs.length) :
    ∃ (g n cap : Nat) (p : Int), w.cell? ⟨bi, 0, none⟩ = some (.slice (some ⟨g, 0, none⟩) n cap) ∧ x < (n : Int) ∧ w.cell? ⟨g, x.toNat * 2, none⟩ = some (.int .i64 p) ∧ parOf cs x = p ∧ -1 ≤ p ∧ p < cs.length := by
  obtain ⟨v0, v1, v2, hI, hO⟩ := h
  obtain ⟨a0, cap0, rfl⟩ := owns_len hO
  obtain ⟨n, rfl⟩ := Int.eq_ofNat_of_zero_le h0
  have hnl : n < cs.length := by omega
  have hgl := List.getElem?_eq_getElem hnl
  obtain ⟨g, rfl, hg1, hg2, hcell⟩ := owns_two hO (by omega)
  have hpr := parOf_range hw hx h0
  have hpo : parOf cs (n : Int) = cs[n].par := by unfold parOf; rw [Int.toNat_natCast, hgl]; rfl
  refine ⟨g, cs.length, cap0, cs[n].par, hI.c0, by omega, ?_, hpo, ?_, ?_⟩
  · rw [Int.toNat_natCast]; exact hcell _ _ (clsCells_at0 hgl)
  · rw [← hpo]; exact hpr.1
  · rw [← hpo]; exact hpr.2

set_option maxHeartbeats 800000 in
set_option maxRecDepth 100000 in
theorem under_any (bi : Nat) (cs : List Cls) (x y : Int) (w : World) (hI : ClsAt w bi cs) (hw : WfC cs) (hx0 : -1 ≤ x) (hx : x < cs.length) :
    Calls Tryz.prog 51 #[.pointer (some ⟨bi, 0, none⟩), .int .i64 x, .int .i64 y] w fun en w' => en = .returned (.bool (under cs 5 x y)) ∧ w' = w := by
  obtain ⟨R, hRR⟩ : ∃ R, under cs 5 x y = R := ⟨_, rfl⟩
  rw [hRR]
  have HRR : Hid (under cs 5 x y = R) := hRR
  clear hRR
  go_enter Tryz.func51, Tryz.ntmps51
  go_wp2_with fail
  go_loopg [1, 7] 5 (fun mm xs ks wr => ∃ (xv : Int) (kn : Nat), xs = .int .i64 xv ∧ ks = .int .i64 kn ∧ kn ≤ 5 ∧ 5 ≤ kn + mm ∧ kn + mm ≤ 5 ∧ wr = w ∧ -1 ≤ xv ∧ xv < cs.length ∧ Hid (under cs mm xv y = R))
  case atStart => exact ⟨x, 0, rfl, rfl, by omega, by omega, by omega, rfl, hx0, hx, HRR⟩
  case round =>
    obtain ⟨xv, kn, rfl, rfl, hk5, hkm1, hkm2, hwr, hx0', hx', HF⟩ := hrel
    subst hwr
    by_cases hxn : 0 ≤ xv
    · cases gk with
      | zero =>
        have hres : R = false := by rw [← HF.out]; rfl
        subst hres
        have hk4 : ¬ (kn : Int) ≤ 4 := by omega
        go_wp2_with fail
        go_ret
        exact ⟨rfl, rfl⟩
      | succ f =>
        have hk4 : (kn : Int) ≤ 4 := by omega
        by_cases hxy : xv = y
        · have hres : R = true := by rw [← HF.out, under, if_neg (by omega), if_pos hxy]
          subst hres
          have hb : (xv == y) = true := by simpa using hxy
          clear hxy HF
          go_wp2_with fail
          go_ret
          exact ⟨rfl, rfl⟩
        · have HN : Hid (under cs f (parOf cs xv) y = R) := by show _ = _; rw [← HF.out, under, if_neg (by omega), if_neg hxy]
          have hb : (xv == y) = false := by simpa using hxy
          obtain ⟨g, n, cap, p, d0, hn, hc, hpo, hp1, hp2⟩ := hI.par hw hxn hx'
          rw [hpo] at HN
          clear hpo hxy HF
          go_wp2_with fail
          go_roundg f
          case measure => omega
          case rel => exact ⟨p, kn + 1, rfl, by simp, by omega, by omega, by omega, rfl, hp1, hp2, HN⟩
    · have hres : R = false := by
        rw [← HF.out]
        cases gk with
        | zero => rfl
        | succ f => rw [under, if_pos (by omega)]
      subst hres
      by_cases hk4 : (kn : Int) ≤ 4
      · go_wp2_with fail
        go_ret
        exact ⟨rfl, rfl⟩
      · go_wp2_with fail
        go_ret
        exact ⟨rfl, rfl⟩

theorem isClass_any (c : UInt8) (w : World) : Calls Tryz.prog 50 #[.int .u8 c.toNat] w fun en w' => en = .returned (.bool (isC c)) ∧ w' = w := by
  obtain ⟨n, hn⟩ : ∃ n : Nat, c.toNat = n := ⟨_, rfl⟩
  have hb : isC c = (decide (65 ≤ (n : Int)) && decide ((n : Int) ≤ 68)) := by
    unfold isC; rw [hn]; rw [Bool.eq_iff_iff]; simp; omega
  rw [hn, hb]
  clear hb hn
  by_cases h : (65 : Int) ≤ (n : Int)
  · by_cases h2 : (n : Int) ≤ 68
    · go_enter Tryz.func50, Tryz.ntmps50
      go_wp2
      go_ret
      exact ⟨by simp [h, h2], rfl⟩
    · go_enter Tryz.func50, Tryz.ntmps50
      go_wp2
      go_ret
      exact ⟨by simp [h, h2], rfl⟩
  · go_enter Tryz.func50, Tryz.ntmps50
    go_wp2
    go_ret
    exact ⟨by simp; omega, rfl⟩
end Go.Proofs.YtmfbojnnoonidaaGreatDoor
