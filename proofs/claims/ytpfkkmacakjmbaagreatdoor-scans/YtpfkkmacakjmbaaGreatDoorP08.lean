import Derived.Test.YtpfkkmacakjmbaaGreatDoorP07
import Derived.Test.YtpfkkmacakjmbaaGreatDoorP02
namespace Go.Proofs.YtpfkkmacakjmbaaGreatDoor
open Go Go.RowKit Sp
set_option linter.unusedSimpArgs false
set_option linter.unusedVariables false
/-- What 'Linked' answers. -/
def linkV (R : Except (Nat × Nat) Img) (bi : Nat) : Value := match R with
 | .error (e, p) => .tuple #[.pointer none, .int .i64 e, .int .i64 p]
 | .ok _ => .tuple #[.pointer (some ⟨bi, 0, none⟩), .int .i64 0, .int .i64 0]
def LinkPost (R : Except (Nat × Nat) Img) (bi : Nat) (w' : World) : Prop := match R with
 | .error _ => True
 | .ok im => ImgAt w' bi im ∧ WfI im
theorem findSome_at {α : Type} {f : α → Option Nat} : ∀ {l : List α} {k : Nat} {p : Nat} (hk : k < l.length), f l[k] = some p → (∀ j (hj : j < l.length), j < k → f l[j] = none) → l.findSome? f = some p := by
 intro l
 induction l with
 | nil => intro k p hk; simp at hk
 | cons x l ih =>
  intro k p hk h hno
  cases k with
  | zero => simp at h; simp [List.findSome?_cons, h]
  | succ k =>
   have h0 := hno 0 (by simp) (by omega)
   simp at h0 h
   rw [List.findSome?_cons, h0]
   exact ih (by simpa using hk) h (fun j hj hjk => by
    have := hno (j + 1) (by simpa using hj) (by omega)
    rwa [List.getElem_cons_succ] at this)
set_option maxHeartbeats 800000 in
set_option maxRecDepth 100000 in
theorem linked_any (s : ByteArray) (w : World) (hmax : s.size ≤ maxLen) :
  Calls Tryz.prog 28 #[.string s, .bool false] w fun en w' => en = .returned (linkV (linkP s) w.heap.size) ∧ But (fun _ => False) w w' ∧ LinkPost (linkP s) w.heap.size w' := by
 obtain ⟨R, hRR⟩ : ∃ R, linkP s = R := ⟨_, rfl⟩
 rw [hRR]
 unfold maxLen at hmax
 by_cases hbig : 2000 < s.size
 ·have hres : R = .error (1, 0) := by rw [← hRR, linkP, if_pos hbig]
  subst hres
  have hb : (2000 : Int) < (s.size : Int) := by omega
  clear hRR
  go_enter Tryz.func28, Tryz.ntmps28
  go_wp2_with fail
  go_ret3
  exact ⟨rfl, But.refl _ _, trivial⟩
 have hs : s.size ≤ 2000 := by omega
 have hb : ¬ (2000 : Int) < (s.size : Int) := by omega
 have HRR : Hid (linkP s = R) := hRR
 clear hRR hbig
 go_enter Tryz.func28, Tryz.ntmps28
 go_wp2_with fail
 refine (read_any s w hs).mono ?_
 rintro en w1 ⟨rfl, hB1, hp⟩
 cases hread : readP s with
 | error j =>
  have hres : R = .error (2, j) := by rw [← HRR.out, linkP, if_neg (by omega), hread]
  subst hres
  simp only [readI]
  have hj0 : (0 : Int) ≤ (j : Int) := by omega
  clear hp HRR hread
  go_wp2_with fail
  go_ret3
  exact ⟨rfl, hB1, trivial⟩
 | ok im =>
  rw [hread] at hp
  have hW := readP_wf hs hread
  simp only [readI]
  have hI : ImgAt w1 w.heap.size im := hp
  have HRD : Hid (readP s = .ok im) := hread
  clear hread hp
  obtain ⟨v0, v1, v2, l, hIm, hC, hS, hB, hl, hcd⟩ := hI
  have hI : ImgAt w1 w.heap.size im := ⟨v0, v1, v2, l, hIm, hC, hS, hB, hl, hcd⟩
  obtain ⟨a2, cap2, rfl⟩ := owns_len hB
  have hll : l.length ≤ 7 := by have := hW.nb; rw [← hl] at this; simpa using this
  have HL : Hid (l.map (·.1) = im.bodies) := hl
  clear hl
  go_wp2_with fail
  go_loopg [9] l.length (fun mm ks wr => ∃ (k : Nat), ks = .int .i64 k ∧ k ≤ l.length ∧ k + mm ≤ l.length ∧ l.length ≤ k + mm ∧ But (fun _ => False) w1 wr ∧ Hid (∀ j (hj : j < l.length), j < k → unl im.classes im.bodies l[j].1.code = none))
  case atStart => exact ⟨0, rfl, by omega, by omega, by omega, But.refl _ _, fun j hj h => absurd h (by omega)⟩
  case round =>
   obtain ⟨k, rfl, hk1, hk2, hk3, hBr, HA⟩ := hrel
   have d2 := (hIm.but hBr (fun h => h)).c2
   by_cases hlt : k < l.length
   ·have hx := List.getElem?_eq_getElem hlt
    obtain ⟨g, rfl, hg1, hg2, hcell⟩ := owns_two (owns_but hB hBr (fun _ _ h => h)) (by omega)
    have q0 := hcell _ _ (bodCells_at0 hx)
    have q1 := hcell _ _ (bodCells_at1 hx)
    have q2 := hcell _ _ (bodCells_at2 hx)
    have q3 := hcell _ _ (bodCells_at3 hx)
    have q4 := hcell _ _ (bodCells_at4 hx)
    have hmem : l[k] ∈ l := List.getElem_mem hlt
    obtain ⟨hok, htr⟩ := hcd _ hmem
    have hwb : WfB im.classes im.sigs l[k].1 := hW.bod _ (by rw [← HL.out]; exact List.mem_map_of_mem hmem)
    have HBR : Hid (∀ p, unl im.classes im.bodies l[k].1.code = some p → R = .error (3, p)) := fun p hp => by
     rw [← HRR.out, linkP, if_neg (by omega), HRD.out]
     simp only
     rw [show im.bodies.findSome? (fun b => unl im.classes im.bodies b.code) = some p from ?_]
     rw [← HL.out, List.findSome?_map]
     rw [HL.out]
     exact findSome_at hlt hp HA.out
    have HNX : Hid (unl im.classes im.bodies l[k].1.code = none → ∀ j (hj : j < l.length), j < k + 1 → unl im.classes im.bodies l[j].1.code = none) := fun h j hj hjk => by
     rcases Nat.lt_or_ge j k with h' | h'
     ·exact HA.out j hj h'
     ·have : j = k := by omega
      subst this
      exact h
    obtain ⟨X, hX⟩ : ∃ X, l[k] = X := ⟨_, rfl⟩
    rw [hX] at q0 q1 q2 q3 q4 hok htr hwb HBR HNX
    rw [htr] at q4
    obtain ⟨Xb, Xk, Xt⟩ := X
    simp only at q0 q1 q2 q3 q4 hok hwb HBR HNX
    obtain ⟨ak, capk, rfl⟩ := owns_len hok
    clear hcell hx hX hmem htr
    have hkn : (k : Int) < (l.length : Int) := by omega
    go_wp2_with fail
    refine (unlinked_any w.heap.size im Xb _ _ (hI.but hBr) hW hwb (owns_but hok hBr (fun _ _ h => h))).mono ?_
    rintro en w2 ⟨rfl, hB2⟩
    cases hu : unl im.classes im.bodies Xb.code with
    | some p =>
     have hres : R = .error (3, p) := HBR.out p hu
     subst hres
     simp only [optI]
     have hp0 : (0 : Int) ≤ (p : Int) := by omega
     clear hu q0 q1 q2 q3 q4 d2
     go_wp2_with fail
     go_ret3
     exact ⟨rfl, (hB1.trans hBr).trans hB2, trivial⟩
    | none =>
     simp only [optI]
     have HH := HNX.out hu
     have HH' : Hid (∀ j (hj : j < l.length), j < k + 1 → unl im.classes im.bodies l[j].1.code = none) := HH
     clear hu HH q0 q1 q2 q3 q4 d2
     go_wp2_with fail
     go_roundg (l.length - (k + 1))
     case measure => omega
     case rel => exact ⟨k + 1, by simp, by omega, by omega, by omega, hBr.trans hB2, HH'⟩
   ·have hres : R = .ok im := by
     rw [← HRR.out, linkP, if_neg (by omega), HRD.out]
     simp only
     rw [show im.bodies.findSome? (fun b => unl im.classes im.bodies b.code) = none from ?_]
     rw [List.findSome?_eq_none_iff]
     intro b hb
     rw [← HL.out] at hb
     obtain ⟨x, hx, rfl⟩ := List.mem_map.1 hb
     obtain ⟨j, hj, rfl⟩ := List.getElem_of_mem hx
     exact HA.out j hj (by omega)
    subst hres
    go_wp2_with fail
    go_ret3
    exact ⟨rfl, hB1.trans hBr, hI.but hBr, hW⟩
end Go.Proofs.YtpfkkmacakjmbaaGreatDoor
namespace Go.Proofs.YtpfkkmacakjmbaaGreatDoor
open Go Go.RowKit Sp
set_option linter.unusedSimpArgs false
set_option linter.unusedVariables false
/-- The classes of an image in memory. -/
def ClsAt (w : World) (bi : Nat) (cs : List Cls) : Prop :=
 ∃ v0 v1 v2, ImB w bi v0 v1 v2 ∧ w.ownsRow 0 203 2 v0 cs.length (clsCells cs)
theorem ImgAt.cls {w : World} {bi : Nat} {im : Img} (h : ImgAt w bi im) : ClsAt w bi im.classes := by
 obtain ⟨v0, v1, v2, l, hI, h0, _⟩ := h
 exact ⟨v0, v1, v2, hI, h0⟩
theorem ClsAt.but {w w' : World} {bi : Nat} {cs : List Cls} (h : ClsAt w bi cs) (hb : But (fun _ => False) w w') : ClsAt w' bi cs := by
 obtain ⟨v0, v1, v2, hI, h0⟩ := h
 exact ⟨v0, v1, v2, hI.but hb (fun h => h), owns_but h0 hb (fun _ _ h => h)⟩
/-- A class's parent in memory. -/
theorem ClsAt.par {w : World} {bi : Nat} {cs : List Cls} (h : ClsAt w bi cs) (hw : WfC cs) {x : Int} (h0 : 0 ≤ x) (hx : x < cs.length) :
  ∃ (g n cap : Nat) (p : Int), w.cell? ⟨bi, 0, none⟩ = some (.slice (some ⟨g, 0, none⟩) n cap) ∧ x < (n : Int) ∧ w.cell? ⟨g, x.toNat * 2, none⟩ = some (.int .i64 p) ∧ parOf cs x = p ∧ -1 ≤ p ∧ p < cs.length := by
 obtain ⟨v0, v1, v2, hI, hO⟩ := h
 obtain ⟨a0, cap0, rfl⟩ := owns_len hO
 obtain ⟨n, rfl⟩ := Int.eq_ofNat_of_zero_le h0
 have hnl : n < cs.length := by omega
 have hgl := List.getElem?_eq_getElem hnl
 obtain ⟨g, rfl, hg1, hg2, hcell⟩ := owns_two hO (by omega)
 have hpr := parOf_range hw hx h0
 have hpo : parOf cs (n : Int) = cs[n].par := by unfold parOf; rw [Int.toNat_natCast, hgl]; rfl
 refine ⟨g, cs.length, cap0, cs[n].par, hI.c0, by omega, ?_, hpo, ?_, ?_⟩
 ·rw [Int.toNat_natCast]; exact hcell _ _ (clsCells_at0 hgl)
 ·rw [← hpo]; exact hpr.1
 ·rw [← hpo]; exact hpr.2
set_option maxHeartbeats 800000 in
set_option maxRecDepth 100000 in
theorem under_any (bi : Nat) (cs : List Cls) (x y : Int) (w : World) (hI : ClsAt w bi cs) (hw : WfC cs) (hx0 : -1 ≤ x) (hx : x < cs.length) :
  Calls Tryz.prog 122 #[.pointer (some ⟨bi, 0, none⟩), .int .i64 x, .int .i64 y] w fun en w' => en = .returned (.bool (under cs 5 x y)) ∧ w' = w := by
 obtain ⟨R, hRR⟩ : ∃ R, under cs 5 x y = R := ⟨_, rfl⟩
 rw [hRR]
 have HRR : Hid (under cs 5 x y = R) := hRR
 clear hRR
 go_enter Tryz.func122, Tryz.ntmps122
 go_wp2_with fail
 go_loopg [1, 7] 5 (fun mm xs ks wr => ∃ (xv : Int) (kn : Nat), xs = .int .i64 xv ∧ ks = .int .i64 kn ∧ kn ≤ 5 ∧ 5 ≤ kn + mm ∧ kn + mm ≤ 5 ∧ wr = w ∧ -1 ≤ xv ∧ xv < cs.length ∧ Hid (under cs mm xv y = R))
 case atStart => exact ⟨x, 0, rfl, rfl, by omega, by omega, by omega, rfl, hx0, hx, HRR⟩
 case round =>
  obtain ⟨xv, kn, rfl, rfl, hk5, hkm1, hkm2, hwr, hx0', hx', HF⟩ := hrel
  subst hwr
  by_cases hxn : 0 ≤ xv
  ·cases gk with
   | zero =>
    have hres : R = false := by rw [← HF.out]; rfl
    subst hres
    have hk4 : ¬ (kn : Int) ≤ 4 := by omega
    go_wp2_with fail
    go_ret
    exact ⟨rfl, rfl⟩
   | succ f =>
    have hk4 : (kn : Int) ≤ 4 := by omega
    by_cases hxy : xv = y
    ·have hres : R = true := by rw [← HF.out, under, if_neg (by omega), if_pos hxy]
     subst hres
     have hb : (xv == y) = true := by simpa using hxy
     clear hxy HF
     go_wp2_with fail
     go_ret
     exact ⟨rfl, rfl⟩
    ·have HN : Hid (under cs f (parOf cs xv) y = R) := by show _ = _; rw [← HF.out, under, if_neg (by omega), if_neg hxy]
     have hb : (xv == y) = false := by simpa using hxy
     obtain ⟨g, n, cap, p, d0, hn, hc, hpo, hp1, hp2⟩ := hI.par hw hxn hx'
     rw [hpo] at HN
     clear hpo hxy HF
     go_wp2_with fail
     go_roundg f
     case measure => omega
     case rel => exact ⟨p, kn + 1, rfl, by simp, by omega, by omega, by omega, rfl, hp1, hp2, HN⟩
  ·have hres : R = false := by
    rw [← HF.out]
    cases gk with
    | zero => rfl
    | succ f => rw [under, if_pos (by omega)]
   subst hres
   by_cases hk4 : (kn : Int) ≤ 4
   ·go_wp2_with fail
    go_ret
    exact ⟨rfl, rfl⟩
   ·go_wp2_with fail
    go_ret
    exact ⟨rfl, rfl⟩
theorem isClass_any (c : UInt8) (w : World) : Calls Tryz.prog 82 #[.int .u8 c.toNat] w fun en w' => en = .returned (.bool (isC c)) ∧ w' = w := by
 obtain ⟨n, hn⟩ : ∃ n : Nat, c.toNat = n := ⟨_, rfl⟩
 have hb : isC c = (decide (65 ≤ (n : Int)) && decide ((n : Int) ≤ 68)) := by
  unfold isC; rw [hn]; rw [Bool.eq_iff_iff]; simp; omega
 rw [hn, hb]
 clear hb hn
 by_cases h : (65 : Int) ≤ (n : Int)
 ·by_cases h2 : (n : Int) ≤ 68
  ·go_enter Tryz.func82, Tryz.ntmps82
   go_wp2
   go_ret
   exact ⟨by simp [h, h2], rfl⟩
  ·go_enter Tryz.func82, Tryz.ntmps82
   go_wp2
   go_ret
   exact ⟨by simp [h, h2], rfl⟩
 ·go_enter Tryz.func82, Tryz.ntmps82
  go_wp2
  go_ret
  exact ⟨by simp; omega, rfl⟩
end Go.Proofs.YtpfkkmacakjmbaaGreatDoor
namespace Go.Proofs.YtpfkkmacakjmbaaGreatDoor
open Go Go.RowKit Sp
set_option linter.unusedSimpArgs false
set_option linter.unusedVariables false
theorem isRef_any (c : UInt8) (w : World) : Calls Tryz.prog 119 #[.int .u8 c.toNat] w fun en w' => en = .returned (.bool (isR c)) ∧ w' = w := by
 obtain ⟨r, hr⟩ : ∃ r, isC c = r := ⟨_, rfl⟩
 by_cases h : c.toNat = 122
 ·have hb : ((c.toNat : Int) == 122) = true := by rw [beq_iff_eq]; omega
  have hres : isR c = true := by simp [isR, h]
  rw [hres]
  clear h hres hr
  go_enter Tryz.func119, Tryz.ntmps119
  go_wp2_with fail
  go_ret
  exact ⟨rfl, rfl⟩
 ·have hb : ((c.toNat : Int) == 122) = false := by rw [beq_eq_false_iff_ne]; omega
  have hres : isR c = r := by simp [isR, h, hr]
  rw [hres]
  have HR : Hid (isC c = r) := hr
  clear h hres hr
  go_enter Tryz.func119, Tryz.ntmps119
  go_wp2_with fail
  refine (isClass_any c _).mono ?_
  rw [HR.out]
  rintro en wx ⟨rfl, hwx⟩
  rw [hwx]
  clear hwx wx
  go_wp2_with fail
  go_ret
  exact ⟨rfl, rfl⟩
set_option maxHeartbeats 800000 in
theorem sub_any (bi : Nat) (cs : List Cls) (a b : UInt8) (w : World) (hI : ClsAt w bi cs) (hw : WfC cs) (hn : cs.length ≤ 4) (ha : okT cs.length a = true) :
  Calls Tryz.prog 73 #[.pointer (some ⟨bi, 0, none⟩), .int .u8 a.toNat, .int .u8 b.toNat] w fun en w' => en = .returned (.bool (subT cs a b)) ∧ w' = w := by
 obtain ⟨R, hRR⟩ : ∃ R, subT cs a b = R := ⟨_, rfl⟩
 rw [hRR]
 unfold subT at hRR
 have hao := okT_iff.1 ha
 by_cases h1 : a.toNat = b.toNat
 ·rw [if_pos (Or.inl h1)] at hRR
  subst hRR
  have hb : ((a.toNat : Int) == (b.toNat : Int)) = true := by rw [beq_iff_eq]; omega
  clear h1 hao
  go_enter Tryz.func73, Tryz.ntmps73
  go_wp2_with fail
  go_ret
  exact ⟨rfl, rfl⟩
 have hb1 : ((a.toNat : Int) == (b.toNat : Int)) = false := by rw [beq_eq_false_iff_ne]; omega
 by_cases h2 : b.toNat = 45
 ·rw [if_pos (Or.inr h2)] at hRR
  subst hRR
  have hb : ((b.toNat : Int) == 45) = true := by rw [beq_iff_eq]; omega
  clear h1 h2 hao
  go_enter Tryz.func73, Tryz.ntmps73
  go_wp2_with fail
  go_ret
  exact ⟨rfl, rfl⟩
 have hb2 : ((b.toNat : Int) == 45) = false := by rw [beq_eq_false_iff_ne]; omega
 rw [if_neg (by omega)] at hRR
 clear h1 h2
 cases hcb : isC b with
 | false =>
  rw [if_pos hcb] at hRR
  subst hRR
  go_enter Tryz.func73, Tryz.ntmps73
  go_wp2_with (go_at_call 82; refine (isClass_any b _).mono ?_; rw [hcb]; rintro en wx ⟨rfl, hwx⟩; rw [hwx]; clear hwx wx)
  go_ret
  exact ⟨rfl, rfl⟩
 | true =>
  rw [if_neg (by rw [hcb]; decide)] at hRR
  by_cases h3 : a.toNat = 122
  ·rw [if_pos h3] at hRR
   subst hRR
   have hb3 : ((a.toNat : Int) == 122) = true := by rw [beq_iff_eq]; omega
   clear h3 hao
   go_enter Tryz.func73, Tryz.ntmps73
   go_wp2_with (go_at_call 82; refine (isClass_any b _).mono ?_; rw [hcb]; rintro en wx ⟨rfl, hwx⟩; rw [hwx]; clear hwx wx)
   go_ret
   exact ⟨rfl, rfl⟩
  ·rw [if_neg h3] at hRR
   have hb3 : ((a.toNat : Int) == 122) = false := by rw [beq_eq_false_iff_ne]; omega
   clear h3
   cases hca : isC a with
   | false =>
    rw [if_pos hca] at hRR
    subst hRR
    clear hao
    go_enter Tryz.func73, Tryz.ntmps73
    go_wp2_with fail
    refine (isClass_any b _).mono ?_
    rw [hcb]
    rintro en wx ⟨rfl, hwx⟩
    rw [hwx]
    clear hwx wx
    go_wp2_with fail
    refine (isClass_any a _).mono ?_
    rw [hca]
    rintro en wx ⟨rfl, hwx⟩
    rw [hwx]
    clear hwx wx
    go_wp2_with fail
    go_ret
    exact ⟨rfl, rfl⟩
   | true =>
    rw [if_neg (by rw [hca]; decide)] at hRR
    have hA := isC_iff.1 hca
    have hB := isC_iff.1 hcb
    have ha1 : (65 : Int) ≤ (a.toNat : Int) := by omega
    have ha2 : (a.toNat : Int) ≤ 68 := by omega
    have hb4 : (65 : Int) ≤ (b.toNat : Int) := by omega
    have hb5 : (b.toNat : Int) ≤ 68 := by omega
    have hal : (a.toNat : Int) - 65 < cs.length := by omega
    have HR : Hid (under cs 5 ((a.toNat : Int) - 65) ((b.toNat : Int) - 65) = R) := hRR
    have HCA : Hid (isC a = true) := hca
    have HCB : Hid (isC b = true) := hcb
    clear hao hA hB hRR hca hcb
    go_enter Tryz.func73, Tryz.ntmps73
    go_wp2_with fail
    refine (isClass_any b _).mono ?_
    rw [HCB.out]
    rintro en wx ⟨rfl, hwx⟩
    rw [hwx]
    clear hwx wx
    go_wp2_with fail
    refine (isClass_any a _).mono ?_
    rw [HCA.out]
    rintro en wx ⟨rfl, hwx⟩
    rw [hwx]
    clear hwx wx
    go_wp2_with fail
    refine (under_any bi cs _ _ _ hI hw (by omega) hal).mono ?_
    rw [HR.out]
    rintro en wx ⟨rfl, hwx⟩
    rw [hwx]
    clear hwx wx
    go_wp2_with fail
    go_ret
    exact ⟨rfl, rfl⟩
set_option maxHeartbeats 1600000 in
theorem join_any (bi : Nat) (cs : List Cls) (a b : UInt8) (w : World) (hI : ClsAt w bi cs) (hw : WfC cs) (hn : cs.length ≤ 4) (ha : okT cs.length a = true) (hb : okT cs.length b = true) :
  Calls Tryz.prog 120 #[.pointer (some ⟨bi, 0, none⟩), .int .u8 a.toNat, .int .u8 b.toNat] w fun en w' => en = .returned (.int .u8 (joinT cs a b).toNat) ∧ w' = w := by
 obtain ⟨R, hRR⟩ : ∃ R, joinT cs a b = R := ⟨_, rfl⟩
 rw [hRR]
 unfold joinT at hRR
 cases h1 : subT cs a b with
 | true =>
  rw [if_pos h1] at hRR
  subst hRR
  have H1 : Hid (subT cs a b = true) := h1
  clear h1
  go_enter Tryz.func120, Tryz.ntmps120
  go_wp2_with fail
  refine (sub_any bi cs a b _ hI hw hn ha).mono ?_
  rw [H1.out]
  rintro en wx ⟨rfl, hwx⟩
  rw [hwx]
  clear hwx wx
  go_wp2_with fail
  go_ret
  exact ⟨rfl, rfl⟩
 | false =>
 rw [if_neg (by rw [h1]; decide)] at hRR
 have H1 : Hid (subT cs a b = false) := h1
 clear h1
 go_enter Tryz.func120, Tryz.ntmps120
 go_wp2_with fail
 refine (sub_any bi cs a b _ hI hw hn ha).mono ?_
 rw [H1.out]
 rintro en wx ⟨rfl, hwx⟩
 rw [hwx]
 clear hwx wx
 go_wp2_with fail
 refine (sub_any bi cs b a _ hI hw hn hb).mono ?_
 cases h2 : subT cs b a with
 | true =>
  rw [if_pos h2] at hRR
  subst hRR
  clear h2
  rintro en wx ⟨rfl, hwx⟩
  rw [hwx]
  clear hwx wx
  go_wp2_with fail
  go_ret
  exact ⟨rfl, rfl⟩
 | false =>
 rw [if_neg (by rw [h2]; decide)] at hRR
 clear h2
 rintro en wx ⟨rfl, hwx⟩
 rw [hwx]
 clear hwx wx
 go_wp2_with fail
 refine (isClass_any a _).mono ?_
 cases hca : isC a with
 | false =>
  rw [if_pos (Or.inl hca)] at hRR
  subst hRR
  clear hca
  rintro en wx ⟨rfl, hwx⟩
  rw [hwx]
  clear hwx wx
  go_wp2_with fail
  go_ret
  exact ⟨rfl, rfl⟩
 | true =>
 rintro en wx ⟨rfl, hwx⟩
 rw [hwx]
 clear hwx wx
 go_wp2_with fail
 refine (isClass_any b _).mono ?_
 cases hcb : isC b with
 | false =>
  rw [if_pos (Or.inr hcb)] at hRR
  subst hRR
  clear hcb hca
  rintro en wx ⟨rfl, hwx⟩
  rw [hwx]
  clear hwx wx
  go_wp2_with fail
  go_ret
  exact ⟨rfl, rfl⟩
 | true =>
 rw [if_neg (by rw [hca, hcb]; decide)] at hRR
 rintro en wx ⟨rfl, hwx⟩
 rw [hwx]
 clear hwx wx
 have hao := okT_iff.1 ha
 have hbo := okT_iff.1 hb
 have hA := isC_iff.1 hca
 have hB := isC_iff.1 hcb
 have ha1 : (65 : Int) ≤ (a.toNat : Int) := by omega
 have ha2 : (a.toNat : Int) ≤ 68 := by omega
 have hb1 : (65 : Int) ≤ (b.toNat : Int) := by omega
 have hb2 : (b.toNat : Int) ≤ 68 := by omega
 have hal : (a.toNat : Int) - 65 < cs.length := by omega
 have hbl : (b.toNat : Int) - 65 < cs.length := by omega
 obtain ⟨g, n, cap, p, d0, hn', hc, hpo, hp1, hp2⟩ := hI.par hw (x := (a.toNat : Int) - 65) (by omega) hal
 rw [hpo] at hRR
 have HRR : Hid (joinF cs ((b.toNat : Int) - 65) 5 p = R) := hRR
 rw [show ((a.toNat : Int) - 65).toNat = a.toNat - 65 from by omega] at hc
 clear hao hbo hA hB hca hcb hRR hpo
 go_wp2_with fail
 go_loopg [9, 10] 5 (fun mm xs ks wr => ∃ (xv : Int) (kn : Nat), xs = .int .i64 xv ∧ ks = .int .i64 kn ∧ kn ≤ 5 ∧ 5 ≤ kn + mm ∧ kn + mm ≤ 5 ∧ wr = w ∧ -1 ≤ xv ∧ xv < cs.length ∧ Hid (joinF cs ((b.toNat : Int) - 65) mm xv = R))
 case atStart => exact ⟨p, 0, rfl, rfl, by omega, by omega, by omega, rfl, hp1, hp2, HRR⟩
 case round =>
  obtain ⟨xv, kn, rfl, rfl, hk5, hkm1, hkm2, hwr, hx0', hx', HF⟩ := hrel
  subst hwr
  clear d0 hc hn'
  by_cases hxn : 0 ≤ xv
  ·cases gk with
   | zero =>
    have hres : R = 45 := by rw [← HF.out]; rfl
    subst hres
    have hk4 : ¬ (kn : Int) ≤ 4 := by omega
    go_wp2_with fail
    go_ret
    exact ⟨rfl, rfl⟩
   | succ f =>
    have hk4 : (kn : Int) ≤ 4 := by omega
    go_wp2_with fail
    refine (under_any bi cs _ _ _ hI hw (by omega) hbl).mono ?_
    cases hu : under cs 5 ((b.toNat : Int) - 65) xv with
    | true =>
     have hres : R = UInt8.ofNat (65 + xv.toNat) := by rw [← HF.out, joinF, if_neg (by omega), if_pos hu]
     have hrn : (R.toNat : Int) = 65 + xv := by rw [hres, UInt8.toNat_ofNat']; omega
     have HRN : Hid ((R.toNat : Int) = 65 + xv) := hrn
     clear hu hres hrn
     rintro en wx ⟨rfl, hwx⟩
     rw [hwx]
     clear hwx wx
     go_wp2_with fail
     go_ret
     exact ⟨ret_int (by rw [HRN.out]), rfl⟩
    | false =>
     obtain ⟨g, n, cap, p', d0, hn', hc, hpo, hq1, hq2⟩ := hI.par hw hxn hx'
     have HN : Hid (joinF cs ((b.toNat : Int) - 65) f p' = R) := by show _ = _; rw [← HF.out, joinF, if_neg (by omega), if_neg (by rw [hu]; decide), hpo]
     clear hu hpo HF
     rintro en wx ⟨rfl, hwx⟩
     rw [hwx]
     clear hwx wx
     go_wp2_with fail
     go_roundg f
     case measure => omega
     case rel => exact ⟨p', kn + 1, rfl, by simp, by omega, by omega, by omega, rfl, hq1, hq2, HN⟩
  ·have hres : R = 45 := by
    rw [← HF.out]
    cases gk with
    | zero => rfl
    | succ f => rw [joinF, if_pos (by omega)]
   subst hres
   by_cases hk4 : (kn : Int) ≤ 4
   ·go_wp2_with fail
    go_ret
    exact ⟨rfl, rfl⟩
   ·go_wp2_with fail
    go_ret
    exact ⟨rfl, rfl⟩
end Go.Proofs.YtpfkkmacakjmbaaGreatDoor
namespace Go.Proofs.YtpfkkmacakjmbaaGreatDoor
open Go Go.RowKit Sp
set_option linter.unusedSimpArgs false
set_option linter.unusedVariables false
attribute [local go_sem ↓] Go.wp_at_zero Go.wp_at_succ
theorem lget (l : List UInt8) (k : Nat) (h : k < l.length) (h' : k < (⟨l.toArray⟩ : ByteArray).size) : (⟨l.toArray⟩ : ByteArray)[k] = l[k] := rfl
theorem lsize (l : List UInt8) : (⟨l.toArray⟩ : ByteArray).size = l.length := rfl
theorem getD_lt (l : List UInt8) (k : Nat) (h : k < l.length) : l.getD k 0 = l[k] := by simp [List.getD, h]
set_option maxHeartbeats 800000 in
set_option maxRecDepth 100000 in
theorem fits_any (bi : Nat) (cs : List Cls) (st wa : List UInt8) (w : World) (hI : ClsAt w bi cs) (hw : WfC cs) (hn : cs.length ≤ 4) (hst : ∀ c ∈ st, okT cs.length c = true) (hl1 : st.length ≤ 100000) (hl2 : wa.length ≤ 100) :
  Calls Tryz.prog 83 #[.pointer (some ⟨bi, 0, none⟩), .string ⟨st.toArray⟩, .string ⟨wa.toArray⟩] w fun en w' => en = .returned (.bool (fitsT cs st wa)) ∧ But (fun _ => False) w w' := by
 obtain ⟨R, hRR⟩ : ∃ R, fitsT cs st wa = R := ⟨_, rfl⟩
 rw [hRR]
 have HRR : Hid (fitsT cs st wa = R) := hRR
 clear hRR
 by_cases hlen : (st.length : Int) - (wa.length : Int) < 0
 ·have hres : R = false := by rw [← HRR.out]; exact fitsT_false (by omega)
  subst hres
  go_enter Tryz.func83, Tryz.ntmps83
  go_wp2_with fail
  go_ret
  exact ⟨rfl, But.refl _ _⟩
 go_enter Tryz.func83, Tryz.ntmps83
 go_wp2_with fail
 go_loopg [8] wa.length (fun mm ks wr => ∃ (k : Nat), ks = .int .i64 k ∧ k ≤ wa.length ∧ k + mm ≤ wa.length ∧ wa.length ≤ k + mm ∧ But (fun _ => False) w wr ∧ Hid (∀ j, j < k → subT cs (st.getD (st.length - wa.length + j) 0) (wa.getD j 0) = true))
 case atStart => exact ⟨0, rfl, by omega, by omega, by omega, But.refl _ _, fun j h => absurd h (by omega)⟩
 case round =>
  obtain ⟨k, rfl, hk1, hk2, hk3, hBr, HA⟩ := hrel
  by_cases hlt : k < wa.length
  ·have hkn : (k : Int) < (wa.length : Int) := by omega
   have hi1 : (0 : Int) ≤ (st.length : Int) - (wa.length : Int) + (k : Int) := by omega
   have hi2 : (st.length : Int) - (wa.length : Int) + (k : Int) < (st.length : Int) := by omega
   have hin : st.length - wa.length + k < st.length := by omega
   have hwrp := wrapI ((st.length : Int) - (wa.length : Int) + (k : Int)) (by omega) (by omega)
   go_wp2_with fail
   refine wpTx_begin (But (fun _ => False) wr) 10 (by kernel_rfl) ?_
   have hS0 : But (fun _ => False) wr wr.drew := But.drew _ _
   refine wpTx_take (v := ?vA0) rfl (by kernel_rfl) ?qA0 rfl hS0 ?yA0 ?rA0
   case yA0 => intro wS h; clear h; go_simp; try rfl
   case qA0 => exact fun _ _ _ h => h
   dsimp only [Act.put]
   try simp only [puts]
   refine wpTx_take (v := ?vA1) rfl (by kernel_rfl) ?qA1 rfl hS0 ?yA1 ?rA1
   case yA1 => intro wS h; clear h; go_simp; try rfl
   case qA1 => exact fun _ _ _ h => h
   dsimp only [Act.put]
   try simp only [puts]
   refine wpTx_take (v := ?vA2) rfl (by kernel_rfl) ?qA2 rfl hS0 ?yA2 ?rA2
   case yA2 => intro wS h; clear h; go_simp; try rfl
   case qA2 => exact fun _ _ _ h => h
   dsimp only [Act.put]
   try simp only [puts]
   refine wpTx_take (v := ?vA3) rfl (by kernel_rfl) ?qA3 rfl hS0 ?yA3 ?rA3
   case yA3 => intro wS h; clear h; go_simp; try rfl
   case qA3 => exact fun _ _ _ h => h
   dsimp only [Act.put]
   try simp only [puts]
   refine wpTx_take (v := ?vA4) rfl (by kernel_rfl) ?qA4 rfl hS0 ?yA4 ?rA4
   case yA4 => intro wS h; clear h; go_simp; try rfl
   case qA4 => exact fun _ _ _ h => h
   dsimp only [Act.put]
   try simp only [puts]
   refine wpTx_take (v := ?vA5) rfl (by kernel_rfl) ?qA5 rfl hS0 ?yA5 ?rA5
   case yA5 => intro wS h; clear h; go_simp; try rfl
   case qA5 => exact fun _ _ _ h => h
   dsimp only [Act.put]
   try simp only [puts]
   refine wpTx_take (v := ?vA6) rfl (by kernel_rfl) ?qA6 rfl hS0 ?yA6 ?rA6
   case yA6 => intro wS h; clear h; go_simp; try rfl
   case qA6 => exact fun _ _ _ h => h
   dsimp only [Act.put]
   try simp only [puts]
   refine wpTx_take (v := ?vA7) rfl (by kernel_rfl) ?qA7 rfl hS0 ?yA7 ?rA7
   case yA7 => intro wS h; clear h; go_simp; try rfl
   case qA7 => exact fun _ _ _ h => h
   dsimp only [Act.put]
   try simp only [puts]
   refine wpTx_take (v := ?vA8) rfl (by kernel_rfl) ?qA8 rfl hS0 ?yA8 ?rA8
   case yA8 => intro wS h; clear h; go_simp; try rfl
   case qA8 => exact fun _ _ _ h => h
   dsimp only [Act.put]
   try simp only [puts]
   clear hwrp
   refine wpTx_step (o := ?oA9) (rest := ?rsA9) ?hoA9 ?hrA9 ?stA9
   case hoA9 => rfl
   case hrA9 => kernel_rfl
   case' stA9 =>
   intro KS hKS
   go_simp
   have ha : ∀ h, (⟨st.toArray⟩ : ByteArray)[((st.length : Int) - (wa.length : Int) + (k : Int)).toNat]'h = st.getD (st.length - wa.length + k) 0 := fun h => by
    have hidx : ((st.length : Int) - (wa.length : Int) + (k : Int)).toNat = st.length - wa.length + k := by omega
    rw [getD_lt st _ hin]
    simp only [hidx]
    exact lget st _ hin _
   have hb : ∀ h, (⟨wa.toArray⟩ : ByteArray)[k]'h = wa.getD k 0 := fun h => by
    rw [getD_lt wa _ hlt]
    exact lget wa _ hlt _
   simp only [ha, hb]
   have hak : okT cs.length (st.getD (st.length - wa.length + k) 0) = true := by rw [getD_lt st _ hin]; exact hst _ (List.getElem_mem _)
   have HNX : Hid (∀ q, subT cs (st.getD (st.length - wa.length + k) 0) (wa.getD k 0) = q → (q = false → R = false) ∧ (q = true → ∀ j, j < k + 1 → subT cs (st.getD (st.length - wa.length + j) 0) (wa.getD j 0) = true)) := fun q hq => by
    refine ⟨fun h => by subst h; rw [← HRR.out]; exact fitsT_no hlt hq, fun h j hj => ?_⟩
    rcases Nat.lt_or_ge j k with h' | h'
    ·exact HA.out j h'
    ·have : j = k := by omega
     subst this
     rw [hq, h]
   clear ha hb hin
   generalize st.getD (st.length - wa.length + k) 0 = A at *
   generalize wa.getD k 0 = B at *
   refine (sub_any bi cs A B _ ((hI.but hBr).but hS0) hw hn hak).mono ?_
   rintro en wx ⟨rfl, hwx⟩
   rw [hwx]
   clear hwx wx
   refine hKS.out _ _ (fun _ => hS0) ?_
   clear hKS KS
   refine wpTx_step (o := ?oA10) (rest := ?rsA10) ?hoA10 ?hrA10 ?stA10
   case hoA10 => rfl
   case hrA10 => kernel_rfl
   case' stA10 =>
   intro KS hKS
   go_simp
   refine hKS.out _ _ (fun h => absurd h (by decide)) ?_
   clear hKS KS
   refine wpTx_done rfl (by kernel_rfl) ?_
   have HX := HNX.out _ rfl
   cases hq : subT cs A B with
   | false =>
    have hres : R = false := HX.1 hq
    subst hres
    clear HX hq
    go_wp2_with fail
    go_ret
    exact ⟨rfl, hBr.trans hS0⟩
   | true =>
    have HY : Hid (∀ j, j < k + 1 → subT cs (st.getD (st.length - wa.length + j) 0) (wa.getD j 0) = true) := HX.2 hq
    clear HX hq
    go_wp2_with fail
    go_roundg (wa.length - (k + 1))
    case measure => omega
    case rel => exact ⟨k + 1, by simp, by omega, by omega, by omega, hBr.trans hS0, HY⟩
  ·have hres : R = true := by rw [← HRR.out]; exact fitsT_yes (by omega) (fun j hj => HA.out j (by omega))
   subst hres
   go_wp2_with fail
   go_ret
   exact ⟨rfl, hBr⟩
set_option maxHeartbeats 800000 in
set_option maxRecDepth 100000 in
theorem both_any (bi : Nat) (cs : List Cls) (a b : List UInt8) (w : World) (hI : ClsAt w bi cs) (hw : WfC cs) (hn : cs.length ≤ 4) (ha : ∀ c ∈ a, okT cs.length c = true) (hb : ∀ c ∈ b, okT cs.length c = true) (hl : a.length = b.length) (hl1 : a.length ≤ 100000) :
  Calls Tryz.prog 244 #[.pointer (some ⟨bi, 0, none⟩), .string ⟨a.toArray⟩, .string ⟨b.toArray⟩] w fun en w' => en = .returned (.string ⟨(bothT cs a b).toArray⟩) ∧ But (fun _ => False) w w' := by
 obtain ⟨R, hRR⟩ : ∃ R, bothT cs a b = R := ⟨_, rfl⟩
 rw [hRR]
 have HRR : Hid (bothT cs a b = R) := hRR
 have HL : Hid (a.length = b.length) := hl
 have hle : a.length ≤ b.length := by omega
 clear hRR hl
 go_enter Tryz.func244, Tryz.ntmps244
 go_wp2_with fail
 go_loopg [7, 8] a.length (fun mm ts ks wr => ∃ (k : Nat) (t : List UInt8), ts = .string ⟨t.toArray⟩ ∧ t.length ≤ k ∧ ks = .int .i64 k ∧ k ≤ a.length ∧ k + mm ≤ a.length ∧ a.length ≤ k + mm ∧ But (fun _ => False) w wr ∧ Hid (bothT cs (a.take k) (b.take k) = t))
 case atStart => exact ⟨0, [], rfl, by simp, rfl, by omega, by omega, by omega, But.refl _ _, rfl⟩
 case round =>
  obtain ⟨k, t, rfl, htk, rfl, hk1, hk2, hk3, hBr, HA⟩ := hrel
  by_cases hlt : k < a.length
  ·have hkn : (k : Int) < (a.length : Int) := by omega
   have hltb : k < b.length := by omega
   have hkb : (k : Int) < (b.length : Int) := by omega
   go_wp2_with fail
   refine wpTx_begin (But (fun _ => False) wr) 8 (by kernel_rfl) ?_
   have hS0 : But (fun _ => False) wr wr.drew := But.drew _ _
   refine wpTx_take (v := ?vA0) rfl (by kernel_rfl) ?qA0 rfl hS0 ?yA0 ?rA0
   case yA0 => intro wS h; clear h; go_simp; try rfl
   case qA0 => exact fun _ _ _ h => h
   dsimp only [Act.put]
   try simp only [puts]
   refine wpTx_take (v := ?vA1) rfl (by kernel_rfl) ?qA1 rfl hS0 ?yA1 ?rA1
   case yA1 => intro wS h; clear h; go_simp; try rfl
   case qA1 => exact fun _ _ _ h => h
   dsimp only [Act.put]
   try simp only [puts]
   refine wpTx_take (v := ?vA2) rfl (by kernel_rfl) ?qA2 rfl hS0 ?yA2 ?rA2
   case yA2 => intro wS h; clear h; go_simp; try rfl
   case qA2 => exact fun _ _ _ h => h
   dsimp only [Act.put]
   try simp only [puts]
   refine wpTx_take (v := ?vA3) rfl (by kernel_rfl) ?qA3 rfl hS0 ?yA3 ?rA3
   case yA3 => intro wS h; clear h; go_simp; try rfl
   case qA3 => exact fun _ _ _ h => h
   dsimp only [Act.put]
   try simp only [puts]
   refine wpTx_take (v := ?vA4) rfl (by kernel_rfl) ?qA4 rfl hS0 ?yA4 ?rA4
   case yA4 => intro wS h; clear h; go_simp; try rfl
   case qA4 => exact fun _ _ _ h => h
   dsimp only [Act.put]
   try simp only [puts]
   refine wpTx_take (v := ?vA5) rfl (by kernel_rfl) ?qA5 rfl hS0 ?yA5 ?rA5
   case yA5 => intro wS h; clear h; go_simp; try rfl
   case qA5 => exact fun _ _ _ h => h
   dsimp only [Act.put]
   try simp only [puts]
   refine wpTx_take (v := ?vA6) rfl (by kernel_rfl) ?qA6 rfl hS0 ?yA6 ?rA6
   case yA6 => intro wS h; clear h; go_simp; try rfl
   case qA6 => exact fun _ _ _ h => h
   dsimp only [Act.put]
   try simp only [puts]
   refine wpTx_step (o := ?oA7) (rest := ?rsA7) ?hoA7 ?hrA7 ?stA7
   case hoA7 => rfl
   case hrA7 => kernel_rfl
   case' stA7 =>
   intro KS hKS
   go_simp
   have h1 : ∀ h, (⟨a.toArray⟩ : ByteArray)[k]'h = a.getD k 0 := fun h => by
    rw [getD_lt a _ hlt]
    exact lget a _ hlt _
   have h2 : ∀ h, (⟨b.toArray⟩ : ByteArray)[k]'h = b.getD k 0 := fun h => by
    rw [getD_lt b _ hltb]
    exact lget b _ hltb _
   simp only [h1, h2]
   have hA : okT cs.length (a.getD k 0) = true := by rw [getD_lt a _ hlt]; exact ha _ (List.getElem_mem _)
   have hB : okT cs.length (b.getD k 0) = true := by rw [getD_lt b _ hltb]; exact hb _ (List.getElem_mem _)
   have HNX : Hid (bothT cs (a.take (k + 1)) (b.take (k + 1)) = t ++ [joinT cs (a.getD k 0) (b.getD k 0)]) := by
    show _ = _
    rw [bothT_snoc hlt hltb, HA.out]
   clear h1 h2 hltb hkb
   generalize a.getD k 0 = A at *
   generalize b.getD k 0 = B at *
   refine (join_any bi cs A B _ ((hI.but hBr).but hS0) hw hn hA hB).mono ?_
   rintro en wx ⟨rfl, hwx⟩
   rw [hwx]
   clear hwx wx
   refine hKS.out _ _ (fun _ => hS0) ?_
   clear hKS KS
   refine wpTx_step (o := ?oA8) (rest := ?rsA8) ?hoA8 ?hrA8 ?stA8
   case hoA8 => rfl
   case hrA8 => kernel_rfl
   case' stA8 =>
   intro KS hKS
   go_simp
   refine hKS.out _ _ (fun h => absurd h (by decide)) ?_
   clear hKS KS
   refine wpTx_done rfl (by kernel_rfl) ?_
   generalize joinT cs A B = J at *
   have hcv := conv1 J
   have hsz : (⟨t.toArray⟩ : ByteArray).size + (⟨#[J]⟩ : ByteArray).size ≤ 200000 := by show t.toArray.size + 1 ≤ 200000; simp; omega
   have hBd : But (fun _ => False) w wr.drew := hBr.trans hS0
   generalize wr.drew = wd at *
   go_wp2_with fail
   go_roundg (a.length - (k + 1))
   case measure => omega
   case rel => exact ⟨k + 1, t ++ [J], congrArg Value.string (bytes_snoc _ _), by simp; omega, by simp, by omega, by omega, by omega, hBd.trans (But.alloc _ _ _), HNX⟩
  ·have hres : t = R := by
    rw [← HRR.out, ← HA.out, List.take_of_length_le (by omega), List.take_of_length_le (by have := HL.out; omega)]
   subst hres
   go_wp2_with fail
   go_ret
   exact ⟨rfl, hBr⟩
set_option maxHeartbeats 800000 in
set_option maxRecDepth 100000 in
theorem loose_any (x : Ins) (st : List UInt8) (w : World) (hl1 : st.length ≤ 100000) :
  Calls Tryz.prog 135 #[.agg #[.int .u8 x.op.toNat, .int .i64 x.a, .int .i64 x.b, .int .i64 x.pos], .string ⟨st.toArray⟩] w fun en w' => en = .returned (.int .i64 (optI (looseT x.op.toNat st))) ∧ But (fun _ => False) w w' := by
 obtain ⟨R, hRR⟩ : ∃ R, looseT x.op.toNat st = R := ⟨_, rfl⟩
 rw [hRR]
 unfold looseT at hRR
 by_cases h101 : x.op.toNat = 101
 ·rw [if_pos h101] at hRR
  have t1 : ((x.op.toNat : Int) == 101) = true := by rw [beq_iff_eq]; omega
  clear h101
  by_cases h2 : (st.length : Int) < 2
  ·rw [if_pos (Or.inl (by omega))] at hRR
   subst hRR
   go_enter Tryz.func135, Tryz.ntmps135
   go_wp2_with fail
   go_ret
   exact ⟨rfl, But.alloc _ _ _⟩
  ·have h1' : st.length - 1 < st.length := by omega
   have h2' : st.length - 2 < st.length := by omega
   have g1 : ∀ h, (⟨st.toArray⟩ : ByteArray)[st.length - 1]'h = st.getD (st.length - 1) 0 := fun h => by rw [getD_lt st _ h1']; exact lget st _ h1' _
   have g2 : ∀ h, (⟨st.toArray⟩ : ByteArray)[st.length - 2]'h = st.getD (st.length - 2) 0 := fun h => by rw [getD_lt st _ h2']; exact lget st _ h2' _
   rw [getD_lt st _ h1', getD_lt st _ h2'] at hRR
   obtain ⟨P, hP⟩ : ∃ P, st[st.length - 1]'h1' = P := ⟨_, rfl⟩
   obtain ⟨Q, hQ⟩ : ∃ Q, st[st.length - 2]'h2' = Q := ⟨_, rfl⟩
   rw [hP, hQ] at hRR
   have HP : Hid (st[st.length - 1]'h1' = P) := hP
   have HQ : Hid (st[st.length - 2]'h2' = Q) := hQ
   have hlen : ¬ st.length < 2 := by omega
   clear hP hQ
   have k1 : ∀ h, (⟨st.toArray⟩ : ByteArray)[st.length - 1]'h = P := fun h => (lget st _ h1' _).trans HP.out
   have k2 : ∀ h, (⟨st.toArray⟩ : ByteArray)[st.length - 2]'h = Q := fun h => (lget st _ h2' _).trans HQ.out
   clear g1 g2
   go_enter Tryz.func135, Tryz.ntmps135
   go_wp2_with fail
   refine (isRef_any P _).mono ?_
   cases hp : isR P with
   | false =>
    rw [if_pos (Or.inr (Or.inl hp))] at hRR
    subst hRR
    rintro en wx ⟨rfl, hwx⟩
    rw [hwx]
    clear hwx wx hp
    go_wp2_with fail
    go_ret
    exact ⟨rfl, But.alloc _ _ _⟩
   | true =>
    rintro en wx ⟨rfl, hwx⟩
    rw [hwx]
    clear hwx wx
    go_wp2_with fail
    refine (isRef_any Q _).mono ?_
    cases hq : isR Q with
    | false =>
     rw [if_pos (Or.inr (Or.inr hq))] at hRR
     subst hRR
     rintro en wx ⟨rfl, hwx⟩
     rw [hwx]
     clear hwx wx hp hq
     go_wp2_with fail
     go_ret
     exact ⟨rfl, But.alloc _ _ _⟩
    | true =>
     rw [if_neg (by rw [hp, hq]; simp; omega)] at hRR
     subst hRR
     rintro en wx ⟨rfl, hwx⟩
     rw [hwx]
     clear hwx wx hp hq
     go_wp2_with fail
     go_ret
     exact ⟨rfl, But.alloc _ _ _⟩
 ·rw [if_neg h101] at hRR
  have t1 : ((x.op.toNat : Int) == 101) = false := by rw [beq_eq_false_iff_ne]; omega
  clear h101
  by_cases h1 : (st.length : Int) < 1
  ·rw [if_pos (Or.inl (by omega))] at hRR
   subst hRR
   go_enter Tryz.func135, Tryz.ntmps135
   go_wp2_with fail
   go_ret
   exact ⟨rfl, But.alloc _ _ _⟩
  ·have h1' : st.length - 1 < st.length := by omega
   by_cases h120 : x.op.toNat = 120
   ·have t2 : ((x.op.toNat : Int) == 120) = true := by rw [beq_iff_eq]; omega
    rw [getD_lt st _ h1'] at hRR
    obtain ⟨P, hP⟩ : ∃ P, st[st.length - 1]'h1' = P := ⟨_, rfl⟩
    rw [hP] at hRR
    have HP : Hid (st[st.length - 1]'h1' = P) := hP
    clear hP
    have k1 : ∀ h, (⟨st.toArray⟩ : ByteArray)[st.length - 1]'h = P := fun h => (lget st _ h1' _).trans HP.out
    have H120 : Hid (x.op.toNat = 120) := h120
    clear h120
    go_enter Tryz.func135, Tryz.ntmps135
    go_wp2_with fail
    refine (isRef_any P _).mono ?_
    cases hp : isR P with
    | false =>
     rw [if_pos (Or.inr ⟨H120.out, hp⟩)] at hRR
     subst hRR
     rintro en wx ⟨rfl, hwx⟩
     rw [hwx]
     clear hwx wx hp
     go_wp2_with fail
     go_ret
     exact ⟨rfl, But.alloc _ _ _⟩
    | true =>
     rw [if_neg (fun h => by
      rcases h with h | ⟨_, h⟩
      ·omega
      ·rw [hp] at h; cases h)] at hRR
     subst hRR
     rintro en wx ⟨rfl, hwx⟩
     rw [hwx]
     clear hwx wx hp
     go_wp2_with fail
     go_ret
     exact ⟨rfl, But.alloc _ _ _⟩
   ·have t2 : ((x.op.toNat : Int) == 120) = false := by rw [beq_eq_false_iff_ne]; omega
    rw [if_neg (by omega)] at hRR
    subst hRR
    clear h120
    go_enter Tryz.func135, Tryz.ntmps135
    go_wp2_with fail
    go_ret
    exact ⟨rfl, But.alloc _ _ _⟩
end Go.Proofs.YtpfkkmacakjmbaaGreatDoor
