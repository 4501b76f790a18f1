import Derived.Test.YtpfkkmacakjmbaaGreatDoorP08
import Derived.Test.YtpfkkmacakjmbaaGreatDoorP04
set_option maxRecDepth 100000
set_option maxHeartbeats 6400000
namespace Go.Proofs.YtpfkkmacakjmbaaGreatDoor
open Go Go.RowKit Sp
set_option linter.unusedSimpArgs false
set_option linter.unusedVariables false
def ImgH (w : World) (bi : Nat) (im : Img) : Prop :=
 ∃ v0 v1 v2 l, ImB w bi v0 v1 v2 ∧ w.ownsRow 0 203 2 v0 im.classes.length (clsCells im.classes) ∧ w.ownsRow 0 129 2 v1 im.sigs.length (sigCells im.sigs) ∧
  w.ownsRow 0 52 5 v2 l.length (bodCells l) ∧ l.map (·.1) = im.bodies
theorem ImgAt.hds {w : World} {bi : Nat} {im : Img} (h : ImgAt w bi im) : ImgH w bi im := by
 obtain ⟨v0, v1, v2, l, hI, h0, h1, h2, hl, _⟩ := h
 exact ⟨v0, v1, v2, l, hI, h0, h1, h2, hl⟩
theorem find_any (bi : Nat) (im : Img) (x m : Int) (w : World) (hI : ImgH w bi im) (hw : WfC im.classes) (hn : im.classes.length ≤ 4) (hbl : im.bodies.length ≤ 7) (hx0 : -1 ≤ x) (hx : x < im.classes.length) :
  Calls Tryz.prog 81 #[.pointer (some ⟨bi, 0, none⟩), .int .i64 x, .int .i64 m] w fun en w' => en = .returned (.int .i64 (findF im.classes im.bodies m 5 x)) ∧ w' = w := by
 obtain ⟨R, hRR⟩ : ∃ R, findF im.classes im.bodies m 5 x = R := ⟨_, rfl⟩
 rw [hRR]
 have HRR : Hid (findF im.classes im.bodies m 5 x = R) := hRR
 clear hRR
 obtain ⟨v0, v1, v2, l, hIm, hC, hS, hB, hl⟩ := hI
 obtain ⟨cs, gs, bs⟩ := im
 simp only at *
 subst hl
 have hll : l.length ≤ 100 := by simp at hbl; omega
 obtain ⟨a0, cap0, rfl⟩ := owns_len hC
 have d0 := hIm.c0
 go_enter Tryz.func81, Tryz.ntmps81
 go_wp2_with fail
 go_loopg [1, 7] 5 (fun mm xs ks wr => ∃ (xv : Int) (kn : Nat), xs = .int .i64 xv ∧ ks = .int .i64 kn ∧ kn ≤ 5 ∧ 5 ≤ kn + mm ∧ kn + mm ≤ 5 ∧ wr = w ∧ -1 ≤ xv ∧ xv < cs.length ∧ Hid (findF cs (l.map (·.1)) m mm xv = R))
 case atStart => exact ⟨x, 0, rfl, rfl, by omega, by omega, by omega, rfl, hx0, hx, HRR⟩
 case round =>
  obtain ⟨xv, kn, rfl, rfl, hk5, hkm1, hkm2, hwr, hx0', hx', HF⟩ := hrel
  subst hwr
  by_cases hxn : 0 ≤ xv
  ·cases gk with
   | zero =>
    have hres : R = -1 := by rw [← HF.out]; rfl
    subst hres
    have hk4 : ¬ (kn : Int) ≤ 4 := by omega
    go_wp2_with fail
    go_ret
    exact ⟨rfl, rfl⟩
   | succ f =>
    have hk4 : (kn : Int) ≤ 4 := by omega
    go_wp2_with fail
    refine (own_any 0 bi _ _ _ l xv m _ hll hIm hB).mono ?_
    rintro en wx ⟨rfl, hwx⟩
    rw [hwx]
    clear hwx wx
    have hstep : R = if 0 ≤ ownI (l.map (·.1)) xv m then ownI (l.map (·.1)) xv m else findF cs (l.map (·.1)) m f (parOf cs xv) := by
     rw [← HF.out, findF, if_neg (by omega)]
    have HST : Hid (R = if 0 ≤ ownI (l.map (·.1)) xv m then ownI (l.map (·.1)) xv m else findF cs (l.map (·.1)) m f (parOf cs xv)) := hstep
    clear hstep
    obtain ⟨oi, hoi⟩ : ∃ oi, ownI (l.map (·.1)) xv m = oi := ⟨_, rfl⟩
    rw [hoi] at HST ⊢
    clear hoi
    by_cases ho : 0 ≤ oi
    ·have hres : R = oi := by rw [HST.out, if_pos ho]
     subst hres
     go_wp2_with fail
     go_ret
     exact ⟨rfl, rfl⟩
    ·have HN : Hid (findF cs (l.map (·.1)) m f (parOf cs xv) = R) := by show _ = _; rw [HST.out, if_neg ho]
     obtain ⟨n, hnx⟩ := Int.eq_ofNat_of_zero_le hxn
     have hnl : n < cs.length := by omega
     have hgl := List.getElem?_eq_getElem hnl
     obtain ⟨g, rfl, hg1, hg2, hcell⟩ := owns_two hC (by omega)
     have hc0 := hcell _ _ (clsCells_at0 hgl)
     have hpr := parOf_range hw hx' hxn
     have hpo : parOf cs xv = cs[n].par := by unfold parOf; rw [hnx, Int.toNat_natCast, hgl]; rfl
     rw [hpo] at HN hpr
     have hc0' : wr.cell? ⟨g, xv.toNat * 2, none⟩ = some (.int .i64 cs[n].par) := by rw [hnx, Int.toNat_natCast]; exact hc0
     obtain ⟨pp, hpp⟩ : ∃ pp, cs[n].par = pp := ⟨_, rfl⟩
     rw [hpp] at HN hpr hc0'
     clear hcell hc0 hgl hpo hpp hnx
     go_wp2_with fail
     go_roundg f
     case measure => omega
     case rel => exact ⟨pp, kn + 1, rfl, by simp, by omega, by omega, by omega, rfl, hpr.1, hpr.2, HN⟩
  ·have hres : R = -1 := by
    rw [← HF.out]
    cases gk with
    | zero => rfl
    | succ f => rw [findF, if_pos (by omega)]
   subst hres
   by_cases hk4 : (kn : Int) ≤ 4
   ·go_wp2_with fail
    go_ret
    exact ⟨rfl, rfl⟩
   ·go_wp2_with fail
    go_ret
    exact ⟨rfl, rfl⟩
def optI (o : Option Nat) : Int := match o with
 | some p => p
 | none => -1
theorem unl_at {cs : List Cls} {bs : List Bod} {c : List Ins} {k : Nat} (hk : k < c.length) (h : broken cs bs c.length c[k] = true) (hno : ∀ j (hj : j < c.length), j < k → broken cs bs c.length c[j] = false) : unl cs bs c = some c[k].pos := by
 unfold unl
 have : c.find? (broken cs bs c.length) = some c[k] := by
  rw [List.find?_eq_some_iff_getElem]
  exact ⟨h, k, hk, rfl, fun j hj => by rw [hno j (by omega) hj]; rfl⟩
 rw [this]
 rfl
theorem unl_none {cs : List Cls} {bs : List Bod} {c : List Ins} (hno : ∀ j (hj : j < c.length), broken cs bs c.length c[j] = false) : unl cs bs c = none := by
 unfold unl
 have : c.find? (broken cs bs c.length) = none := by
  rw [List.find?_eq_none]
  intro x hx
  obtain ⟨j, hj, rfl⟩ := List.getElem_of_mem hx
  rw [hno j hj]; decide
 rw [this]
 rfl
def linkV (R : Except (Nat × Nat) Img) (bi : Nat) : Value := match R with
 | .error (e, p) => .tuple #[.pointer none, .int .i64 e, .int .i64 p]
 | .ok _ => .tuple #[.pointer (some ⟨bi, 0, none⟩), .int .i64 0, .int .i64 0]
theorem findSome_at {α : Type} {f : α → Option Nat} : ∀ {l : List α} {k : Nat} {p : Nat} (hk : k < l.length), f l[k] = some p → (∀ j (hj : j < l.length), j < k → f l[j] = none) → l.findSome? f = some p := by
 intro l
 induction l with
 | nil => intro k p hk; simp at hk
 | cons x l ih =>
  intro k p hk h hno
  cases k with
  | zero => simp at h; simp [List.findSome?_cons, h]
  | succ k =>
   have h0 := hno 0 (by simp) (by omega)
   simp at h0 h
   rw [List.findSome?_cons, h0]
   exact ih (by simpa using hk) h (fun j hj hjk => by
    have := hno (j + 1) (by simpa using hj) (by omega)
    rwa [List.getElem_cons_succ] at this)
theorem ImgS.hds {w : World} {bi : Nat} {im : Img} (h : ImgS w bi im) : ImgH w bi im := by
 obtain ⟨v0, v1, v2, l, hI, h0, h1, h2, hl, _⟩ := h
 exact ⟨v0, v1, v2, l, hI, h0, h1, h2, hl⟩
theorem unlinkedS_any (bi : Nat) (im : Img) (bd : Bod) (vk : Value) (w : World) (hI : ImgS w bi im) (hW : WfIS im) (hbd : WfBS im.classes im.sigs bd) (hO : w.ownsRow 0 147 5 vk bd.code.length (ndCells (endsN 0 bd.code))) :
  Calls Tryz.prog 53 #[.pointer (some ⟨bi, 0, none⟩), .agg #[.int .i64 bd.cls, .int .i64 bd.meth, .string ⟨bd.locals.toArray⟩, .slice none 0 0, vk]] w fun en w' => en = .returned (.int .i64 (optI (unl im.classes im.bodies bd.code))) ∧ But (fun _ => False) w w' := by
 obtain ⟨R, hRR⟩ : ∃ R, unl im.classes im.bodies bd.code = R := ⟨_, rfl⟩
 rw [hRR]
 have HRR : Hid (unl im.classes im.bodies bd.code = R) := hRR
 clear hRR
 obtain ⟨ak, capk, rfl⟩ := owns_len hO
 obtain ⟨n, hn⟩ : ∃ n, bd.code.length = n := ⟨_, rfl⟩
 rw [hn] at hO ⊢
 have HN : Hid (bd.code.length = n) := hn
 have hlen := hbd.len
 rw [hn] at hlen
 clear hn
 go_enter Tryz.func53, Tryz.ntmps53
 go_wp2_with fail
 have hB0 : But (fun _ => False) w (w.alloc (.cells #[.int .i64 bd.cls, .int .i64 bd.meth, .string ⟨bd.locals.toArray⟩, .slice none 0 0, .slice ak n capk] 52)) := But.alloc _ _ _
 have hg0 : (w.alloc (.cells #[.int .i64 bd.cls, .int .i64 bd.meth, .string ⟨bd.locals.toArray⟩, .slice none 0 0, .slice ak n capk] 52)).heap[w.heap.size]? = some (.cells #[.int .i64 bd.cls, .int .i64 bd.meth, .string ⟨bd.locals.toArray⟩, .slice none 0 0, .slice ak n capk] 52) := heap_alloc_new _ _
 generalize (w.alloc (.cells #[.int .i64 bd.cls, .int .i64 bd.meth, .string ⟨bd.locals.toArray⟩, .slice none 0 0, .slice ak n capk] 52)) = w0 at *
 go_loopg [5] 0 (fun mm ks wr => ks = .int .i64 0 ∧ wr = w0)
 case atStart => exact ⟨rfl, rfl⟩
 case round =>
  obtain ⟨rfl, hwr⟩ := hrel
  rw [hwr]
  clear hwr
  have g3 : w0.cell? ⟨w.heap.size, 3, none⟩ = some (.slice none 0 0) := by rw [cell_of_row w0 _ 3 _ _ (0, 0) hg0]; rfl
  go_wp2_with fail
  clear g3
  go_loopg [8] n (fun mm ks wq => ∃ (k : Nat), ks = .int .i64 k ∧ k ≤ n ∧ k + mm ≤ n ∧ n ≤ k + mm ∧ But (fun _ => False) w0 wq ∧ Hid (∀ j (hj : j < bd.code.length), j < k → broken im.classes im.bodies bd.code.length bd.code[j] = false))
  case atStart => exact ⟨0, rfl, by omega, by omega, by omega, But.refl _ _, fun j hj h => absurd h (by omega)⟩
  case round =>
   obtain ⟨k, rfl, hk1, hk2, hk3, hB, HA⟩ := hrel
   have hgr : wr.heap[w.heap.size]? = some (.cells #[.int .i64 bd.cls, .int .i64 bd.meth, .string ⟨bd.locals.toArray⟩, .slice none 0 0, .slice ak n capk] 52) := (hB.block _ (lt_of_block hg0) (fun h => h)).trans hg0
   have g4 : wr.cell? ⟨w.heap.size, 4, none⟩ = some (.slice ak n capk) := by rw [cell_of_row wr _ 4 _ _ (0, 0) hgr]; rfl
   have hBw : But (fun _ => False) w wr := hB0.trans hB
   have hgl := lt_of_block hgr
   by_cases hlt : k < n
   ·have hlt' : k < bd.code.length := by rw [HN.out]; exact hlt
    obtain ⟨X, hX⟩ : ∃ X, bd.code[k] = X := ⟨_, rfl⟩
    obtain ⟨e, hx⟩ : ∃ e, (endsN 0 bd.code)[k]? = some (X, e) := by
     have hl' : k < (endsN 0 bd.code).length := by rw [endsN_len]; exact hlt'
     refine ⟨((endsN 0 bd.code)[k]).2, ?_⟩
     rw [List.getElem?_eq_getElem hl']
     have h1 : ((endsN 0 bd.code).map (·.1))[k]? = bd.code[k]? := by rw [endsN_fst]
     rw [List.getElem?_map, List.getElem?_eq_getElem hl', List.getElem?_eq_getElem hlt', hX] at h1
     have h2 : ((endsN 0 bd.code)[k]).1 = X := Option.some.inj h1
     rw [← h2]
    have hOr := owns_but hO hBw (fun _ _ h => h)
    obtain ⟨g, rfl, hg1, hg2, hcell⟩ := owns_two hOr (by omega)
    have q0 : wr.cell? ⟨g, k * 5, none⟩ = some (.int .u8 X.op.toNat) := hcell _ _ (ndCells_at (k := 0) hx (by omega))
    have q1 : wr.cell? ⟨g, k * 5 + 1, none⟩ = some (.int .i64 X.a) := hcell _ _ (ndCells_at (k := 1) hx (by omega))
    have q2 : wr.cell? ⟨g, k * 5 + 2, none⟩ = some (.int .i64 X.b) := hcell _ _ (ndCells_at (k := 2) hx (by omega))
    have q3 : wr.cell? ⟨g, k * 5 + 3, none⟩ = some (.int .i64 X.pos) := hcell _ _ (ndCells_at (k := 3) hx (by omega))
    have q4 : wr.cell? ⟨g, k * 5 + 4, none⟩ = some (.int .i64 e) := hcell _ _ (ndCells_at (k := 4) hx (by omega))
    have hwx : WfN im.classes im.sigs.length bd.locals.length bd.code[k] := hbd.code _ (List.getElem_mem hlt')
    have HBK : Hid (broken im.classes im.bodies bd.code.length X = true → R = some X.pos) := fun h => by
     subst hX
     rw [← HRR.out]
     exact unl_at hlt' h HA.out
    have HNX : Hid (broken im.classes im.bodies bd.code.length X = false → ∀ j (hj : j < bd.code.length), j < k + 1 → broken im.classes im.bodies bd.code.length bd.code[j] = false) := fun h j hj hjk => by
     subst hX
     rcases Nat.lt_or_ge j k with h' | h'
     ·exact HA.out j hj h'
     ·have : j = k := by omega
      subst this
      exact h
    rw [hX] at hwx
    clear hcell hx hX
    have hkn : (k : Int) < (n : Int) := by omega
    by_cases h99 : X.op.toNat = 99
    ·have t1 : ((X.op.toNat : Int) == 99) = true := by rw [beq_iff_eq]; omega
     have hxa : X.a < im.classes.length := hwx.cls (by omega)
     have H99 : Hid (X.op.toNat = 99) := h99
     clear h99
     go_wp2_with fail
     refine (find_any bi im _ _ _ ((hI.but hBw).but (But.alloc _ _ _)).hds hW.cls hW.nc hW.nb (by omega) (by omega)).mono ?_
     rintro en wx ⟨rfl, hwx'⟩
     rw [hwx']
     clear hwx' wx
     obtain ⟨fr, hfr⟩ : ∃ fr, findF im.classes im.bodies (X.b : Int) 5 (X.a : Int) = fr := ⟨_, rfl⟩
     rw [hfr]
     have HFR : Hid (findF im.classes im.bodies (X.b : Int) 5 (X.a : Int) = fr) := hfr
     clear hfr
     by_cases hf0 : fr < 0
     ·have hres : R = some X.pos := HBK.out (by simp [broken, H99.out, HFR.out, hf0])
      subst hres
      go_wp2_with fail
      go_ret
      exact ⟨rfl, hBw.trans (But.alloc _ _ _)⟩
     ·have hnb : Hid (broken im.classes im.bodies bd.code.length X = false) := by show _ = _; simp [broken, H99.out, HFR.out]; omega
      go_wp2_with fail
      go_roundg (n - (k + 1))
      case measure => omega
      case rel => exact ⟨k + 1, by simp, by omega, by omega, by omega, hB.trans (But.alloc _ _ _), HNX.out hnb.out⟩
    ·have t1 : ((X.op.toNat : Int) == 99) = false := by rw [beq_eq_false_iff_ne]; omega
     have hnb : Hid (broken im.classes im.bodies bd.code.length X = false) := by
      show _ = _
      have hop := hwx.op
      have h1 : X.op.toNat ≠ 106 := fun h => by rw [h] at hop; exact absurd hop (by decide)
      have h2 : X.op.toNat ≠ 102 := fun h => by rw [h] at hop; exact absurd hop (by decide)
      simp [broken, h99, h1, h2]
     have HH : Hid (∀ j (hj : j < bd.code.length), j < k + 1 → broken im.classes im.bodies bd.code.length bd.code[j] = false) := HNX.out hnb.out
     clear h99
     go_wp2_with fail
     go_roundg (n - (k + 1))
     case measure => omega
     case rel => exact ⟨k + 1, by simp, by omega, by omega, by omega, hB.trans (But.alloc _ _ _), HH⟩
   ·have hres : R = none := by
     rw [← HRR.out]
     exact unl_none (fun j hj => HA.out j hj (by rw [HN.out] at hj; omega))
    subst hres
    go_wp2_with fail
    go_ret
    exact ⟨rfl, hBw⟩
def LinkPostS (R : Except (Nat × Nat) Img) (bi : Nat) (w' : World) : Prop := match R with
 | .ok im => ImgS w' bi im ∧ WfIS im
 | .error _ => True
theorem linkedS_any (s : ByteArray) (w : World) (hmax : s.size ≤ maxLen) :
  Calls Tryz.prog 28 #[.string s, .bool true] w fun en w' => en = .returned (linkV (linkS s) w.heap.size) ∧ But (fun _ => False) w w' ∧ LinkPostS (linkS s) w.heap.size w' := by
 obtain ⟨R, hRR⟩ : ∃ R, linkS s = R := ⟨_, rfl⟩
 rw [hRR]
 unfold maxLen at hmax
 by_cases hbig : 400 < s.size
 ·have hres : R = .error (1, 0) := by rw [← hRR, linkS, if_pos hbig]
  subst hres
  have hb : (400 : Int) < (s.size : Int) := by omega
  clear hRR
  go_enter Tryz.func28, Tryz.ntmps28
  go_wp2_with fail
  go_ret3
  exact ⟨rfl, But.refl _ _, trivial⟩
 have hs : s.size ≤ 400 := by omega
 have hb : ¬ (400 : Int) < (s.size : Int) := by omega
 have HRR : Hid (linkS s = R) := hRR
 clear hRR hbig
 go_enter Tryz.func28, Tryz.ntmps28
 go_wp2_with fail
 refine (readS_any s w (by omega)).mono ?_
 rintro en w1 ⟨rfl, hB1, hp⟩
 cases hread : readS s with
 | error j =>
  have hres : R = .error (2, j) := by rw [← HRR.out, linkS, if_neg (by omega), hread]
  subst hres
  simp only [readI]
  have hj0 : (0 : Int) ≤ (j : Int) := by omega
  clear hp HRR hread
  go_wp2_with fail
  go_ret3
  exact ⟨rfl, hB1, trivial⟩
 | ok im =>
  rw [hread] at hp
  have hW := readS_wf (by omega) hread
  simp only [readI]
  have hI : ImgS w1 w.heap.size im := hp
  have HRD : Hid (readS s = .ok im) := hread
  clear hread hp
  obtain ⟨v0, v1, v2, l, hIm, hC, hS, hB, hl, hcd⟩ := hI
  have hI : ImgS w1 w.heap.size im := ⟨v0, v1, v2, l, hIm, hC, hS, hB, hl, hcd⟩
  obtain ⟨a2, cap2, rfl⟩ := owns_len hB
  have hll : l.length ≤ 7 := by have := hW.nb; rw [← hl] at this; simpa using this
  have HL : Hid (l.map (·.1) = im.bodies) := hl
  clear hl
  go_wp2_with fail
  go_loopg [9] l.length (fun mm ks wr => ∃ (k : Nat), ks = .int .i64 k ∧ k ≤ l.length ∧ k + mm ≤ l.length ∧ l.length ≤ k + mm ∧ But (fun _ => False) w1 wr ∧ Hid (∀ j (hj : j < l.length), j < k → unl im.classes im.bodies l[j].1.code = none))
  case atStart => exact ⟨0, rfl, by omega, by omega, by omega, But.refl _ _, fun j hj h => absurd h (by omega)⟩
  case round =>
   obtain ⟨k, rfl, hk1, hk2, hk3, hBr, HA⟩ := hrel
   have d2 := (hIm.but hBr (fun h => h)).c2
   by_cases hlt : k < l.length
   ·have hx := List.getElem?_eq_getElem hlt
    obtain ⟨g, rfl, hg1, hg2, hcell⟩ := owns_two (owns_but hB hBr (fun _ _ h => h)) (by omega)
    have q0 := hcell _ _ (bodCells_at0 hx)
    have q1 := hcell _ _ (bodCells_at1 hx)
    have q2 := hcell _ _ (bodCells_at2 hx)
    have q3 := hcell _ _ (bodCells_at3 hx)
    have q4 := hcell _ _ (bodCells_at4 hx)
    have hmem : l[k] ∈ l := List.getElem_mem hlt
    obtain ⟨hok, htr⟩ := hcd _ hmem
    have hwb : WfBS im.classes im.sigs l[k].1 := hW.bod _ (by rw [← HL.out]; exact List.mem_map_of_mem hmem)
    have HBR : Hid (∀ p, unl im.classes im.bodies l[k].1.code = some p → R = .error (3, p)) := fun p hp => by
     rw [← HRR.out, linkS, if_neg (by omega), HRD.out]
     simp only
     rw [show im.bodies.findSome? (fun b => unl im.classes im.bodies b.code) = some p from ?_]
     rw [← HL.out, List.findSome?_map]
     rw [HL.out]
     exact findSome_at hlt hp HA.out
    have HNX : Hid (unl im.classes im.bodies l[k].1.code = none → ∀ j (hj : j < l.length), j < k + 1 → unl im.classes im.bodies l[j].1.code = none) := fun h j hj hjk => by
     rcases Nat.lt_or_ge j k with h' | h'
     ·exact HA.out j hj h'
     ·have : j = k := by omega
      subst this
      exact h
    obtain ⟨X, hX⟩ : ∃ X, l[k] = X := ⟨_, rfl⟩
    rw [hX] at q0 q1 q2 q3 q4 hok htr hwb HBR HNX
    rw [htr] at q3
    obtain ⟨Xb, Xk, Xt⟩ := X
    simp only at q0 q1 q2 q3 q4 hok hwb HBR HNX
    obtain ⟨ak, capk, rfl⟩ := owns_len hok
    clear hcell hx hX hmem htr
    have hkn : (k : Int) < (l.length : Int) := by omega
    go_wp2_with fail
    refine (unlinkedS_any w.heap.size im Xb _ _ (hI.but hBr) hW hwb (owns_but hok hBr (fun _ _ h => h))).mono ?_
    rintro en w2 ⟨rfl, hB2⟩
    cases hu : unl im.classes im.bodies Xb.code with
    | some p =>
     have hres : R = .error (3, p) := HBR.out p hu
     subst hres
     simp only [optI]
     have hp0 : (0 : Int) ≤ (p : Int) := by omega
     clear hu q0 q1 q2 q3 q4 d2
     go_wp2_with fail
     go_ret3
     exact ⟨rfl, (hB1.trans hBr).trans hB2, trivial⟩
    | none =>
     simp only [optI]
     have HH := HNX.out hu
     have HH' : Hid (∀ j (hj : j < l.length), j < k + 1 → unl im.classes im.bodies l[j].1.code = none) := HH
     clear hu HH q0 q1 q2 q3 q4 d2
     go_wp2_with fail
     go_roundg (l.length - (k + 1))
     case measure => omega
     case rel => exact ⟨k + 1, by simp, by omega, by omega, by omega, hBr.trans hB2, HH'⟩
   ·have hres : R = .ok im := by
     rw [← HRR.out, linkS, if_neg (by omega), HRD.out]
     simp only
     rw [show im.bodies.findSome? (fun b => unl im.classes im.bodies b.code) = none from ?_]
     rw [List.findSome?_eq_none_iff]
     intro b hb
     rw [← HL.out] at hb
     obtain ⟨x, hx, rfl⟩ := List.mem_map.1 hb
     obtain ⟨j, hj, rfl⟩ := List.getElem_of_mem hx
     exact HA.out j hj (by omega)
    subst hres
    go_wp2_with fail
    go_ret3
    exact ⟨rfl, hB1.trans hBr, hI.but hBr, hW⟩
def ClsAt (w : World) (bi : Nat) (cs : List Cls) : Prop :=
 ∃ v0 v1 v2, ImB w bi v0 v1 v2 ∧ w.ownsRow 0 203 2 v0 cs.length (clsCells cs)
theorem ImgAt.cls {w : World} {bi : Nat} {im : Img} (h : ImgAt w bi im) : ClsAt w bi im.classes := by
 obtain ⟨v0, v1, v2, l, hI, h0, _⟩ := h
 exact ⟨v0, v1, v2, hI, h0⟩
theorem ClsAt.but {w w' : World} {bi : Nat} {cs : List Cls} (h : ClsAt w bi cs) (hb : But (fun _ => False) w w') : ClsAt w' bi cs := by
 obtain ⟨v0, v1, v2, hI, h0⟩ := h
 exact ⟨v0, v1, v2, hI.but hb (fun h => h), owns_but h0 hb (fun _ _ h => h)⟩
theorem ClsAt.par {w : World} {bi : Nat} {cs : List Cls} (h : ClsAt w bi cs) (hw : WfC cs) {x : Int} (h0 : 0 ≤ x) (hx : x < cs.length) :
  ∃ (g n cap : Nat) (p : Int), w.cell? ⟨bi, 0, none⟩ = some (.slice (some ⟨g, 0, none⟩) n cap) ∧ x < (n : Int) ∧ w.cell? ⟨g, x.toNat * 2, none⟩ = some (.int .i64 p) ∧ parOf cs x = p ∧ -1 ≤ p ∧ p < cs.length := by
 obtain ⟨v0, v1, v2, hI, hO⟩ := h
 obtain ⟨a0, cap0, rfl⟩ := owns_len hO
 obtain ⟨n, rfl⟩ := Int.eq_ofNat_of_zero_le h0
 have hnl : n < cs.length := by omega
 have hgl := List.getElem?_eq_getElem hnl
 obtain ⟨g, rfl, hg1, hg2, hcell⟩ := owns_two hO (by omega)
 have hpr := parOf_range hw hx h0
 have hpo : parOf cs (n : Int) = cs[n].par := by unfold parOf; rw [Int.toNat_natCast, hgl]; rfl
 refine ⟨g, cs.length, cap0, cs[n].par, hI.c0, by omega, ?_, hpo, ?_, ?_⟩
 ·rw [Int.toNat_natCast]; exact hcell _ _ (clsCells_at0 hgl)
 ·rw [← hpo]; exact hpr.1
 ·rw [← hpo]; exact hpr.2
theorem under_any (bi : Nat) (cs : List Cls) (x y : Int) (w : World) (hI : ClsAt w bi cs) (hw : WfC cs) (hx0 : -1 ≤ x) (hx : x < cs.length) :
  Calls Tryz.prog 122 #[.pointer (some ⟨bi, 0, none⟩), .int .i64 x, .int .i64 y] w fun en w' => en = .returned (.bool (under cs 5 x y)) ∧ w' = w := by
 obtain ⟨R, hRR⟩ : ∃ R, under cs 5 x y = R := ⟨_, rfl⟩
 rw [hRR]
 have HRR : Hid (under cs 5 x y = R) := hRR
 clear hRR
 go_enter Tryz.func122, Tryz.ntmps122
 go_wp2_with fail
 go_loopg [1, 7] 5 (fun mm xs ks wr => ∃ (xv : Int) (kn : Nat), xs = .int .i64 xv ∧ ks = .int .i64 kn ∧ kn ≤ 5 ∧ 5 ≤ kn + mm ∧ kn + mm ≤ 5 ∧ wr = w ∧ -1 ≤ xv ∧ xv < cs.length ∧ Hid (under cs mm xv y = R))
 case atStart => exact ⟨x, 0, rfl, rfl, by omega, by omega, by omega, rfl, hx0, hx, HRR⟩
 case round =>
  obtain ⟨xv, kn, rfl, rfl, hk5, hkm1, hkm2, hwr, hx0', hx', HF⟩ := hrel
  subst hwr
  by_cases hxn : 0 ≤ xv
  ·cases gk with
   | zero =>
    have hres : R = false := by rw [← HF.out]; rfl
    subst hres
    have hk4 : ¬ (kn : Int) ≤ 4 := by omega
    go_wp2_with fail
    go_ret
    exact ⟨rfl, rfl⟩
   | succ f =>
    have hk4 : (kn : Int) ≤ 4 := by omega
    by_cases hxy : xv = y
    ·have hres : R = true := by rw [← HF.out, under, if_neg (by omega), if_pos hxy]
     subst hres
     have hb : (xv == y) = true := by simpa using hxy
     clear hxy HF
     go_wp2_with fail
     go_ret
     exact ⟨rfl, rfl⟩
    ·have HN : Hid (under cs f (parOf cs xv) y = R) := by show _ = _; rw [← HF.out, under, if_neg (by omega), if_neg hxy]
     have hb : (xv == y) = false := by simpa using hxy
     obtain ⟨g, n, cap, p, d0, hn, hc, hpo, hp1, hp2⟩ := hI.par hw hxn hx'
     rw [hpo] at HN
     clear hpo hxy HF
     go_wp2_with fail
     go_roundg f
     case measure => omega
     case rel => exact ⟨p, kn + 1, rfl, by simp, by omega, by omega, by omega, rfl, hp1, hp2, HN⟩
  ·have hres : R = false := by
    rw [← HF.out]
    cases gk with
    | zero => rfl
    | succ f => rw [under, if_pos (by omega)]
   subst hres
   by_cases hk4 : (kn : Int) ≤ 4
   ·go_wp2_with fail
    go_ret
    exact ⟨rfl, rfl⟩
   ·go_wp2_with fail
    go_ret
    exact ⟨rfl, rfl⟩
theorem isClass_any (c : UInt8) (w : World) : Calls Tryz.prog 82 #[.int .u8 c.toNat] w fun en w' => en = .returned (.bool (isC c)) ∧ w' = w := by
 obtain ⟨n, hn⟩ : ∃ n : Nat, c.toNat = n := ⟨_, rfl⟩
 have hb : isC c = (decide (65 ≤ (n : Int)) && decide ((n : Int) ≤ 68)) := by
  unfold isC; rw [hn]; rw [Bool.eq_iff_iff]; simp; omega
 rw [hn, hb]
 clear hb hn
 by_cases h : (65 : Int) ≤ (n : Int)
 ·by_cases h2 : (n : Int) ≤ 68
  ·go_enter Tryz.func82, Tryz.ntmps82
   go_wp2
   go_ret
   exact ⟨by simp [h, h2], rfl⟩
  ·go_enter Tryz.func82, Tryz.ntmps82
   go_wp2
   go_ret
   exact ⟨by simp [h, h2], rfl⟩
 ·go_enter Tryz.func82, Tryz.ntmps82
  go_wp2
  go_ret
  exact ⟨by simp; omega, rfl⟩
theorem isRef_any (c : UInt8) (w : World) : Calls Tryz.prog 119 #[.int .u8 c.toNat] w fun en w' => en = .returned (.bool (isR c)) ∧ w' = w := by
 obtain ⟨r, hr⟩ : ∃ r, isC c = r := ⟨_, rfl⟩
 by_cases h : c.toNat = 122
 ·have hb : ((c.toNat : Int) == 122) = true := by rw [beq_iff_eq]; omega
  have hres : isR c = true := by simp [isR, h]
  rw [hres]
  clear h hres hr
  go_enter Tryz.func119, Tryz.ntmps119
  go_wp2_with fail
  go_ret
  exact ⟨rfl, rfl⟩
 ·have hb : ((c.toNat : Int) == 122) = false := by rw [beq_eq_false_iff_ne]; omega
  have hres : isR c = r := by simp [isR, h, hr]
  rw [hres]
  have HR : Hid (isC c = r) := hr
  clear h hres hr
  go_enter Tryz.func119, Tryz.ntmps119
  go_wp2_with fail
  refine (isClass_any c _).mono ?_
  rw [HR.out]
  rintro en wx ⟨rfl, hwx⟩
  rw [hwx]
  clear hwx wx
  go_wp2_with fail
  go_ret
  exact ⟨rfl, rfl⟩
theorem sub_any (bi : Nat) (cs : List Cls) (a b : UInt8) (w : World) (hI : ClsAt w bi cs) (hw : WfC cs) (hn : cs.length ≤ 4) (ha : okT cs.length a = true) :
  Calls Tryz.prog 73 #[.pointer (some ⟨bi, 0, none⟩), .int .u8 a.toNat, .int .u8 b.toNat] w fun en w' => en = .returned (.bool (subT cs a b)) ∧ w' = w := by
 obtain ⟨R, hRR⟩ : ∃ R, subT cs a b = R := ⟨_, rfl⟩
 rw [hRR]
 unfold subT at hRR
 have hao := okT_iff.1 ha
 by_cases h1 : a.toNat = b.toNat
 ·rw [if_pos (Or.inl h1)] at hRR
  subst hRR
  have hb : ((a.toNat : Int) == (b.toNat : Int)) = true := by rw [beq_iff_eq]; omega
  clear h1 hao
  go_enter Tryz.func73, Tryz.ntmps73
  go_wp2_with fail
  go_ret
  exact ⟨rfl, rfl⟩
 have hb1 : ((a.toNat : Int) == (b.toNat : Int)) = false := by rw [beq_eq_false_iff_ne]; omega
 by_cases h2 : b.toNat = 45
 ·rw [if_pos (Or.inr h2)] at hRR
  subst hRR
  have hb : ((b.toNat : Int) == 45) = true := by rw [beq_iff_eq]; omega
  clear h1 h2 hao
  go_enter Tryz.func73, Tryz.ntmps73
  go_wp2_with fail
  go_ret
  exact ⟨rfl, rfl⟩
 have hb2 : ((b.toNat : Int) == 45) = false := by rw [beq_eq_false_iff_ne]; omega
 rw [if_neg (by omega)] at hRR
 clear h1 h2
 cases hcb : isC b with
 | false =>
  rw [if_pos hcb] at hRR
  subst hRR
  go_enter Tryz.func73, Tryz.ntmps73
  go_wp2_with (go_at_call 82; refine (isClass_any b _).mono ?_; rw [hcb]; rintro en wx ⟨rfl, hwx⟩; rw [hwx]; clear hwx wx)
  go_ret
  exact ⟨rfl, rfl⟩
 | true =>
  rw [if_neg (by rw [hcb]; decide)] at hRR
  by_cases h3 : a.toNat = 122
  ·rw [if_pos h3] at hRR
   subst hRR
   have hb3 : ((a.toNat : Int) == 122) = true := by rw [beq_iff_eq]; omega
   clear h3 hao
   go_enter Tryz.func73, Tryz.ntmps73
   go_wp2_with (go_at_call 82; refine (isClass_any b _).mono ?_; rw [hcb]; rintro en wx ⟨rfl, hwx⟩; rw [hwx]; clear hwx wx)
   go_ret
   exact ⟨rfl, rfl⟩
  ·rw [if_neg h3] at hRR
   have hb3 : ((a.toNat : Int) == 122) = false := by rw [beq_eq_false_iff_ne]; omega
   clear h3
   cases hca : isC a with
   | false =>
    rw [if_pos hca] at hRR
    subst hRR
    clear hao
    go_enter Tryz.func73, Tryz.ntmps73
    go_wp2_with fail
    refine (isClass_any b _).mono ?_
    rw [hcb]
    rintro en wx ⟨rfl, hwx⟩
    rw [hwx]
    clear hwx wx
    go_wp2_with fail
    refine (isClass_any a _).mono ?_
    rw [hca]
    rintro en wx ⟨rfl, hwx⟩
    rw [hwx]
    clear hwx wx
    go_wp2_with fail
    go_ret
    exact ⟨rfl, rfl⟩
   | true =>
    rw [if_neg (by rw [hca]; decide)] at hRR
    have hA := isC_iff.1 hca
    have hB := isC_iff.1 hcb
    have ha1 : (65 : Int) ≤ (a.toNat : Int) := by omega
    have ha2 : (a.toNat : Int) ≤ 68 := by omega
    have hb4 : (65 : Int) ≤ (b.toNat : Int) := by omega
    have hb5 : (b.toNat : Int) ≤ 68 := by omega
    have hal : (a.toNat : Int) - 65 < cs.length := by omega
    have HR : Hid (under cs 5 ((a.toNat : Int) - 65) ((b.toNat : Int) - 65) = R) := hRR
    have HCA : Hid (isC a = true) := hca
    have HCB : Hid (isC b = true) := hcb
    clear hao hA hB hRR hca hcb
    go_enter Tryz.func73, Tryz.ntmps73
    go_wp2_with fail
    refine (isClass_any b _).mono ?_
    rw [HCB.out]
    rintro en wx ⟨rfl, hwx⟩
    rw [hwx]
    clear hwx wx
    go_wp2_with fail
    refine (isClass_any a _).mono ?_
    rw [HCA.out]
    rintro en wx ⟨rfl, hwx⟩
    rw [hwx]
    clear hwx wx
    go_wp2_with fail
    refine (under_any bi cs _ _ _ hI hw (by omega) hal).mono ?_
    rw [HR.out]
    rintro en wx ⟨rfl, hwx⟩
    rw [hwx]
    clear hwx wx
    go_wp2_with fail
    go_ret
    exact ⟨rfl, rfl⟩
theorem join_any (bi : Nat) (cs : List Cls) (a b : UInt8) (w : World) (hI : ClsAt w bi cs) (hw : WfC cs) (hn : cs.length ≤ 4) (ha : okT cs.length a = true) (hb : okT cs.length b = true) :
  Calls Tryz.prog 120 #[.pointer (some ⟨bi, 0, none⟩), .int .u8 a.toNat, .int .u8 b.toNat] w fun en w' => en = .returned (.int .u8 (joinT cs a b).toNat) ∧ w' = w := by
 obtain ⟨R, hRR⟩ : ∃ R, joinT cs a b = R := ⟨_, rfl⟩
 rw [hRR]
 unfold joinT at hRR
 cases h1 : subT cs a b with
 | true =>
  rw [if_pos h1] at hRR
  subst hRR
  have H1 : Hid (subT cs a b = true) := h1
  clear h1
  go_enter Tryz.func120, Tryz.ntmps120
  go_wp2_with fail
  refine (sub_any bi cs a b _ hI hw hn ha).mono ?_
  rw [H1.out]
  rintro en wx ⟨rfl, hwx⟩
  rw [hwx]
  clear hwx wx
  go_wp2_with fail
  go_ret
  exact ⟨rfl, rfl⟩
 | false =>
 rw [if_neg (by rw [h1]; decide)] at hRR
 have H1 : Hid (subT cs a b = false) := h1
 clear h1
 go_enter Tryz.func120, Tryz.ntmps120
 go_wp2_with fail
 refine (sub_any bi cs a b _ hI hw hn ha).mono ?_
 rw [H1.out]
 rintro en wx ⟨rfl, hwx⟩
 rw [hwx]
 clear hwx wx
 go_wp2_with fail
 refine (sub_any bi cs b a _ hI hw hn hb).mono ?_
 cases h2 : subT cs b a with
 | true =>
  rw [if_pos h2] at hRR
  subst hRR
  clear h2
  rintro en wx ⟨rfl, hwx⟩
  rw [hwx]
  clear hwx wx
  go_wp2_with fail
  go_ret
  exact ⟨rfl, rfl⟩
 | false =>
 rw [if_neg (by rw [h2]; decide)] at hRR
 clear h2
 rintro en wx ⟨rfl, hwx⟩
 rw [hwx]
 clear hwx wx
 go_wp2_with fail
 refine (isClass_any a _).mono ?_
 cases hca : isC a with
 | false =>
  rw [if_pos (Or.inl hca)] at hRR
  subst hRR
  clear hca
  rintro en wx ⟨rfl, hwx⟩
  rw [hwx]
  clear hwx wx
  go_wp2_with fail
  go_ret
  exact ⟨rfl, rfl⟩
 | true =>
 rintro en wx ⟨rfl, hwx⟩
 rw [hwx]
 clear hwx wx
 go_wp2_with fail
 refine (isClass_any b _).mono ?_
 cases hcb : isC b with
 | false =>
  rw [if_pos (Or.inr hcb)] at hRR
  subst hRR
  clear hcb hca
  rintro en wx ⟨rfl, hwx⟩
  rw [hwx]
  clear hwx wx
  go_wp2_with fail
  go_ret
  exact ⟨rfl, rfl⟩
 | true =>
 rw [if_neg (by rw [hca, hcb]; decide)] at hRR
 rintro en wx ⟨rfl, hwx⟩
 rw [hwx]
 clear hwx wx
 have hao := okT_iff.1 ha
 have hbo := okT_iff.1 hb
 have hA := isC_iff.1 hca
 have hB := isC_iff.1 hcb
 have ha1 : (65 : Int) ≤ (a.toNat : Int) := by omega
 have ha2 : (a.toNat : Int) ≤ 68 := by omega
 have hb1 : (65 : Int) ≤ (b.toNat : Int) := by omega
 have hb2 : (b.toNat : Int) ≤ 68 := by omega
 have hal : (a.toNat : Int) - 65 < cs.length := by omega
 have hbl : (b.toNat : Int) - 65 < cs.length := by omega
 obtain ⟨g, n, cap, p, d0, hn', hc, hpo, hp1, hp2⟩ := hI.par hw (x := (a.toNat : Int) - 65) (by omega) hal
 rw [hpo] at hRR
 have HRR : Hid (joinF cs ((b.toNat : Int) - 65) 5 p = R) := hRR
 rw [show ((a.toNat : Int) - 65).toNat = a.toNat - 65 from by omega] at hc
 clear hao hbo hA hB hca hcb hRR hpo
 go_wp2_with fail
 go_loopg [9, 10] 5 (fun mm xs ks wr => ∃ (xv : Int) (kn : Nat), xs = .int .i64 xv ∧ ks = .int .i64 kn ∧ kn ≤ 5 ∧ 5 ≤ kn + mm ∧ kn + mm ≤ 5 ∧ wr = w ∧ -1 ≤ xv ∧ xv < cs.length ∧ Hid (joinF cs ((b.toNat : Int) - 65) mm xv = R))
 case atStart => exact ⟨p, 0, rfl, rfl, by omega, by omega, by omega, rfl, hp1, hp2, HRR⟩
 case round =>
  obtain ⟨xv, kn, rfl, rfl, hk5, hkm1, hkm2, hwr, hx0', hx', HF⟩ := hrel
  subst hwr
  clear d0 hc hn'
  by_cases hxn : 0 ≤ xv
  ·cases gk with
   | zero =>
    have hres : R = 45 := by rw [← HF.out]; rfl
    subst hres
    have hk4 : ¬ (kn : Int) ≤ 4 := by omega
    go_wp2_with fail
    go_ret
    exact ⟨rfl, rfl⟩
   | succ f =>
    have hk4 : (kn : Int) ≤ 4 := by omega
    go_wp2_with fail
    refine (under_any bi cs _ _ _ hI hw (by omega) hbl).mono ?_
    cases hu : under cs 5 ((b.toNat : Int) - 65) xv with
    | true =>
     have hres : R = UInt8.ofNat (65 + xv.toNat) := by rw [← HF.out, joinF, if_neg (by omega), if_pos hu]
     have hrn : (R.toNat : Int) = 65 + xv := by rw [hres, UInt8.toNat_ofNat']; omega
     have HRN : Hid ((R.toNat : Int) = 65 + xv) := hrn
     clear hu hres hrn
     rintro en wx ⟨rfl, hwx⟩
     rw [hwx]
     clear hwx wx
     go_wp2_with fail
     go_ret
     exact ⟨ret_int (by rw [HRN.out]), rfl⟩
    | false =>
     obtain ⟨g, n, cap, p', d0, hn', hc, hpo, hq1, hq2⟩ := hI.par hw hxn hx'
     have HN : Hid (joinF cs ((b.toNat : Int) - 65) f p' = R) := by show _ = _; rw [← HF.out, joinF, if_neg (by omega), if_neg (by rw [hu]; decide), hpo]
     clear hu hpo HF
     rintro en wx ⟨rfl, hwx⟩
     rw [hwx]
     clear hwx wx
     go_wp2_with fail
     go_roundg f
     case measure => omega
     case rel => exact ⟨p', kn + 1, rfl, by simp, by omega, by omega, by omega, rfl, hq1, hq2, HN⟩
  ·have hres : R = 45 := by
    rw [← HF.out]
    cases gk with
    | zero => rfl
    | succ f => rw [joinF, if_pos (by omega)]
   subst hres
   by_cases hk4 : (kn : Int) ≤ 4
   ·go_wp2_with fail
    go_ret
    exact ⟨rfl, rfl⟩
   ·go_wp2_with fail
    go_ret
    exact ⟨rfl, rfl⟩
end Go.Proofs.YtpfkkmacakjmbaaGreatDoor
