import Derived.Test.YtpfkkmacakjmbaaGreatDoorP10
import Derived.Test.YtpfkkmacakjmbaaGreatDoorP02
import Derived.Test.YtpfkkmacakjmbaaGreatDoorP07
import Derived.Test.YtpfkkmacakjmbaaGreatDoorP08
set_option maxRecDepth 100000
set_option maxHeartbeats 6400000
namespace Go.Proofs.YtpfkkmacakjmbaaGreatDoor
open Go Go.RowKit Sp
set_option linter.unusedSimpArgs false
set_option linter.unusedVariables false
theorem ImgS.hds {w : World} {bi : Nat} {im : Img} (h : ImgS w bi im) : ImgH w bi im := by
 obtain ⟨v0, v1, v2, l, hI, h0, h1, h2, hl, _⟩ := h
 exact ⟨v0, v1, v2, l, hI, h0, h1, h2, hl⟩
theorem unlinkedS_any (bi : Nat) (im : Img) (bd : Bod) (vk : Value) (w : World) (hI : ImgS w bi im) (hW : WfIS im) (hbd : WfBS im.classes im.sigs bd) (hO : w.ownsRow 0 147 5 vk bd.code.length (ndCells (endsN 0 bd.code))) :
  Calls Tryz.prog 53 #[.pointer (some ⟨bi, 0, none⟩), .agg #[.int .i64 bd.cls, .int .i64 bd.meth, .string ⟨bd.locals.toArray⟩, .slice none 0 0, vk]] w fun en w' => en = .returned (.int .i64 (optI (unl im.classes im.bodies bd.code))) ∧ But (fun _ => False) w w' := by
 obtain ⟨R, hRR⟩ : ∃ R, unl im.classes im.bodies bd.code = R := ⟨_, rfl⟩
 rw [hRR]
 have HRR : Hid (unl im.classes im.bodies bd.code = R) := hRR
 clear hRR
 obtain ⟨ak, capk, rfl⟩ := owns_len hO
 obtain ⟨n, hn⟩ : ∃ n, bd.code.length = n := ⟨_, rfl⟩
 rw [hn] at hO ⊢
 have HN : Hid (bd.code.length = n) := hn
 have hlen := hbd.len
 rw [hn] at hlen
 clear hn
 go_enter Tryz.func53, Tryz.ntmps53
 go_wp2_with fail
 have hB0 : But (fun _ => False) w (w.alloc (.cells #[.int .i64 bd.cls, .int .i64 bd.meth, .string ⟨bd.locals.toArray⟩, .slice none 0 0, .slice ak n capk] 52)) := But.alloc _ _ _
 have hg0 : (w.alloc (.cells #[.int .i64 bd.cls, .int .i64 bd.meth, .string ⟨bd.locals.toArray⟩, .slice none 0 0, .slice ak n capk] 52)).heap[w.heap.size]? = some (.cells #[.int .i64 bd.cls, .int .i64 bd.meth, .string ⟨bd.locals.toArray⟩, .slice none 0 0, .slice ak n capk] 52) := heap_alloc_new _ _
 generalize (w.alloc (.cells #[.int .i64 bd.cls, .int .i64 bd.meth, .string ⟨bd.locals.toArray⟩, .slice none 0 0, .slice ak n capk] 52)) = w0 at *
 go_loopg [5] 0 (fun mm ks wr => ks = .int .i64 0 ∧ wr = w0)
 case atStart => exact ⟨rfl, rfl⟩
 case round =>
  obtain ⟨rfl, hwr⟩ := hrel
  rw [hwr]
  clear hwr
  have g3 : w0.cell? ⟨w.heap.size, 3, none⟩ = some (.slice none 0 0) := by rw [cell_of_row w0 _ 3 _ _ (0, 0) hg0]; rfl
  go_wp2_with fail
  clear g3
  go_loopg [8] n (fun mm ks wq => ∃ (k : Nat), ks = .int .i64 k ∧ k ≤ n ∧ k + mm ≤ n ∧ n ≤ k + mm ∧ But (fun _ => False) w0 wq ∧ Hid (∀ j (hj : j < bd.code.length), j < k → broken im.classes im.bodies bd.code.length bd.code[j] = false))
  case atStart => exact ⟨0, rfl, by omega, by omega, by omega, But.refl _ _, fun j hj h => absurd h (by omega)⟩
  case round =>
   obtain ⟨k, rfl, hk1, hk2, hk3, hB, HA⟩ := hrel
   have hgr : wr.heap[w.heap.size]? = some (.cells #[.int .i64 bd.cls, .int .i64 bd.meth, .string ⟨bd.locals.toArray⟩, .slice none 0 0, .slice ak n capk] 52) := (hB.block _ (lt_of_block hg0) (fun h => h)).trans hg0
   have g4 : wr.cell? ⟨w.heap.size, 4, none⟩ = some (.slice ak n capk) := by rw [cell_of_row wr _ 4 _ _ (0, 0) hgr]; rfl
   have hBw : But (fun _ => False) w wr := hB0.trans hB
   have hgl := lt_of_block hgr
   by_cases hlt : k < n
   ·have hlt' : k < bd.code.length := by rw [HN.out]; exact hlt
    obtain ⟨X, hX⟩ : ∃ X, bd.code[k] = X := ⟨_, rfl⟩
    obtain ⟨e, hx⟩ : ∃ e, (endsN 0 bd.code)[k]? = some (X, e) := by
     have hl' : k < (endsN 0 bd.code).length := by rw [endsN_len]; exact hlt'
     refine ⟨((endsN 0 bd.code)[k]).2, ?_⟩
     rw [List.getElem?_eq_getElem hl']
     have h1 : ((endsN 0 bd.code).map (·.1))[k]? = bd.code[k]? := by rw [endsN_fst]
     rw [List.getElem?_map, List.getElem?_eq_getElem hl', List.getElem?_eq_getElem hlt', hX] at h1
     have h2 : ((endsN 0 bd.code)[k]).1 = X := Option.some.inj h1
     rw [← h2]
    have hOr := owns_but hO hBw (fun _ _ h => h)
    obtain ⟨g, rfl, hg1, hg2, hcell⟩ := owns_two hOr (by omega)
    have q0 : wr.cell? ⟨g, k * 5, none⟩ = some (.int .u8 X.op.toNat) := hcell _ _ (ndCells_at (k := 0) hx (by omega))
    have q1 : wr.cell? ⟨g, k * 5 + 1, none⟩ = some (.int .i64 X.a) := hcell _ _ (ndCells_at (k := 1) hx (by omega))
    have q2 : wr.cell? ⟨g, k * 5 + 2, none⟩ = some (.int .i64 X.b) := hcell _ _ (ndCells_at (k := 2) hx (by omega))
    have q3 : wr.cell? ⟨g, k * 5 + 3, none⟩ = some (.int .i64 X.pos) := hcell _ _ (ndCells_at (k := 3) hx (by omega))
    have q4 : wr.cell? ⟨g, k * 5 + 4, none⟩ = some (.int .i64 e) := hcell _ _ (ndCells_at (k := 4) hx (by omega))
    have hwx : WfN im.classes im.sigs.length bd.locals.length bd.code[k] := hbd.code _ (List.getElem_mem hlt')
    have HBK : Hid (broken im.classes im.bodies bd.code.length X = true → R = some X.pos) := fun h => by
     subst hX
     rw [← HRR.out]
     exact unl_at hlt' h HA.out
    have HNX : Hid (broken im.classes im.bodies bd.code.length X = false → ∀ j (hj : j < bd.code.length), j < k + 1 → broken im.classes im.bodies bd.code.length bd.code[j] = false) := fun h j hj hjk => by
     subst hX
     rcases Nat.lt_or_ge j k with h' | h'
     ·exact HA.out j hj h'
     ·have : j = k := by omega
      subst this
      exact h
    rw [hX] at hwx
    clear hcell hx hX
    have hkn : (k : Int) < (n : Int) := by omega
    by_cases h99 : X.op.toNat = 99
    ·have t1 : ((X.op.toNat : Int) == 99) = true := by rw [beq_iff_eq]; omega
     have hxa : X.a < im.classes.length := hwx.cls (by omega)
     have H99 : Hid (X.op.toNat = 99) := h99
     clear h99
     go_wp2_with fail
     refine (find_any bi im _ _ _ ((hI.but hBw).but (But.alloc _ _ _)).hds hW.cls hW.nc hW.nb (by omega) (by omega)).mono ?_
     rintro en wx ⟨rfl, hwx'⟩
     rw [hwx']
     clear hwx' wx
     obtain ⟨fr, hfr⟩ : ∃ fr, findF im.classes im.bodies (X.b : Int) 5 (X.a : Int) = fr := ⟨_, rfl⟩
     rw [hfr]
     have HFR : Hid (findF im.classes im.bodies (X.b : Int) 5 (X.a : Int) = fr) := hfr
     clear hfr
     by_cases hf0 : fr < 0
     ·have hres : R = some X.pos := HBK.out (by simp [broken, H99.out, HFR.out, hf0])
      subst hres
      go_wp2_with fail
      go_ret
      exact ⟨rfl, hBw.trans (But.alloc _ _ _)⟩
     ·have hnb : Hid (broken im.classes im.bodies bd.code.length X = false) := by show _ = _; simp [broken, H99.out, HFR.out]; omega
      go_wp2_with fail
      go_roundg (n - (k + 1))
      case measure => omega
      case rel => exact ⟨k + 1, by simp, by omega, by omega, by omega, hB.trans (But.alloc _ _ _), HNX.out hnb.out⟩
    ·have t1 : ((X.op.toNat : Int) == 99) = false := by rw [beq_eq_false_iff_ne]; omega
     have hnb : Hid (broken im.classes im.bodies bd.code.length X = false) := by
      show _ = _
      have hop := hwx.op
      have h1 : X.op.toNat ≠ 106 := fun h => by rw [h] at hop; exact absurd hop (by decide)
      have h2 : X.op.toNat ≠ 102 := fun h => by rw [h] at hop; exact absurd hop (by decide)
      simp [broken, h99, h1, h2]
     have HH : Hid (∀ j (hj : j < bd.code.length), j < k + 1 → broken im.classes im.bodies bd.code.length bd.code[j] = false) := HNX.out hnb.out
     clear h99
     go_wp2_with fail
     go_roundg (n - (k + 1))
     case measure => omega
     case rel => exact ⟨k + 1, by simp, by omega, by omega, by omega, hB.trans (But.alloc _ _ _), HH⟩
   ·have hres : R = none := by
     rw [← HRR.out]
     exact unl_none (fun j hj => HA.out j hj (by rw [HN.out] at hj; omega))
    subst hres
    go_wp2_with fail
    go_ret
    exact ⟨rfl, hBw⟩
def LinkPostS (R : Except (Nat × Nat) Img) (bi : Nat) (w' : World) : Prop := match R with
 | .ok im => ImgS w' bi im ∧ WfIS im
 | .error _ => True
theorem linkedS_any (s : ByteArray) (w : World) (hmax : s.size ≤ maxLen) :
  Calls Tryz.prog 28 #[.string s, .bool true] w fun en w' => en = .returned (linkV (linkS s) w.heap.size) ∧ But (fun _ => False) w w' ∧ LinkPostS (linkS s) w.heap.size w' := by
 obtain ⟨R, hRR⟩ : ∃ R, linkS s = R := ⟨_, rfl⟩
 rw [hRR]
 unfold maxLen at hmax
 by_cases hbig : 400 < s.size
 ·have hres : R = .error (1, 0) := by rw [← hRR, linkS, if_pos hbig]
  subst hres
  have hb : (400 : Int) < (s.size : Int) := by omega
  clear hRR
  go_enter Tryz.func28, Tryz.ntmps28
  go_wp2_with fail
  go_ret3
  exact ⟨rfl, But.refl _ _, trivial⟩
 have hs : s.size ≤ 400 := by omega
 have hb : ¬ (400 : Int) < (s.size : Int) := by omega
 have HRR : Hid (linkS s = R) := hRR
 clear hRR hbig
 go_enter Tryz.func28, Tryz.ntmps28
 go_wp2_with fail
 refine (readS_any s w (by omega)).mono ?_
 rintro en w1 ⟨rfl, hB1, hp⟩
 cases hread : readS s with
 | error j =>
  have hres : R = .error (2, j) := by rw [← HRR.out, linkS, if_neg (by omega), hread]
  subst hres
  simp only [readI]
  have hj0 : (0 : Int) ≤ (j : Int) := by omega
  clear hp HRR hread
  go_wp2_with fail
  go_ret3
  exact ⟨rfl, hB1, trivial⟩
 | ok im =>
  rw [hread] at hp
  have hW := readS_wf (by omega) hread
  simp only [readI]
  have hI : ImgS w1 w.heap.size im := hp
  have HRD : Hid (readS s = .ok im) := hread
  clear hread hp
  obtain ⟨v0, v1, v2, l, hIm, hC, hS, hB, hl, hcd⟩ := hI
  have hI : ImgS w1 w.heap.size im := ⟨v0, v1, v2, l, hIm, hC, hS, hB, hl, hcd⟩
  obtain ⟨a2, cap2, rfl⟩ := owns_len hB
  have hll : l.length ≤ 7 := by have := hW.nb; rw [← hl] at this; simpa using this
  have HL : Hid (l.map (·.1) = im.bodies) := hl
  clear hl
  go_wp2_with fail
  go_loopg [9] l.length (fun mm ks wr => ∃ (k : Nat), ks = .int .i64 k ∧ k ≤ l.length ∧ k + mm ≤ l.length ∧ l.length ≤ k + mm ∧ But (fun _ => False) w1 wr ∧ Hid (∀ j (hj : j < l.length), j < k → unl im.classes im.bodies l[j].1.code = none))
  case atStart => exact ⟨0, rfl, by omega, by omega, by omega, But.refl _ _, fun j hj h => absurd h (by omega)⟩
  case round =>
   obtain ⟨k, rfl, hk1, hk2, hk3, hBr, HA⟩ := hrel
   have d2 := (hIm.but hBr (fun h => h)).c2
   by_cases hlt : k < l.length
   ·have hx := List.getElem?_eq_getElem hlt
    obtain ⟨g, rfl, hg1, hg2, hcell⟩ := owns_two (owns_but hB hBr (fun _ _ h => h)) (by omega)
    have q0 := hcell _ _ (bodCells_at0 hx)
    have q1 := hcell _ _ (bodCells_at1 hx)
    have q2 := hcell _ _ (bodCells_at2 hx)
    have q3 := hcell _ _ (bodCells_at3 hx)
    have q4 := hcell _ _ (bodCells_at4 hx)
    have hmem : l[k] ∈ l := List.getElem_mem hlt
    obtain ⟨hok, htr⟩ := hcd _ hmem
    have hwb : WfBS im.classes im.sigs l[k].1 := hW.bod _ (by rw [← HL.out]; exact List.mem_map_of_mem hmem)
    have HBR : Hid (∀ p, unl im.classes im.bodies l[k].1.code = some p → R = .error (3, p)) := fun p hp => by
     rw [← HRR.out, linkS, if_neg (by omega), HRD.out]
     simp only
     rw [show im.bodies.findSome? (fun b => unl im.classes im.bodies b.code) = some p from ?_]
     rw [← HL.out, List.findSome?_map]
     rw [HL.out]
     exact findSome_at hlt hp HA.out
    have HNX : Hid (unl im.classes im.bodies l[k].1.code = none → ∀ j (hj : j < l.length), j < k + 1 → unl im.classes im.bodies l[j].1.code = none) := fun h j hj hjk => by
     rcases Nat.lt_or_ge j k with h' | h'
     ·exact HA.out j hj h'
     ·have : j = k := by omega
      subst this
      exact h
    obtain ⟨X, hX⟩ : ∃ X, l[k] = X := ⟨_, rfl⟩
    rw [hX] at q0 q1 q2 q3 q4 hok htr hwb HBR HNX
    rw [htr] at q3
    obtain ⟨Xb, Xk, Xt⟩ := X
    simp only at q0 q1 q2 q3 q4 hok hwb HBR HNX
    obtain ⟨ak, capk, rfl⟩ := owns_len hok
    clear hcell hx hX hmem htr
    have hkn : (k : Int) < (l.length : Int) := by omega
    go_wp2_with fail
    refine (unlinkedS_any w.heap.size im Xb _ _ (hI.but hBr) hW hwb (owns_but hok hBr (fun _ _ h => h))).mono ?_
    rintro en w2 ⟨rfl, hB2⟩
    cases hu : unl im.classes im.bodies Xb.code with
    | some p =>
     have hres : R = .error (3, p) := HBR.out p hu
     subst hres
     simp only [optI]
     have hp0 : (0 : Int) ≤ (p : Int) := by omega
     clear hu q0 q1 q2 q3 q4 d2
     go_wp2_with fail
     go_ret3
     exact ⟨rfl, (hB1.trans hBr).trans hB2, trivial⟩
    | none =>
     simp only [optI]
     have HH := HNX.out hu
     have HH' : Hid (∀ j (hj : j < l.length), j < k + 1 → unl im.classes im.bodies l[j].1.code = none) := HH
     clear hu HH q0 q1 q2 q3 q4 d2
     go_wp2_with fail
     go_roundg (l.length - (k + 1))
     case measure => omega
     case rel => exact ⟨k + 1, by simp, by omega, by omega, by omega, hBr.trans hB2, HH'⟩
   ·have hres : R = .ok im := by
     rw [← HRR.out, linkS, if_neg (by omega), HRD.out]
     simp only
     rw [show im.bodies.findSome? (fun b => unl im.classes im.bodies b.code) = none from ?_]
     rw [List.findSome?_eq_none_iff]
     intro b hb
     rw [← HL.out] at hb
     obtain ⟨x, hx, rfl⟩ := List.mem_map.1 hb
     obtain ⟨j, hj, rfl⟩ := List.getElem_of_mem hx
     exact HA.out j hj (by omega)
    subst hres
    go_wp2_with fail
    go_ret3
    exact ⟨rfl, hB1.trans hBr, hI.but hBr, hW⟩
end Go.Proofs.YtpfkkmacakjmbaaGreatDoor
namespace Go.Proofs.YtpfkkmacakjmbaaGreatDoor
open Go Go.RowKit Sp
set_option linter.unusedSimpArgs false
set_option linter.unusedVariables false
attribute [local go_sem ↓] Go.wp_at_zero Go.wp_at_succ
theorem extract_one (l : List UInt8) (k : Nat) (h : k < l.length) : (⟨l.toArray⟩ : ByteArray).extract k (k + 1) = ⟨[l.getD k 0].toArray⟩ := by
 apply ByteArray.ext
 rw [ByteArray.data_extract]
 apply Array.ext'
 simp [List.getD, h]
 rw [List.drop_eq_getElem_cons h]
 rfl
theorem ImgS.cls {w : World} {bi : Nat} {im : Img} (h : ImgS w bi im) : ClsAt w bi im.classes := by
 obtain ⟨v0, v1, v2, l, hI, h0, _⟩ := h
 exact ⟨v0, v1, v2, hI, h0⟩
theorem ImgS.sig {w : World} {bi : Nat} {im : Img} (h : ImgS w bi im) : SigAt w bi im.sigs := by
 obtain ⟨v0, v1, v2, l, hI, _, h1, _⟩ := h
 exact ⟨v0, v1, v2, hI, h1⟩
theorem asked_43 (bi : Nat) (im : Img) (bd : Bod) (ak : Option Addr) (n capk : Nat) (x : Ins) (e : Nat) (w : World) (hI : ImgS w bi im) (hW : WfIS im) (hbd : WfBS im.classes im.sigs bd) (hx : WfN im.classes im.sigs.length bd.locals.length x) (hv : x.op.toNat = 43) :
  Calls Tryz.prog 118 #[.pointer (some ⟨bi, 0, none⟩), .agg #[.int .i64 bd.cls, .int .i64 bd.meth, .string ⟨bd.locals.toArray⟩, .slice none 0 0, .slice ak n capk], .agg #[.int .u8 x.op.toNat, .int .i64 x.a, .int .i64 x.b, .int .i64 x.pos, .int .i64 e]] w fun en w' => en = .returned (.string ⟨(askT im.classes im.sigs bd.locals x).toArray⟩) ∧ But (fun _ => False) w w' := by
 rw [show askT im.classes im.sigs bd.locals x = [105, 105] from by simp [askT, hv, arith]]
 have t43 : ((x.op.toNat : Int) == 43) = true := by rw [beq_iff_eq]; omega
 clear hv
 go_enter Tryz.func118, Tryz.ntmps118
 go_wp2_with fail
 go_ret
 exact ⟨rfl, (But.alloc _ _ _).trans (But.alloc _ _ _)⟩
theorem asked_45 (bi : Nat) (im : Img) (bd : Bod) (ak : Option Addr) (n capk : Nat) (x : Ins) (e : Nat) (w : World) (hI : ImgS w bi im) (hW : WfIS im) (hbd : WfBS im.classes im.sigs bd) (hx : WfN im.classes im.sigs.length bd.locals.length x) (hv : x.op.toNat = 45) :
  Calls Tryz.prog 118 #[.pointer (some ⟨bi, 0, none⟩), .agg #[.int .i64 bd.cls, .int .i64 bd.meth, .string ⟨bd.locals.toArray⟩, .slice none 0 0, .slice ak n capk], .agg #[.int .u8 x.op.toNat, .int .i64 x.a, .int .i64 x.b, .int .i64 x.pos, .int .i64 e]] w fun en w' => en = .returned (.string ⟨(askT im.classes im.sigs bd.locals x).toArray⟩) ∧ But (fun _ => False) w w' := by
 rw [show askT im.classes im.sigs bd.locals x = [105, 105] from by simp [askT, hv, arith]]
 have t43 : ((x.op.toNat : Int) == 43) = false := by rw [beq_eq_false_iff_ne]; omega
 have t45 : ((x.op.toNat : Int) == 45) = true := by rw [beq_iff_eq]; omega
 clear hv
 go_enter Tryz.func118, Tryz.ntmps118
 go_wp2_with fail
 go_ret
 exact ⟨rfl, (But.alloc _ _ _).trans (But.alloc _ _ _)⟩
theorem asked_42 (bi : Nat) (im : Img) (bd : Bod) (ak : Option Addr) (n capk : Nat) (x : Ins) (e : Nat) (w : World) (hI : ImgS w bi im) (hW : WfIS im) (hbd : WfBS im.classes im.sigs bd) (hx : WfN im.classes im.sigs.length bd.locals.length x) (hv : x.op.toNat = 42) :
  Calls Tryz.prog 118 #[.pointer (some ⟨bi, 0, none⟩), .agg #[.int .i64 bd.cls, .int .i64 bd.meth, .string ⟨bd.locals.toArray⟩, .slice none 0 0, .slice ak n capk], .agg #[.int .u8 x.op.toNat, .int .i64 x.a, .int .i64 x.b, .int .i64 x.pos, .int .i64 e]] w fun en w' => en = .returned (.string ⟨(askT im.classes im.sigs bd.locals x).toArray⟩) ∧ But (fun _ => False) w w' := by
 rw [show askT im.classes im.sigs bd.locals x = [105, 105] from by simp [askT, hv, arith]]
 have t43 : ((x.op.toNat : Int) == 43) = false := by rw [beq_eq_false_iff_ne]; omega
 have t45 : ((x.op.toNat : Int) == 45) = false := by rw [beq_eq_false_iff_ne]; omega
 have t42 : ((x.op.toNat : Int) == 42) = true := by rw [beq_iff_eq]; omega
 clear hv
 go_enter Tryz.func118, Tryz.ntmps118
 go_wp2_with fail
 go_ret
 exact ⟨rfl, (But.alloc _ _ _).trans (But.alloc _ _ _)⟩
theorem asked_47 (bi : Nat) (im : Img) (bd : Bod) (ak : Option Addr) (n capk : Nat) (x : Ins) (e : Nat) (w : World) (hI : ImgS w bi im) (hW : WfIS im) (hbd : WfBS im.classes im.sigs bd) (hx : WfN im.classes im.sigs.length bd.locals.length x) (hv : x.op.toNat = 47) :
  Calls Tryz.prog 118 #[.pointer (some ⟨bi, 0, none⟩), .agg #[.int .i64 bd.cls, .int .i64 bd.meth, .string ⟨bd.locals.toArray⟩, .slice none 0 0, .slice ak n capk], .agg #[.int .u8 x.op.toNat, .int .i64 x.a, .int .i64 x.b, .int .i64 x.pos, .int .i64 e]] w fun en w' => en = .returned (.string ⟨(askT im.classes im.sigs bd.locals x).toArray⟩) ∧ But (fun _ => False) w w' := by
 rw [show askT im.classes im.sigs bd.locals x = [105, 105] from by simp [askT, hv, arith]]
 have t43 : ((x.op.toNat : Int) == 43) = false := by rw [beq_eq_false_iff_ne]; omega
 have t45 : ((x.op.toNat : Int) == 45) = false := by rw [beq_eq_false_iff_ne]; omega
 have t42 : ((x.op.toNat : Int) == 42) = false := by rw [beq_eq_false_iff_ne]; omega
 have t47 : ((x.op.toNat : Int) == 47) = true := by rw [beq_iff_eq]; omega
 clear hv
 go_enter Tryz.func118, Tryz.ntmps118
 go_wp2_with fail
 go_ret
 exact ⟨rfl, (But.alloc _ _ _).trans (But.alloc _ _ _)⟩
theorem asked_60 (bi : Nat) (im : Img) (bd : Bod) (ak : Option Addr) (n capk : Nat) (x : Ins) (e : Nat) (w : World) (hI : ImgS w bi im) (hW : WfIS im) (hbd : WfBS im.classes im.sigs bd) (hx : WfN im.classes im.sigs.length bd.locals.length x) (hv : x.op.toNat = 60) :
  Calls Tryz.prog 118 #[.pointer (some ⟨bi, 0, none⟩), .agg #[.int .i64 bd.cls, .int .i64 bd.meth, .string ⟨bd.locals.toArray⟩, .slice none 0 0, .slice ak n capk], .agg #[.int .u8 x.op.toNat, .int .i64 x.a, .int .i64 x.b, .int .i64 x.pos, .int .i64 e]] w fun en w' => en = .returned (.string ⟨(askT im.classes im.sigs bd.locals x).toArray⟩) ∧ But (fun _ => False) w w' := by
 rw [show askT im.classes im.sigs bd.locals x = [105, 105] from by simp [askT, hv, arith]]
 have t43 : ((x.op.toNat : Int) == 43) = false := by rw [beq_eq_false_iff_ne]; omega
 have t45 : ((x.op.toNat : Int) == 45) = false := by rw [beq_eq_false_iff_ne]; omega
 have t42 : ((x.op.toNat : Int) == 42) = false := by rw [beq_eq_false_iff_ne]; omega
 have t47 : ((x.op.toNat : Int) == 47) = false := by rw [beq_eq_false_iff_ne]; omega
 have t60 : ((x.op.toNat : Int) == 60) = true := by rw [beq_iff_eq]; omega
 clear hv
 go_enter Tryz.func118, Tryz.ntmps118
 go_wp2_with fail
 go_ret
 exact ⟨rfl, (But.alloc _ _ _).trans (But.alloc _ _ _)⟩
theorem asked_61 (bi : Nat) (im : Img) (bd : Bod) (ak : Option Addr) (n capk : Nat) (x : Ins) (e : Nat) (w : World) (hI : ImgS w bi im) (hW : WfIS im) (hbd : WfBS im.classes im.sigs bd) (hx : WfN im.classes im.sigs.length bd.locals.length x) (hv : x.op.toNat = 61) :
  Calls Tryz.prog 118 #[.pointer (some ⟨bi, 0, none⟩), .agg #[.int .i64 bd.cls, .int .i64 bd.meth, .string ⟨bd.locals.toArray⟩, .slice none 0 0, .slice ak n capk], .agg #[.int .u8 x.op.toNat, .int .i64 x.a, .int .i64 x.b, .int .i64 x.pos, .int .i64 e]] w fun en w' => en = .returned (.string ⟨(askT im.classes im.sigs bd.locals x).toArray⟩) ∧ But (fun _ => False) w w' := by
 rw [show askT im.classes im.sigs bd.locals x = [105, 105] from by simp [askT, hv, arith]]
 have t43 : ((x.op.toNat : Int) == 43) = false := by rw [beq_eq_false_iff_ne]; omega
 have t45 : ((x.op.toNat : Int) == 45) = false := by rw [beq_eq_false_iff_ne]; omega
 have t42 : ((x.op.toNat : Int) == 42) = false := by rw [beq_eq_false_iff_ne]; omega
 have t47 : ((x.op.toNat : Int) == 47) = false := by rw [beq_eq_false_iff_ne]; omega
 have t60 : ((x.op.toNat : Int) == 60) = false := by rw [beq_eq_false_iff_ne]; omega
 have t61 : ((x.op.toNat : Int) == 61) = true := by rw [beq_iff_eq]; omega
 clear hv
 go_enter Tryz.func118, Tryz.ntmps118
 go_wp2_with fail
 go_ret
 exact ⟨rfl, (But.alloc _ _ _).trans (But.alloc _ _ _)⟩
theorem asked_119 (bi : Nat) (im : Img) (bd : Bod) (ak : Option Addr) (n capk : Nat) (x : Ins) (e : Nat) (w : World) (hI : ImgS w bi im) (hW : WfIS im) (hbd : WfBS im.classes im.sigs bd) (hx : WfN im.classes im.sigs.length bd.locals.length x) (hv : x.op.toNat = 119) :
  Calls Tryz.prog 118 #[.pointer (some ⟨bi, 0, none⟩), .agg #[.int .i64 bd.cls, .int .i64 bd.meth, .string ⟨bd.locals.toArray⟩, .slice none 0 0, .slice ak n capk], .agg #[.int .u8 x.op.toNat, .int .i64 x.a, .int .i64 x.b, .int .i64 x.pos, .int .i64 e]] w fun en w' => en = .returned (.string ⟨(askT im.classes im.sigs bd.locals x).toArray⟩) ∧ But (fun _ => False) w w' := by
 rw [show askT im.classes im.sigs bd.locals x = [105] from by simp [askT, hv, arith]]
 have t43 : ((x.op.toNat : Int) == 43) = false := by rw [beq_eq_false_iff_ne]; omega
 have t45 : ((x.op.toNat : Int) == 45) = false := by rw [beq_eq_false_iff_ne]; omega
 have t42 : ((x.op.toNat : Int) == 42) = false := by rw [beq_eq_false_iff_ne]; omega
 have t47 : ((x.op.toNat : Int) == 47) = false := by rw [beq_eq_false_iff_ne]; omega
 have t60 : ((x.op.toNat : Int) == 60) = false := by rw [beq_eq_false_iff_ne]; omega
 have t61 : ((x.op.toNat : Int) == 61) = false := by rw [beq_eq_false_iff_ne]; omega
 have t119 : ((x.op.toNat : Int) == 119) = true := by rw [beq_iff_eq]; omega
 clear hv
 go_enter Tryz.func118, Tryz.ntmps118
 go_wp2_with fail
 go_ret
 exact ⟨rfl, (But.alloc _ _ _).trans (But.alloc _ _ _)⟩
theorem asked_115 (bi : Nat) (im : Img) (bd : Bod) (ak : Option Addr) (n capk : Nat) (x : Ins) (e : Nat) (w : World) (hI : ImgS w bi im) (hW : WfIS im) (hbd : WfBS im.classes im.sigs bd) (hx : WfN im.classes im.sigs.length bd.locals.length x) (hv : x.op.toNat = 115) :
  Calls Tryz.prog 118 #[.pointer (some ⟨bi, 0, none⟩), .agg #[.int .i64 bd.cls, .int .i64 bd.meth, .string ⟨bd.locals.toArray⟩, .slice none 0 0, .slice ak n capk], .agg #[.int .u8 x.op.toNat, .int .i64 x.a, .int .i64 x.b, .int .i64 x.pos, .int .i64 e]] w fun en w' => en = .returned (.string ⟨(askT im.classes im.sigs bd.locals x).toArray⟩) ∧ But (fun _ => False) w w' := by
 rw [show askT im.classes im.sigs bd.locals x = [bd.locals.getD x.b 0] from by simp [askT, hv, arith]]
 have t43 : ((x.op.toNat : Int) == 43) = false := by rw [beq_eq_false_iff_ne]; omega
 have t45 : ((x.op.toNat : Int) == 45) = false := by rw [beq_eq_false_iff_ne]; omega
 have t42 : ((x.op.toNat : Int) == 42) = false := by rw [beq_eq_false_iff_ne]; omega
 have t47 : ((x.op.toNat : Int) == 47) = false := by rw [beq_eq_false_iff_ne]; omega
 have t60 : ((x.op.toNat : Int) == 60) = false := by rw [beq_eq_false_iff_ne]; omega
 have t61 : ((x.op.toNat : Int) == 61) = false := by rw [beq_eq_false_iff_ne]; omega
 have t119 : ((x.op.toNat : Int) == 119) = false := by rw [beq_eq_false_iff_ne]; omega
 have t115 : ((x.op.toNat : Int) == 115) = true := by rw [beq_iff_eq]; omega
 have hb := hx.loc (by omega)
 have hbI : (x.b : Int) + 1 ≤ (bd.locals.length : Int) := by omega
 have hb5 := hbd.loc.1
 clear hv
 have hext := extract_one bd.locals x.b hb
 obtain ⟨D, hD⟩ : ∃ D, bd.locals.getD x.b 0 = D := ⟨_, rfl⟩
 rw [hD] at hext ⊢
 clear hD
 go_enter Tryz.func118, Tryz.ntmps118
 go_wp2_with fail
 exact bodyPost_ret (v := .string ⟨[D].toArray⟩) (by simp [results, Tryz.results118, go_sem, hext]) rfl ⟨rfl, (But.alloc _ _ _).trans (But.alloc _ _ _)⟩
theorem asked_103 (bi : Nat) (im : Img) (bd : Bod) (ak : Option Addr) (n capk : Nat) (x : Ins) (e : Nat) (w : World) (hI : ImgS w bi im) (hW : WfIS im) (hbd : WfBS im.classes im.sigs bd) (hx : WfN im.classes im.sigs.length bd.locals.length x) (hv : x.op.toNat = 103) :
  Calls Tryz.prog 118 #[.pointer (some ⟨bi, 0, none⟩), .agg #[.int .i64 bd.cls, .int .i64 bd.meth, .string ⟨bd.locals.toArray⟩, .slice none 0 0, .slice ak n capk], .agg #[.int .u8 x.op.toNat, .int .i64 x.a, .int .i64 x.b, .int .i64 x.pos, .int .i64 e]] w fun en w' => en = .returned (.string ⟨(askT im.classes im.sigs bd.locals x).toArray⟩) ∧ But (fun _ => False) w w' := by
 have hres : askT im.classes im.sigs bd.locals x = [clsT x.a] := by simp [askT, hv, arith]
 rw [hres]
 clear hres
 have hxa : x.a < 4 := by have := hx.cls (by omega); have := hW.nc; omega
 have hxi : (x.a : Int) < 4 := by omega
 have t43 : ((x.op.toNat : Int) == 43) = false := by rw [beq_eq_false_iff_ne]; omega
 have t45 : ((x.op.toNat : Int) == 45) = false := by rw [beq_eq_false_iff_ne]; omega
 have t42 : ((x.op.toNat : Int) == 42) = false := by rw [beq_eq_false_iff_ne]; omega
 have t47 : ((x.op.toNat : Int) == 47) = false := by rw [beq_eq_false_iff_ne]; omega
 have t60 : ((x.op.toNat : Int) == 60) = false := by rw [beq_eq_false_iff_ne]; omega
 have t61 : ((x.op.toNat : Int) == 61) = false := by rw [beq_eq_false_iff_ne]; omega
 have t119 : ((x.op.toNat : Int) == 119) = false := by rw [beq_eq_false_iff_ne]; omega
 have t115 : ((x.op.toNat : Int) == 115) = false := by rw [beq_eq_false_iff_ne]; omega
 have t103 : ((x.op.toNat : Int) == 103) = true := by rw [beq_iff_eq]; omega
 clear hv
 have hcv := conv1i (65 + (x.a : Int)) (clsT x.a) (clsT_nat hxa) ((w.alloc (.cells #[.int .i64 bd.cls, .int .i64 bd.meth, .string ⟨bd.locals.toArray⟩, .slice none 0 0, .slice ak n capk] 52)).alloc (.cells #[.int .u8 x.op.toNat, .int .i64 x.a, .int .i64 x.b, .int .i64 x.pos, .int .i64 e] 147))
 rw [show ((w.alloc (.cells #[.int .i64 bd.cls, .int .i64 bd.meth, .string ⟨bd.locals.toArray⟩, .slice none 0 0, .slice ak n capk] 52)).alloc (.cells #[.int .u8 x.op.toNat, .int .i64 x.a, .int .i64 x.b, .int .i64 x.pos, .int .i64 e] 147)).heap.size = w.heap.size + 2 from by simp] at hcv
 generalize clsT x.a = C at *
 go_enter Tryz.func118, Tryz.ntmps118
 go_wp2_with fail
 go_ret
 exact ⟨rfl, ((But.alloc _ _ _).trans (But.alloc _ _ _)).trans (But.alloc _ _ _)⟩
theorem asked_112 (bi : Nat) (im : Img) (bd : Bod) (ak : Option Addr) (n capk : Nat) (x : Ins) (e : Nat) (w : World) (hI : ImgS w bi im) (hW : WfIS im) (hbd : WfBS im.classes im.sigs bd) (hx : WfN im.classes im.sigs.length bd.locals.length x) (hv : x.op.toNat = 112) :
  Calls Tryz.prog 118 #[.pointer (some ⟨bi, 0, none⟩), .agg #[.int .i64 bd.cls, .int .i64 bd.meth, .string ⟨bd.locals.toArray⟩, .slice none 0 0, .slice ak n capk], .agg #[.int .u8 x.op.toNat, .int .i64 x.a, .int .i64 x.b, .int .i64 x.pos, .int .i64 e]] w fun en w' => en = .returned (.string ⟨(askT im.classes im.sigs bd.locals x).toArray⟩) ∧ But (fun _ => False) w w' := by
 have hres : askT im.classes im.sigs bd.locals x = [clsT x.a, fieldT im.classes x.a x.b] := by simp [askT, hv, arith]
 rw [hres]
 clear hres
 generalize hCe : clsT x.a = C
 generalize hEe : fieldT im.classes x.a x.b = E
 have HCE : Hid (clsT x.a = C) := hCe
 have HEE : Hid (fieldT im.classes x.a x.b = E) := hEe
 clear hCe hEe
 have hxa : x.a < im.classes.length := hx.cls (by omega)
 have hxb := hx.fld (by omega)
 have hnc := hW.nc
 have hxi : (x.a : Int) < 4 := by omega
 have t43 : ((x.op.toNat : Int) == 43) = false := by rw [beq_eq_false_iff_ne]; omega
 have t45 : ((x.op.toNat : Int) == 45) = false := by rw [beq_eq_false_iff_ne]; omega
 have t42 : ((x.op.toNat : Int) == 42) = false := by rw [beq_eq_false_iff_ne]; omega
 have t47 : ((x.op.toNat : Int) == 47) = false := by rw [beq_eq_false_iff_ne]; omega
 have t60 : ((x.op.toNat : Int) == 60) = false := by rw [beq_eq_false_iff_ne]; omega
 have t61 : ((x.op.toNat : Int) == 61) = false := by rw [beq_eq_false_iff_ne]; omega
 have t119 : ((x.op.toNat : Int) == 119) = false := by rw [beq_eq_false_iff_ne]; omega
 have t115 : ((x.op.toNat : Int) == 115) = false := by rw [beq_eq_false_iff_ne]; omega
 have t103 : ((x.op.toNat : Int) == 103) = false := by rw [beq_eq_false_iff_ne]; omega
 have t112 : ((x.op.toNat : Int) == 112) = true := by rw [beq_iff_eq]; omega
 clear hv
 go_enter Tryz.func118, Tryz.ntmps118
 go_wp2_with fail
 have hB0 : But (fun _ => False) w ((w.alloc (.cells #[.int .i64 bd.cls, .int .i64 bd.meth, .string ⟨bd.locals.toArray⟩, .slice none 0 0, .slice ak n capk] 52)).alloc (.cells #[.int .u8 x.op.toNat, .int .i64 x.a, .int .i64 x.b, .int .i64 x.pos, .int .i64 e] 147)) := (But.alloc _ _ _).trans (But.alloc _ _ _)
 have hgI : ((w.alloc (.cells #[.int .i64 bd.cls, .int .i64 bd.meth, .string ⟨bd.locals.toArray⟩, .slice none 0 0, .slice ak n capk] 52)).alloc (.cells #[.int .u8 x.op.toNat, .int .i64 x.a, .int .i64 x.b, .int .i64 x.pos, .int .i64 e] 147)).heap[w.heap.size + 1]? = some (.cells #[.int .u8 x.op.toNat, .int .i64 x.a, .int .i64 x.b, .int .i64 x.pos, .int .i64 e] 147) := heap_alloc_at (by simp) _
 have hgB : ((w.alloc (.cells #[.int .i64 bd.cls, .int .i64 bd.meth, .string ⟨bd.locals.toArray⟩, .slice none 0 0, .slice ak n capk] 52)).alloc (.cells #[.int .u8 x.op.toNat, .int .i64 x.a, .int .i64 x.b, .int .i64 x.pos, .int .i64 e] 147)).heap[w.heap.size]? = some (.cells #[.int .i64 bd.cls, .int .i64 bd.meth, .string ⟨bd.locals.toArray⟩, .slice none 0 0, .slice ak n capk] 52) := ((But.alloc (fun _ => False) (w.alloc (.cells #[.int .i64 bd.cls, .int .i64 bd.meth, .string ⟨bd.locals.toArray⟩, .slice none 0 0, .slice ak n capk] 52)) _).block w.heap.size (by simp) (fun h => h)).trans (heap_alloc_new w _)
 generalize ((w.alloc (.cells #[.int .i64 bd.cls, .int .i64 bd.meth, .string ⟨bd.locals.toArray⟩, .slice none 0 0, .slice ak n capk] 52)).alloc (.cells #[.int .u8 x.op.toNat, .int .i64 x.a, .int .i64 x.b, .int .i64 x.pos, .int .i64 e] 147)) = W at *
 have i1 : W.cell? ⟨w.heap.size + 1, 1, none⟩ = some (.int .i64 x.a) := by rw [cell_of_row W _ 1 _ _ (0, 0) hgI]; rfl
 have i2 : W.cell? ⟨w.heap.size + 1, 2, none⟩ = some (.int .i64 x.b) := by rw [cell_of_row W _ 2 _ _ (0, 0) hgI]; rfl
 have b0 : W.cell? ⟨w.heap.size, 0, none⟩ = some (.int .i64 bd.cls) := by rw [cell_of_row W _ 0 _ _ (0, 0) hgB]; rfl
 have b1 : W.cell? ⟨w.heap.size, 1, none⟩ = some (.int .i64 bd.meth) := by rw [cell_of_row W _ 1 _ _ (0, 0) hgB]; rfl
 have lI := lt_of_block hgI
 have lB := lt_of_block hgB
 have hIW := hI.but hB0
 obtain ⟨g, m, cap, fl, d0, hm, hc, hjl, hfe, lbi, lg⟩ := hIW.cls.flds hxa hxb
 have hjl2 : (x.b : Int) < (fl.length : Int) := by omega
 have hcx := clsT_nat (a := x.a) (by omega)
 have hwr := wrapI (65 + (x.a : Int)) (by omega) (by omega)
 have hwr8 := IntWalk.u8_in (65 + (x.a : Int)) (by omega)
 have HFE : Hid (fl.getD x.b 0 = fieldT im.classes x.a x.b) := hfe
 have HCX : Hid ((65 + (x.a : Int)) = (C.toNat : Int)) := by show _ = _; rw [← HCE.out]; exact hcx
 clear hfe hcx
 have hS0 : But (fun _ => False) W W.drew := But.drew _ _
 refine wpTx_begin (But (fun _ => False) W) 18 (by kernel_rfl) ?_
 have fSA := hid (fun wS (h : (But (fun _ => False) W) wS) => (And.intro ((h.cell (p := ⟨w.heap.size + 1, 1, none⟩) lI (fun h => h)).trans i1) (And.intro ((h.cell (p := ⟨w.heap.size + 1, 2, none⟩) lI (fun h => h)).trans i2) (And.intro ((h.cell (p := ⟨bi, 0, none⟩) lbi (fun h => h)).trans d0) ((h.cell (p := ⟨g, x.a * 2 + 1, none⟩) lg (fun h => h)).trans hc)))))
 iterate 16 (refine wpTx_take (v := ?_) rfl (by kernel_rfl) (fun _ _ _ h => h) rfl hS0 ?_ ?_; rotate_left; (focus (intro wS h; obtain ⟨q0, q1, q2, q3⟩ := fSA.out wS h; clear h; go_simp; try rfl)); dsimp only [Act.put]; try simp only [puts])
 try clear fSA
 clear hwr hwr8
 refine wpTx_step rfl (by kernel_rfl) ?_
 intro KS hKS
 go_simp
 have hfl : ∀ h, (⟨fl.toArray⟩ : ByteArray)[x.b]'h = E := fun h => by rw [← HEE.out, ← HFE.out, getD_lt fl _ hjl]; exact lget fl _ hjl _
 simp only [hfl]
 refine hKS.out _ _ (fun _ => (But.alloc _ _ _).trans (But.drew _ _)) ?_
 clear hKS KS hfl
 have hcv := conv2d (65 + (x.a : Int)) (E.toNat : Int) C E HCX.out rfl
 refine wpTx_step rfl (by kernel_rfl) ?_
 intro KS hKS
 go_simp
 refine hKS.out _ _ (fun _ => (But.alloc _ _ _).trans (But.drew _ _)) ?_
 clear hKS KS
 refine wpTx_step rfl (by kernel_rfl) ?_
 intro KS hKS
 go_simp
 refine hKS.out _ _ (fun h => absurd h (by decide)) ?_
 clear hKS KS
 refine wpTx_done rfl (by kernel_rfl) ?_
 go_wp2_with fail
 go_ret
 exact ⟨rfl, hB0.trans ((But.alloc _ _ _).trans (But.drew _ _))⟩
theorem asked_99 (bi : Nat) (im : Img) (bd : Bod) (ak : Option Addr) (n capk : Nat) (x : Ins) (e : Nat) (w : World) (hI : ImgS w bi im) (hW : WfIS im) (hbd : WfBS im.classes im.sigs bd) (hx : WfN im.classes im.sigs.length bd.locals.length x) (hv : x.op.toNat = 99) :
  Calls Tryz.prog 118 #[.pointer (some ⟨bi, 0, none⟩), .agg #[.int .i64 bd.cls, .int .i64 bd.meth, .string ⟨bd.locals.toArray⟩, .slice none 0 0, .slice ak n capk], .agg #[.int .u8 x.op.toNat, .int .i64 x.a, .int .i64 x.b, .int .i64 x.pos, .int .i64 e]] w fun en w' => en = .returned (.string ⟨(askT im.classes im.sigs bd.locals x).toArray⟩) ∧ But (fun _ => False) w w' := by
 have hres : askT im.classes im.sigs bd.locals x = [clsT x.a, argT im.sigs x.b] := by simp [askT, hv, arith]
 rw [hres]
 clear hres
 generalize hCe : clsT x.a = C
 generalize hEe : argT im.sigs x.b = E
 have HCE : Hid (clsT x.a = C) := hCe
 have HEE : Hid (argT im.sigs x.b = E) := hEe
 clear hCe hEe
 have hxa : x.a < im.classes.length := hx.cls (by omega)
 have hxb := hx.sig (by omega)
 have hnc := hW.nc
 have hxi : (x.a : Int) < 4 := by omega
 have t43 : ((x.op.toNat : Int) == 43) = false := by rw [beq_eq_false_iff_ne]; omega
 have t45 : ((x.op.toNat : Int) == 45) = false := by rw [beq_eq_false_iff_ne]; omega
 have t42 : ((x.op.toNat : Int) == 42) = false := by rw [beq_eq_false_iff_ne]; omega
 have t47 : ((x.op.toNat : Int) == 47) = false := by rw [beq_eq_false_iff_ne]; omega
 have t60 : ((x.op.toNat : Int) == 60) = false := by rw [beq_eq_false_iff_ne]; omega
 have t61 : ((x.op.toNat : Int) == 61) = false := by rw [beq_eq_false_iff_ne]; omega
 have t119 : ((x.op.toNat : Int) == 119) = false := by rw [beq_eq_false_iff_ne]; omega
 have t115 : ((x.op.toNat : Int) == 115) = false := by rw [beq_eq_false_iff_ne]; omega
 have t103 : ((x.op.toNat : Int) == 103) = false := by rw [beq_eq_false_iff_ne]; omega
 have t112 : ((x.op.toNat : Int) == 112) = false := by rw [beq_eq_false_iff_ne]; omega
 have t99 : ((x.op.toNat : Int) == 99) = true := by rw [beq_iff_eq]; omega
 clear hv
 go_enter Tryz.func118, Tryz.ntmps118
 go_wp2_with fail
 have hB0 : But (fun _ => False) w ((w.alloc (.cells #[.int .i64 bd.cls, .int .i64 bd.meth, .string ⟨bd.locals.toArray⟩, .slice none 0 0, .slice ak n capk] 52)).alloc (.cells #[.int .u8 x.op.toNat, .int .i64 x.a, .int .i64 x.b, .int .i64 x.pos, .int .i64 e] 147)) := (But.alloc _ _ _).trans (But.alloc _ _ _)
 have hgI : ((w.alloc (.cells #[.int .i64 bd.cls, .int .i64 bd.meth, .string ⟨bd.locals.toArray⟩, .slice none 0 0, .slice ak n capk] 52)).alloc (.cells #[.int .u8 x.op.toNat, .int .i64 x.a, .int .i64 x.b, .int .i64 x.pos, .int .i64 e] 147)).heap[w.heap.size + 1]? = some (.cells #[.int .u8 x.op.toNat, .int .i64 x.a, .int .i64 x.b, .int .i64 x.pos, .int .i64 e] 147) := heap_alloc_at (by simp) _
 have hgB : ((w.alloc (.cells #[.int .i64 bd.cls, .int .i64 bd.meth, .string ⟨bd.locals.toArray⟩, .slice none 0 0, .slice ak n capk] 52)).alloc (.cells #[.int .u8 x.op.toNat, .int .i64 x.a, .int .i64 x.b, .int .i64 x.pos, .int .i64 e] 147)).heap[w.heap.size]? = some (.cells #[.int .i64 bd.cls, .int .i64 bd.meth, .string ⟨bd.locals.toArray⟩, .slice none 0 0, .slice ak n capk] 52) := ((But.alloc (fun _ => False) (w.alloc (.cells #[.int .i64 bd.cls, .int .i64 bd.meth, .string ⟨bd.locals.toArray⟩, .slice none 0 0, .slice ak n capk] 52)) _).block w.heap.size (by simp) (fun h => h)).trans (heap_alloc_new w _)
 generalize ((w.alloc (.cells #[.int .i64 bd.cls, .int .i64 bd.meth, .string ⟨bd.locals.toArray⟩, .slice none 0 0, .slice ak n capk] 52)).alloc (.cells #[.int .u8 x.op.toNat, .int .i64 x.a, .int .i64 x.b, .int .i64 x.pos, .int .i64 e] 147)) = W at *
 have i1 : W.cell? ⟨w.heap.size + 1, 1, none⟩ = some (.int .i64 x.a) := by rw [cell_of_row W _ 1 _ _ (0, 0) hgI]; rfl
 have i2 : W.cell? ⟨w.heap.size + 1, 2, none⟩ = some (.int .i64 x.b) := by rw [cell_of_row W _ 2 _ _ (0, 0) hgI]; rfl
 have b0 : W.cell? ⟨w.heap.size, 0, none⟩ = some (.int .i64 bd.cls) := by rw [cell_of_row W _ 0 _ _ (0, 0) hgB]; rfl
 have b1 : W.cell? ⟨w.heap.size, 1, none⟩ = some (.int .i64 bd.meth) := by rw [cell_of_row W _ 1 _ _ (0, 0) hgB]; rfl
 have lI := lt_of_block hgI
 have lB := lt_of_block hgB
 have hIW := hI.but hB0
 obtain ⟨g, m, cap, d1, hm, hc, hc2, lbi, lg⟩ := hIW.sig.at hxb
 have HCX : Hid ((65 + (x.a : Int)) = (C.toNat : Int)) := by show _ = _; rw [← HCE.out]; exact clsT_nat (by omega)
 rw [HEE.out] at hc
 have hwr := wrapI (65 + (x.a : Int)) (by omega) (by omega)
 have hwr8 := IntWalk.u8_in (65 + (x.a : Int)) (by omega)
 have hS0 : But (fun _ => False) W W.drew := But.drew _ _
 refine wpTx_begin (But (fun _ => False) W) 15 (by kernel_rfl) ?_
 have fSA := hid (fun wS (h : (But (fun _ => False) W) wS) => (And.intro ((h.cell (p := ⟨w.heap.size + 1, 1, none⟩) lI (fun h => h)).trans i1) (And.intro ((h.cell (p := ⟨w.heap.size + 1, 2, none⟩) lI (fun h => h)).trans i2) (And.intro ((h.cell (p := ⟨bi, 1, none⟩) lbi (fun h => h)).trans d1) ((h.cell (p := ⟨g, x.b * 2, none⟩) lg (fun h => h)).trans hc)))))
 iterate 13 (refine wpTx_take (v := ?_) rfl (by kernel_rfl) (fun _ _ _ h => h) rfl hS0 ?_ ?_; rotate_left; (focus (intro wS h; obtain ⟨q0, q1, q2, q3⟩ := fSA.out wS h; clear h; go_simp; try rfl)); dsimp only [Act.put]; try simp only [puts])
 try clear fSA
 clear hwr hwr8
 refine wpTx_step rfl (by kernel_rfl) ?_
 intro KS hKS
 go_simp
 refine hKS.out _ _ (fun _ => (But.alloc _ _ _).trans (But.drew _ _)) ?_
 clear hKS KS
 have hcv := conv2d (65 + (x.a : Int)) (E.toNat : Int) C E HCX.out rfl
 refine wpTx_step rfl (by kernel_rfl) ?_
 intro KS hKS
 go_simp
 refine hKS.out _ _ (fun _ => (But.alloc _ _ _).trans (But.drew _ _)) ?_
 clear hKS KS
 refine wpTx_step rfl (by kernel_rfl) ?_
 intro KS hKS
 go_simp
 refine hKS.out _ _ (fun h => absurd h (by decide)) ?_
 clear hKS KS
 refine wpTx_done rfl (by kernel_rfl) ?_
 go_wp2_with fail
 go_ret
 exact ⟨rfl, hB0.trans ((But.alloc _ _ _).trans (But.drew _ _))⟩
theorem asked_no (bi : Nat) (im : Img) (bd : Bod) (ak : Option Addr) (n capk : Nat) (x : Ins) (e : Nat) (w : World) (hI : ImgS w bi im) (hW : WfIS im) (hbd : WfBS im.classes im.sigs bd) (hx : WfN im.classes im.sigs.length bd.locals.length x) (hv : x.op.toNat ≠ 43 ∧ x.op.toNat ≠ 45 ∧ x.op.toNat ≠ 42 ∧ x.op.toNat ≠ 47 ∧ x.op.toNat ≠ 60 ∧ x.op.toNat ≠ 61 ∧ x.op.toNat ≠ 119 ∧ x.op.toNat ≠ 115 ∧ x.op.toNat ≠ 103 ∧ x.op.toNat ≠ 112 ∧ x.op.toNat ≠ 99) :
  Calls Tryz.prog 118 #[.pointer (some ⟨bi, 0, none⟩), .agg #[.int .i64 bd.cls, .int .i64 bd.meth, .string ⟨bd.locals.toArray⟩, .slice none 0 0, .slice ak n capk], .agg #[.int .u8 x.op.toNat, .int .i64 x.a, .int .i64 x.b, .int .i64 x.pos, .int .i64 e]] w fun en w' => en = .returned (.string ⟨(askT im.classes im.sigs bd.locals x).toArray⟩) ∧ But (fun _ => False) w w' := by
 rw [show askT im.classes im.sigs bd.locals x = [] from by simp [askT, hv, arith]]
 have t43 : ((x.op.toNat : Int) == 43) = false := by rw [beq_eq_false_iff_ne]; omega
 have t45 : ((x.op.toNat : Int) == 45) = false := by rw [beq_eq_false_iff_ne]; omega
 have t42 : ((x.op.toNat : Int) == 42) = false := by rw [beq_eq_false_iff_ne]; omega
 have t47 : ((x.op.toNat : Int) == 47) = false := by rw [beq_eq_false_iff_ne]; omega
 have t60 : ((x.op.toNat : Int) == 60) = false := by rw [beq_eq_false_iff_ne]; omega
 have t61 : ((x.op.toNat : Int) == 61) = false := by rw [beq_eq_false_iff_ne]; omega
 have t119 : ((x.op.toNat : Int) == 119) = false := by rw [beq_eq_false_iff_ne]; omega
 have t115 : ((x.op.toNat : Int) == 115) = false := by rw [beq_eq_false_iff_ne]; omega
 have t103 : ((x.op.toNat : Int) == 103) = false := by rw [beq_eq_false_iff_ne]; omega
 have t112 : ((x.op.toNat : Int) == 112) = false := by rw [beq_eq_false_iff_ne]; omega
 have t99 : ((x.op.toNat : Int) == 99) = false := by rw [beq_eq_false_iff_ne]; omega
 clear hv
 go_enter Tryz.func118, Tryz.ntmps118
 go_wp2_with fail
 go_ret
 exact ⟨rfl, (But.alloc _ _ _).trans (But.alloc _ _ _)⟩
theorem asked_any (bi : Nat) (im : Img) (bd : Bod) (ak : Option Addr) (n capk : Nat) (x : Ins) (e : Nat) (w : World) (hI : ImgS w bi im) (hW : WfIS im) (hbd : WfBS im.classes im.sigs bd) (hx : WfN im.classes im.sigs.length bd.locals.length x) :
  Calls Tryz.prog 118 #[.pointer (some ⟨bi, 0, none⟩), .agg #[.int .i64 bd.cls, .int .i64 bd.meth, .string ⟨bd.locals.toArray⟩, .slice none 0 0, .slice ak n capk], .agg #[.int .u8 x.op.toNat, .int .i64 x.a, .int .i64 x.b, .int .i64 x.pos, .int .i64 e]] w fun en w' => en = .returned (.string ⟨(askT im.classes im.sigs bd.locals x).toArray⟩) ∧ But (fun _ => False) w w' := by
 by_cases h43 : x.op.toNat = 43
 ·exact asked_43 bi im bd ak n capk x e w hI hW hbd hx h43
 by_cases h45 : x.op.toNat = 45
 ·exact asked_45 bi im bd ak n capk x e w hI hW hbd hx h45
 by_cases h42 : x.op.toNat = 42
 ·exact asked_42 bi im bd ak n capk x e w hI hW hbd hx h42
 by_cases h47 : x.op.toNat = 47
 ·exact asked_47 bi im bd ak n capk x e w hI hW hbd hx h47
 by_cases h60 : x.op.toNat = 60
 ·exact asked_60 bi im bd ak n capk x e w hI hW hbd hx h60
 by_cases h61 : x.op.toNat = 61
 ·exact asked_61 bi im bd ak n capk x e w hI hW hbd hx h61
 by_cases h119 : x.op.toNat = 119
 ·exact asked_119 bi im bd ak n capk x e w hI hW hbd hx h119
 by_cases h115 : x.op.toNat = 115
 ·exact asked_115 bi im bd ak n capk x e w hI hW hbd hx h115
 by_cases h103 : x.op.toNat = 103
 ·exact asked_103 bi im bd ak n capk x e w hI hW hbd hx h103
 by_cases h112 : x.op.toNat = 112
 ·exact asked_112 bi im bd ak n capk x e w hI hW hbd hx h112
 by_cases h99 : x.op.toNat = 99
 ·exact asked_99 bi im bd ak n capk x e w hI hW hbd hx h99
 exact asked_no bi im bd ak n capk x e w hI hW hbd hx (by omega)
theorem gives_122 (bi : Nat) (im : Img) (bd : Bod) (ak : Option Addr) (n capk : Nat) (x : Ins) (e : Nat) (w : World) (hI : ImgS w bi im) (hW : WfIS im) (hbd : WfBS im.classes im.sigs bd) (hx : WfN im.classes im.sigs.length bd.locals.length x) (hv : x.op.toNat = 122) :
  Calls Tryz.prog 121 #[.pointer (some ⟨bi, 0, none⟩), .agg #[.int .i64 bd.cls, .int .i64 bd.meth, .string ⟨bd.locals.toArray⟩, .slice none 0 0, .slice ak n capk], .agg #[.int .u8 x.op.toNat, .int .i64 x.a, .int .i64 x.b, .int .i64 x.pos, .int .i64 e]] w fun en w' => en = .returned (.int .u8 (giveT im.classes im.sigs bd.locals x).toNat) ∧ But (fun _ => False) w w' := by
 rw [show giveT im.classes im.sigs bd.locals x = 122 from by simp [giveT, hv]]
 have t122 : ((x.op.toNat : Int) == 122) = true := by rw [beq_iff_eq]; omega
 clear hv
 go_enter Tryz.func121, Tryz.ntmps121
 go_wp2_with fail
 go_ret
 exact ⟨rfl, (But.alloc _ _ _).trans (But.alloc _ _ _)⟩
theorem gives_110 (bi : Nat) (im : Img) (bd : Bod) (ak : Option Addr) (n capk : Nat) (x : Ins) (e : Nat) (w : World) (hI : ImgS w bi im) (hW : WfIS im) (hbd : WfBS im.classes im.sigs bd) (hx : WfN im.classes im.sigs.length bd.locals.length x) (hv : x.op.toNat = 110) :
  Calls Tryz.prog 121 #[.pointer (some ⟨bi, 0, none⟩), .agg #[.int .i64 bd.cls, .int .i64 bd.meth, .string ⟨bd.locals.toArray⟩, .slice none 0 0, .slice ak n capk], .agg #[.int .u8 x.op.toNat, .int .i64 x.a, .int .i64 x.b, .int .i64 x.pos, .int .i64 e]] w fun en w' => en = .returned (.int .u8 (giveT im.classes im.sigs bd.locals x).toNat) ∧ But (fun _ => False) w w' := by
 rw [show giveT im.classes im.sigs bd.locals x = clsT x.a from by simp [giveT, hv]]
 have t122 : ((x.op.toNat : Int) == 122) = false := by rw [beq_eq_false_iff_ne]; omega
 have t108 : ((x.op.toNat : Int) == 108) = false := by rw [beq_eq_false_iff_ne]; omega
 have t110 : ((x.op.toNat : Int) == 110) = true := by rw [beq_iff_eq]; omega
 have hxa : x.a < 4 := by have := hx.cls (by omega); have := hW.nc; omega
 have hcx := clsT_nat hxa
 have hxi : (x.a : Int) < 4 := by omega
 have hwr := wrapI (65 + (x.a : Int)) (by omega) (by omega)
 have hwr8 := IntWalk.u8_in (65 + (x.a : Int)) (by omega)
 clear hv
 go_enter Tryz.func121, Tryz.ntmps121
 go_wp2_with fail
 go_ret
 exact ⟨rfl, (But.alloc _ _ _).trans (But.alloc _ _ _)⟩
theorem gives_108 (bi : Nat) (im : Img) (bd : Bod) (ak : Option Addr) (n capk : Nat) (x : Ins) (e : Nat) (w : World) (hI : ImgS w bi im) (hW : WfIS im) (hbd : WfBS im.classes im.sigs bd) (hx : WfN im.classes im.sigs.length bd.locals.length x) (hv : x.op.toNat = 108) :
  Calls Tryz.prog 121 #[.pointer (some ⟨bi, 0, none⟩), .agg #[.int .i64 bd.cls, .int .i64 bd.meth, .string ⟨bd.locals.toArray⟩, .slice none 0 0, .slice ak n capk], .agg #[.int .u8 x.op.toNat, .int .i64 x.a, .int .i64 x.b, .int .i64 x.pos, .int .i64 e]] w fun en w' => en = .returned (.int .u8 (giveT im.classes im.sigs bd.locals x).toNat) ∧ But (fun _ => False) w w' := by
 rw [show giveT im.classes im.sigs bd.locals x = bd.locals.getD x.b 0 from by simp [giveT, hv]]
 have t122 : ((x.op.toNat : Int) == 122) = false := by rw [beq_eq_false_iff_ne]; omega
 have t108 : ((x.op.toNat : Int) == 108) = true := by rw [beq_iff_eq]; omega
 have hb := hx.loc (by omega)
 have hbI : (x.b : Int) < (bd.locals.length : Int) := by omega
 have hb5 := hbd.loc.1
 have hnc := hW.nc
 clear hv
 have hIW := hI.but (show But (fun _ => False) w ((w.alloc (.cells #[.int .i64 bd.cls, .int .i64 bd.meth, .string ⟨bd.locals.toArray⟩, .slice none 0 0, .slice ak n capk] 52)).alloc (.cells #[.int .u8 x.op.toNat, .int .i64 x.a, .int .i64 x.b, .int .i64 x.pos, .int .i64 e] 147)) from (But.alloc _ _ _).trans (But.alloc _ _ _))
 have hfl : ∀ h, (⟨bd.locals.toArray⟩ : ByteArray)[x.b]'h = bd.locals.getD x.b 0 := fun h => by rw [getD_lt bd.locals _ hb]; exact lget bd.locals _ hb _
 obtain ⟨D, hD⟩ : ∃ D, bd.locals.getD x.b 0 = D := ⟨_, rfl⟩
 rw [hD] at hfl ⊢
 clear hD
 go_enter Tryz.func121, Tryz.ntmps121
 go_wp2_with fail
 go_ret
 exact ⟨rfl, (But.alloc _ _ _).trans (But.alloc _ _ _)⟩
theorem gives_103 (bi : Nat) (im : Img) (bd : Bod) (ak : Option Addr) (n capk : Nat) (x : Ins) (e : Nat) (w : World) (hI : ImgS w bi im) (hW : WfIS im) (hbd : WfBS im.classes im.sigs bd) (hx : WfN im.classes im.sigs.length bd.locals.length x) (hv : x.op.toNat = 103) :
  Calls Tryz.prog 121 #[.pointer (some ⟨bi, 0, none⟩), .agg #[.int .i64 bd.cls, .int .i64 bd.meth, .string ⟨bd.locals.toArray⟩, .slice none 0 0, .slice ak n capk], .agg #[.int .u8 x.op.toNat, .int .i64 x.a, .int .i64 x.b, .int .i64 x.pos, .int .i64 e]] w fun en w' => en = .returned (.int .u8 (giveT im.classes im.sigs bd.locals x).toNat) ∧ But (fun _ => False) w w' := by
 rw [show giveT im.classes im.sigs bd.locals x = fieldT im.classes x.a x.b from by simp [giveT, hv]]
 have t122 : ((x.op.toNat : Int) == 122) = false := by rw [beq_eq_false_iff_ne]; omega
 have t108 : ((x.op.toNat : Int) == 108) = false := by rw [beq_eq_false_iff_ne]; omega
 have t110 : ((x.op.toNat : Int) == 110) = false := by rw [beq_eq_false_iff_ne]; omega
 have t103 : ((x.op.toNat : Int) == 103) = true := by rw [beq_iff_eq]; omega
 have hnc := hW.nc
 have hxa : x.a < im.classes.length := hx.cls (by omega)
 have hxb := hx.fld (by omega)
 clear hv
 have hIW := hI.but (show But (fun _ => False) w ((w.alloc (.cells #[.int .i64 bd.cls, .int .i64 bd.meth, .string ⟨bd.locals.toArray⟩, .slice none 0 0, .slice ak n capk] 52)).alloc (.cells #[.int .u8 x.op.toNat, .int .i64 x.a, .int .i64 x.b, .int .i64 x.pos, .int .i64 e] 147)) from (But.alloc _ _ _).trans (But.alloc _ _ _))
 obtain ⟨g, m, cap, fl, d0, hm, hc, hjl, hfe, lbi, lg⟩ := hIW.cls.flds hxa hxb
 have hjl2 : (x.b : Int) < (fl.length : Int) := by omega
 have hfl : ∀ h, (⟨fl.toArray⟩ : ByteArray)[x.b]'h = fieldT im.classes x.a x.b := fun h => by rw [← hfe, getD_lt fl _ hjl]; exact lget fl _ hjl _
 go_enter Tryz.func121, Tryz.ntmps121
 go_wp2_with fail
 go_quiet (fail)
 go_wp2
 go_ret
 exact ⟨rfl, ((But.alloc _ _ _).trans (But.alloc _ _ _)).trans (But.drewN _ _ _)⟩
theorem gives_99 (bi : Nat) (im : Img) (bd : Bod) (ak : Option Addr) (n capk : Nat) (x : Ins) (e : Nat) (w : World) (hI : ImgS w bi im) (hW : WfIS im) (hbd : WfBS im.classes im.sigs bd) (hx : WfN im.classes im.sigs.length bd.locals.length x) (hv : x.op.toNat = 99) :
  Calls Tryz.prog 121 #[.pointer (some ⟨bi, 0, none⟩), .agg #[.int .i64 bd.cls, .int .i64 bd.meth, .string ⟨bd.locals.toArray⟩, .slice none 0 0, .slice ak n capk], .agg #[.int .u8 x.op.toNat, .int .i64 x.a, .int .i64 x.b, .int .i64 x.pos, .int .i64 e]] w fun en w' => en = .returned (.int .u8 (giveT im.classes im.sigs bd.locals x).toNat) ∧ But (fun _ => False) w w' := by
 rw [show giveT im.classes im.sigs bd.locals x = retT im.sigs x.b from by simp [giveT, hv]]
 have t122 : ((x.op.toNat : Int) == 122) = false := by rw [beq_eq_false_iff_ne]; omega
 have t108 : ((x.op.toNat : Int) == 108) = false := by rw [beq_eq_false_iff_ne]; omega
 have t110 : ((x.op.toNat : Int) == 110) = false := by rw [beq_eq_false_iff_ne]; omega
 have t103 : ((x.op.toNat : Int) == 103) = false := by rw [beq_eq_false_iff_ne]; omega
 have t99 : ((x.op.toNat : Int) == 99) = true := by rw [beq_iff_eq]; omega
 have hnc := hW.nc
 have hxb := hx.sig hv
 clear hv
 have hIW := hI.but (show But (fun _ => False) w ((w.alloc (.cells #[.int .i64 bd.cls, .int .i64 bd.meth, .string ⟨bd.locals.toArray⟩, .slice none 0 0, .slice ak n capk] 52)).alloc (.cells #[.int .u8 x.op.toNat, .int .i64 x.a, .int .i64 x.b, .int .i64 x.pos, .int .i64 e] 147)) from (But.alloc _ _ _).trans (But.alloc _ _ _))
 obtain ⟨g, m, cap, d1, hm, hc, hc2, lbi, lg⟩ := hIW.sig.at hxb
 go_enter Tryz.func121, Tryz.ntmps121
 go_wp2_with fail
 go_quiet (fail)
 go_wp2
 go_ret
 exact ⟨rfl, ((But.alloc _ _ _).trans (But.alloc _ _ _)).trans (But.drewN _ _ _)⟩
theorem gives_no (bi : Nat) (im : Img) (bd : Bod) (ak : Option Addr) (n capk : Nat) (x : Ins) (e : Nat) (w : World) (hI : ImgS w bi im) (hW : WfIS im) (hbd : WfBS im.classes im.sigs bd) (hx : WfN im.classes im.sigs.length bd.locals.length x) (hv : x.op.toNat ≠ 122 ∧ x.op.toNat ≠ 108 ∧ x.op.toNat ≠ 110 ∧ x.op.toNat ≠ 103 ∧ x.op.toNat ≠ 99) :
  Calls Tryz.prog 121 #[.pointer (some ⟨bi, 0, none⟩), .agg #[.int .i64 bd.cls, .int .i64 bd.meth, .string ⟨bd.locals.toArray⟩, .slice none 0 0, .slice ak n capk], .agg #[.int .u8 x.op.toNat, .int .i64 x.a, .int .i64 x.b, .int .i64 x.pos, .int .i64 e]] w fun en w' => en = .returned (.int .u8 (giveT im.classes im.sigs bd.locals x).toNat) ∧ But (fun _ => False) w w' := by
 rw [show giveT im.classes im.sigs bd.locals x = 105 from by simp [giveT, hv]]
 have t122 : ((x.op.toNat : Int) == 122) = false := by rw [beq_eq_false_iff_ne]; omega
 have t108 : ((x.op.toNat : Int) == 108) = false := by rw [beq_eq_false_iff_ne]; omega
 have t110 : ((x.op.toNat : Int) == 110) = false := by rw [beq_eq_false_iff_ne]; omega
 have t103 : ((x.op.toNat : Int) == 103) = false := by rw [beq_eq_false_iff_ne]; omega
 have t99 : ((x.op.toNat : Int) == 99) = false := by rw [beq_eq_false_iff_ne]; omega
 clear hv
 go_enter Tryz.func121, Tryz.ntmps121
 go_wp2_with fail
 go_ret
 exact ⟨rfl, (But.alloc _ _ _).trans (But.alloc _ _ _)⟩
theorem gives_any (bi : Nat) (im : Img) (bd : Bod) (ak : Option Addr) (n capk : Nat) (x : Ins) (e : Nat) (w : World) (hI : ImgS w bi im) (hW : WfIS im) (hbd : WfBS im.classes im.sigs bd) (hx : WfN im.classes im.sigs.length bd.locals.length x) :
  Calls Tryz.prog 121 #[.pointer (some ⟨bi, 0, none⟩), .agg #[.int .i64 bd.cls, .int .i64 bd.meth, .string ⟨bd.locals.toArray⟩, .slice none 0 0, .slice ak n capk], .agg #[.int .u8 x.op.toNat, .int .i64 x.a, .int .i64 x.b, .int .i64 x.pos, .int .i64 e]] w fun en w' => en = .returned (.int .u8 (giveT im.classes im.sigs bd.locals x).toNat) ∧ But (fun _ => False) w w' := by
 by_cases h122 : x.op.toNat = 122
 ·exact gives_122 bi im bd ak n capk x e w hI hW hbd hx h122
 by_cases h108 : x.op.toNat = 108
 ·exact gives_108 bi im bd ak n capk x e w hI hW hbd hx h108
 by_cases h110 : x.op.toNat = 110
 ·exact gives_110 bi im bd ak n capk x e w hI hW hbd hx h110
 by_cases h103 : x.op.toNat = 103
 ·exact gives_103 bi im bd ak n capk x e w hI hW hbd hx h103
 by_cases h99 : x.op.toNat = 99
 ·exact gives_99 bi im bd ak n capk x e w hI hW hbd hx h99
 exact gives_no bi im bd ak n capk x e w hI hW hbd hx (by omega)
end Go.Proofs.YtpfkkmacakjmbaaGreatDoor
