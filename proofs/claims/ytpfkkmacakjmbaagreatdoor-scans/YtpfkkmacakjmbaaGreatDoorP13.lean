import Derived.Test.YtpfkkmacakjmbaaGreatDoorP12
set_option maxRecDepth 100000
set_option maxHeartbeats 6400000
namespace Go.Proofs.YtpfkkmacakjmbaaGreatDoor
open Go Go.RowKit Sp
set_option linter.unusedSimpArgs false
set_option linter.unusedVariables false
attribute [local go_sem ↓] Go.wp_at_zero Go.wp_at_succ
theorem linkS_errpos {s : ByteArray} {e p : Nat} (h : linkS s = .error (e, p)) : 0 < e ∧ e ≤ 3 := by
 unfold linkS at h
 split at h
 ·cases h; omega
 ·split at h
  ·cases h; omega
  ·split at h
   ·cases h; omega
   ·cases h
theorem scanP_err {s : ByteArray} {e p : Nat} (h : linkS s = .error (e, p)) : scanP s = (e, p) := by simp [scanP, h]
theorem scanP_no {s : ByteArray} {im : Img} (h : linkS s = .ok im) {k : Nat} (hk : k < im.bodies.length) (hb : bodyT im im.bodies[k] = false) (ha : ∀ j (hj : j < im.bodies.length), j < k → bodyT im im.bodies[j] = true) : scanP s = (4, k) := by
 have : im.bodies.findIdx? (fun b => !bodyT im b) = some k := by
  rw [List.findIdx?_eq_some_iff_getElem]
  exact ⟨hk, by simp [hb], fun j hj => by simp [ha j (by omega) hj]⟩
 simp [scanP, h, this]
theorem scanP_yes {s : ByteArray} {im : Img} (h : linkS s = .ok im) (ha : ∀ j (hj : j < im.bodies.length), bodyT im im.bodies[j] = true) : scanP s = (0, 0) := by
 have : im.bodies.findIdx? (fun b => !bodyT im b) = none := by
  rw [List.findIdx?_eq_none_iff]
  intro x hx
  obtain ⟨j, hj, rfl⟩ := List.getElem_of_mem hx
  simp [ha j hj]
 simp [scanP, h, this]
theorem scanS_any (s : ByteArray) (w : World) (hmax : s.size ≤ maxLen) :
  Calls Tryz.prog 49 #[.string s] w fun en w' => en = .returned (.tuple #[.int .i64 (scanP s).1, .int .i64 (scanP s).2]) ∧ But (fun _ => False) w w' := by
 obtain ⟨R, hRR⟩ : ∃ R, scanP s = R := ⟨_, rfl⟩
 rw [hRR]
 have HRR := hid hRR
 clear hRR
 go_enter Tryz.func49, Tryz.ntmps49
 go_wp2_with fail
 refine (linkedS_any s w hmax).mono ?_
 rintro en w1 ⟨rfl, hB1, hp⟩
 cases hl : linkS s with
 | error q =>
  obtain ⟨e, p⟩ := q
  have hres : R = (e, p) := by rw [← HRR.out]; exact scanP_err hl
  subst hres
  obtain ⟨he, he3⟩ := linkS_errpos hl
  have heI : ((e : Int) != 0) = true := by rw [bne_iff_ne]; omega
  simp only [linkV]
  clear hp hl
  go_wp2_with fail
  go_ret2
  exact ⟨rfl, hB1⟩
 | ok im =>
  rw [hl] at hp
  obtain ⟨hI, hW⟩ := hp
  have HLK := hid hl
  clear hl
  simp only [linkV]
  obtain ⟨v0, v1, v2, l, hIm, hC, hS, hB, hl, hcd⟩ := hI
  have hI : ImgS w1 w.heap.size im := ⟨v0, v1, v2, l, hIm, hC, hS, hB, hl, hcd⟩
  obtain ⟨a2, cap2, rfl⟩ := owns_len hB
  have hll : l.length ≤ 7 := by have := hW.nb; rw [← hl] at this; simpa using this
  have HL : Hid (l.map (·.1) = im.bodies) := hl
  clear hl
  obtain ⟨a1, cap1, rfl⟩ := owns_len hS
  go_wp2_with fail
  go_loopg [7] l.length (fun mm ks wr => ∃ (k : Nat), ks = .int .i64 k ∧ k ≤ l.length ∧ k + mm ≤ l.length ∧ l.length ≤ k + mm ∧ But (fun _ => False) w1 wr ∧ Hid (∀ j (hj : j < im.bodies.length), j < k → bodyT im im.bodies[j] = true))
  case atStart => exact ⟨0, rfl, by omega, by omega, by omega, But.refl _ _, fun j hj h => absurd h (by omega)⟩
  case round =>
   obtain ⟨k, rfl, hk1, hk2, hk3, hBr, HA⟩ := hrel
   have d1 := (hIm.but hBr (fun h => h)).c1
   have d2 := (hIm.but hBr (fun h => h)).c2
   have HLL : Hid (l.length = im.bodies.length) := by show _ = _; rw [← HL.out]; simp
   by_cases hlt : k < l.length
   ·have hx := List.getElem?_eq_getElem hlt
    obtain ⟨g, rfl, hg1, hg2, hcell⟩ := owns_two (owns_but hB hBr (fun _ _ h => h)) (by omega)
    have q0 := hcell _ _ (bodCells_at0 hx)
    have q1 := hcell _ _ (bodCells_at1 hx)
    have q2 := hcell _ _ (bodCells_at2 hx)
    have q3 := hcell _ _ (bodCells_at3 hx)
    have q4 := hcell _ _ (bodCells_at4 hx)
    have hmem : l[k] ∈ l := List.getElem_mem hlt
    obtain ⟨hok, htr⟩ := hcd _ hmem
    have hwb : WfBS im.classes im.sigs l[k].1 := hW.bod _ (by rw [← HL.out]; exact List.mem_map_of_mem hmem)
    have hlt' : k < im.bodies.length := by rw [← HLL.out]; exact hlt
    have hbk : im.bodies[k] = l[k].1 := by
     have h1 : (l.map (·.1))[k]? = im.bodies[k]? := by rw [HL.out]
     rw [List.getElem?_map, List.getElem?_eq_getElem hlt, List.getElem?_eq_getElem hlt'] at h1
     exact (Option.some.inj h1).symm
    have HNO : Hid (bodyT im l[k].1 = false → R = (4, k)) := fun h => by
     rw [← HRR.out]
     exact scanP_no HLK.out hlt' (by rw [hbk]; exact h) HA.out
    have HNX : Hid (bodyT im l[k].1 = true → ∀ j (hj : j < im.bodies.length), j < k + 1 → bodyT im im.bodies[j] = true) := fun h j hj hjk => by
     rcases Nat.lt_or_ge j k with h' | h'
     ·exact HA.out j hj h'
     ·have : j = k := by omega
      subst this
      rw [hbk]
      exact h
    clear hbk hlt'
    obtain ⟨X, hX⟩ : ∃ X, l[k] = X := ⟨_, rfl⟩
    rw [hX] at q0 q1 q2 q3 q4 hok htr hwb HNO HNX
    rw [htr] at q3
    obtain ⟨Xb, Xk, Xt⟩ := X
    simp only at q0 q1 q2 q3 q4 hok hwb HNO HNX
    obtain ⟨ak, capk, rfl⟩ := owns_len hok
    clear hcell hx hX hmem htr
    have hkn : (k : Int) < (l.length : Int) := by omega
    have h0n : 0 < Xb.code.length := full_pos (m := 0) hwb.full
    have hBa : But (fun _ => False) wr (wr.alloc (.cells #[.int .i64 Xb.cls, .int .i64 Xb.meth, .string ⟨Xb.locals.toArray⟩, .slice none 0 0, .slice ak Xb.code.length capk] 52)) := But.alloc _ _ _
    have hga : (wr.alloc (.cells #[.int .i64 Xb.cls, .int .i64 Xb.meth, .string ⟨Xb.locals.toArray⟩, .slice none 0 0, .slice ak Xb.code.length capk] 52)).heap[wr.heap.size]? = some (.cells #[.int .i64 Xb.cls, .int .i64 Xb.meth, .string ⟨Xb.locals.toArray⟩, .slice none 0 0, .slice ak Xb.code.length capk] 52) := heap_alloc_new _ _
    go_wp2_with fail
    generalize (wr.alloc (.cells #[.int .i64 Xb.cls, .int .i64 Xb.meth, .string ⟨Xb.locals.toArray⟩, .slice none 0 0, .slice ak Xb.code.length capk] 52)) = wa at *
    clear q0 q1 q2 q3 q4 d1 d2
    have hBra := hBr.trans hBa
    refine (typ_any w.heap.size im Xb ak Xb.code.length capk rfl hW hwb Xb.code.length 0 0 wa h0n (by omega) (by simpa using hwb.full) (hI.but hBra) (owns_but hok hBra (fun _ _ h => h))).mono ?_
    rintro en w2 ⟨hq, hB2⟩
    have hBw2 := hBra.trans hB2
    have hg2 := (hB2.block _ (lt_of_block hga) (fun h => h)).trans hga
    have hgl2 := lt_of_block hg2
    cases hty : typN im.classes im.sigs Xb.locals Xb.code Xb.code.length 0 with
    | none =>
     rw [hty] at hq
     obtain ⟨v, rfl⟩ := hq
     have hres : R = (4, k) := HNO.out (by simp [bodyT, hty])
     subst hres
     clear hty
     go_wp2_with fail
     go_ret2
     exact ⟨rfl, hB1.trans hBw2⟩
    | some c =>
     rw [hty] at hq
     have hq : en = .returned (.tuple #[.int .u8 c.toNat, .bool true]) := hq
     subst hq
     have hco := typN_ok hW hwb hty
     have g0 : w2.cell? ⟨wr.heap.size, 0, none⟩ = some (.int .i64 Xb.cls) := by rw [cell_of_row w2 _ 0 _ _ (0, 0) hg2]; rfl
     by_cases hcl : Xb.cls < 0
     ·have hcl' : ¬ (0 : Int) ≤ Xb.cls := by omega
      have HBT : Hid (bodyT im Xb = subT im.classes c 105) := by show _ = _; simp [bodyT, hty, hcl]
      clear hty hcl
      go_wp2_with fail
      refine (sub_any w.heap.size im.classes c 105 _ (hI.but hBw2).cls hW.cls hW.nc hco).mono ?_
      rintro en wx ⟨rfl, hwx⟩
      rw [hwx]
      clear hwx wx
      cases hsub : subT im.classes c 105 with
      | false =>
       have hres : R = (4, k) := HNO.out (HBT.out.trans hsub)
       subst hres
       clear hsub
       go_wp2_with fail
       go_ret2
       exact ⟨rfl, hB1.trans hBw2⟩
      | true =>
       have HH := hid (HNX.out (HBT.out.trans hsub))
       clear hsub
       go_wp2_with fail
       go_roundg (l.length - (k + 1))
       case measure => omega
       case rel => exact ⟨k + 1, by simp, by omega, by omega, by omega, hBw2, HH⟩
     ·have hcl' : (0 : Int) ≤ Xb.cls := by omega
      have HBT : Hid (bodyT im Xb = subT im.classes c (retT im.sigs Xb.meth.toNat)) := by show _ = _; simp [bodyT, hty, hcl]
      obtain ⟨mq, hmq, hmqs⟩ : ∃ mq : Nat, Xb.meth = mq ∧ mq < im.sigs.length := by
       rcases hwb.cls with h | h
       ·omega
       ·exact ⟨Xb.meth.toNat, by omega, by omega⟩
      have g1 : w2.cell? ⟨wr.heap.size, 1, none⟩ = some (.int .i64 mq) := by rw [cell_of_row w2 _ 1 _ _ (0, 0) hg2, ← hmq]; rfl
      rw [hmq] at HBT
      simp only [Int.toNat_natCast] at HBT
      clear hty hcl hmq
      obtain ⟨gS, mS, capS, e1, hmS, hcS, hcS2, lbi, lgS⟩ := (hI.but hBw2).sig.at hmqs
      go_wp2_with fail
      go_quiet (fail)
      go_wp2_with fail
      have hBq : ∀ nd, But (fun _ => False) w1 (w2.drewN nd) := fun nd => hBw2.trans (But.drewN _ _ _)
      refine (sub_any w.heap.size im.classes c (retT im.sigs mq) _ (hI.but (hBq _)).cls hW.cls hW.nc hco).mono ?_
      rintro en wx ⟨rfl, hwx⟩
      rw [hwx]
      clear hwx wx g0 g1 e1 hcS hcS2
      cases hsub : subT im.classes c (retT im.sigs mq) with
      | false =>
       have hres : R = (4, k) := HNO.out (HBT.out.trans hsub)
       subst hres
       clear hsub
       go_wp2_with fail
       go_ret2
       exact ⟨rfl, hB1.trans (hBq _)⟩
      | true =>
       have HH := hid (HNX.out (HBT.out.trans hsub))
       clear hsub
       go_wp2_with fail
       go_roundg (l.length - (k + 1))
       case measure => omega
       case rel => exact ⟨k + 1, by simp, by omega, by omega, by omega, hBq _, HH⟩
   ·have hres : R = (0, 0) := by
     rw [← HRR.out]
     exact scanP_yes HLK.out (fun j hj => HA.out j hj (by rw [← HLL.out] at hj; omega))
    subst hres
    go_wp2_with fail
    go_ret2
    exact ⟨rfl, hB1.trans hBr⟩
end Go.Proofs.YtpfkkmacakjmbaaGreatDoor
