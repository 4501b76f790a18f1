import Derived.Test.YtpfkkmacakjmbaaGreatDoorP12
import Derived.Test.YtpfkkmacakjmbaaGreatDoorP11
set_option maxRecDepth 100000
set_option maxHeartbeats 6400000
namespace Go.Proofs.YtpfkkmacakjmbaaGreatDoor
open Go Go.RowKit Sp
set_option linter.unusedSimpArgs false
set_option linter.unusedVariables false
attribute [local go_sem ↓] Go.wp_at_zero Go.wp_at_succ
theorem linkS_errpos {s : ByteArray} {e p : Nat} (h : linkS s = .error (e, p)) : 0 < e ∧ e ≤ 3 := by
 unfold linkS at h
 split at h
 ·cases h; omega
 ·split at h
  ·cases h; omega
  ·split at h
   ·cases h; omega
   ·cases h
theorem scanP_err {s : ByteArray} {e p : Nat} (h : linkS s = .error (e, p)) : scanP s = (e, p) := by simp [scanP, h]
theorem scanP_no {s : ByteArray} {im : Img} (h : linkS s = .ok im) {k : Nat} (hk : k < im.bodies.length) (hb : bodyT im im.bodies[k] = false) (ha : ∀ j (hj : j < im.bodies.length), j < k → bodyT im im.bodies[j] = true) : scanP s = (4, k) := by
 have : im.bodies.findIdx? (fun b => !bodyT im b) = some k := by
  rw [List.findIdx?_eq_some_iff_getElem]
  exact ⟨hk, by simp [hb], fun j hj => by simp [ha j (by omega) hj]⟩
 simp [scanP, h, this]
theorem scanP_yes {s : ByteArray} {im : Img} (h : linkS s = .ok im) (ha : ∀ j (hj : j < im.bodies.length), bodyT im im.bodies[j] = true) : scanP s = (0, 0) := by
 have : im.bodies.findIdx? (fun b => !bodyT im b) = none := by
  rw [List.findIdx?_eq_none_iff]
  intro x hx
  obtain ⟨j, hj, rfl⟩ := List.getElem_of_mem hx
  simp [ha j hj]
 simp [scanP, h, this]
theorem scanS_any (s : ByteArray) (w : World) (hmax : s.size ≤ maxLen) :
  Calls Tryz.prog 49 #[.string s] w fun en w' => en = .returned (.tuple #[.int .i64 (scanP s).1, .int .i64 (scanP s).2]) ∧ But (fun _ => False) w w' := by
 obtain ⟨R, hRR⟩ : ∃ R, scanP s = R := ⟨_, rfl⟩
 rw [hRR]
 have HRR := hid hRR
 clear hRR
 go_enter Tryz.func49, Tryz.ntmps49
 go_wp2_with fail
 refine (linkedS_any s w hmax).mono ?_
 rintro en w1 ⟨rfl, hB1, hp⟩
 cases hl : linkS s with
 | error q =>
  obtain ⟨e, p⟩ := q
  have hres : R = (e, p) := by rw [← HRR.out]; exact scanP_err hl
  subst hres
  obtain ⟨he, he3⟩ := linkS_errpos hl
  have heI : ((e : Int) != 0) = true := by rw [bne_iff_ne]; omega
  simp only [linkV]
  clear hp hl
  go_wp2_with fail
  go_ret2
  exact ⟨rfl, hB1⟩
 | ok im =>
  rw [hl] at hp
  obtain ⟨hI, hW⟩ := hp
  have HLK := hid hl
  clear hl
  simp only [linkV]
  obtain ⟨v0, v1, v2, l, hIm, hC, hS, hB, hl, hcd⟩ := hI
  have hI : ImgS w1 w.heap.size im := ⟨v0, v1, v2, l, hIm, hC, hS, hB, hl, hcd⟩
  obtain ⟨a2, cap2, rfl⟩ := owns_len hB
  have hll : l.length ≤ 7 := by have := hW.nb; rw [← hl] at this; simpa using this
  have HL : Hid (l.map (·.1) = im.bodies) := hl
  clear hl
  obtain ⟨a1, cap1, rfl⟩ := owns_len hS
  go_wp2_with fail
  go_loopg [7] l.length (fun mm ks wr => ∃ (k : Nat), ks = .int .i64 k ∧ k ≤ l.length ∧ k + mm ≤ l.length ∧ l.length ≤ k + mm ∧ But (fun _ => False) w1 wr ∧ Hid (∀ j (hj : j < im.bodies.length), j < k → bodyT im im.bodies[j] = true))
  case atStart => exact ⟨0, rfl, by omega, by omega, by omega, But.refl _ _, fun j hj h => absurd h (by omega)⟩
  case round =>
   obtain ⟨k, rfl, hk1, hk2, hk3, hBr, HA⟩ := hrel
   have d1 := (hIm.but hBr (fun h => h)).c1
   have d2 := (hIm.but hBr (fun h => h)).c2
   have HLL : Hid (l.length = im.bodies.length) := by show _ = _; rw [← HL.out]; simp
   by_cases hlt : k < l.length
   ·have hx := List.getElem?_eq_getElem hlt
    obtain ⟨g, rfl, hg1, hg2, hcell⟩ := owns_two (owns_but hB hBr (fun _ _ h => h)) (by omega)
    have q0 := hcell _ _ (bodCells_at0 hx)
    have q1 := hcell _ _ (bodCells_at1 hx)
    have q2 := hcell _ _ (bodCells_at2 hx)
    have q3 := hcell _ _ (bodCells_at3 hx)
    have q4 := hcell _ _ (bodCells_at4 hx)
    have hmem : l[k] ∈ l := List.getElem_mem hlt
    obtain ⟨hok, htr⟩ := hcd _ hmem
    have hwb : WfBS im.classes im.sigs l[k].1 := hW.bod _ (by rw [← HL.out]; exact List.mem_map_of_mem hmem)
    have hlt' : k < im.bodies.length := by rw [← HLL.out]; exact hlt
    have hbk : im.bodies[k] = l[k].1 := by
     have h1 : (l.map (·.1))[k]? = im.bodies[k]? := by rw [HL.out]
     rw [List.getElem?_map, List.getElem?_eq_getElem hlt, List.getElem?_eq_getElem hlt'] at h1
     exact (Option.some.inj h1).symm
    have HNO : Hid (bodyT im l[k].1 = false → R = (4, k)) := fun h => by
     rw [← HRR.out]
     exact scanP_no HLK.out hlt' (by rw [hbk]; exact h) HA.out
    have HNX : Hid (bodyT im l[k].1 = true → ∀ j (hj : j < im.bodies.length), j < k + 1 → bodyT im im.bodies[j] = true) := fun h j hj hjk => by
     rcases Nat.lt_or_ge j k with h' | h'
     ·exact HA.out j hj h'
     ·have : j = k := by omega
      subst this
      rw [hbk]
      exact h
    clear hbk hlt'
    obtain ⟨X, hX⟩ : ∃ X, l[k] = X := ⟨_, rfl⟩
    rw [hX] at q0 q1 q2 q3 q4 hok htr hwb HNO HNX
    rw [htr] at q3
    obtain ⟨Xb, Xk, Xt⟩ := X
    simp only at q0 q1 q2 q3 q4 hok hwb HNO HNX
    obtain ⟨ak, capk, rfl⟩ := owns_len hok
    clear hcell hx hX hmem htr
    have hkn : (k : Int) < (l.length : Int) := by omega
    have h0n : 0 < Xb.code.length := full_pos (m := 0) hwb.full
    have hBa : But (fun _ => False) wr (wr.alloc (.cells #[.int .i64 Xb.cls, .int .i64 Xb.meth, .string ⟨Xb.locals.toArray⟩, .slice none 0 0, .slice ak Xb.code.length capk] 52)) := But.alloc _ _ _
    have hga : (wr.alloc (.cells #[.int .i64 Xb.cls, .int .i64 Xb.meth, .string ⟨Xb.locals.toArray⟩, .slice none 0 0, .slice ak Xb.code.length capk] 52)).heap[wr.heap.size]? = some (.cells #[.int .i64 Xb.cls, .int .i64 Xb.meth, .string ⟨Xb.locals.toArray⟩, .slice none 0 0, .slice ak Xb.code.length capk] 52) := heap_alloc_new _ _
    go_wp2_with fail
    generalize (wr.alloc (.cells #[.int .i64 Xb.cls, .int .i64 Xb.meth, .string ⟨Xb.locals.toArray⟩, .slice none 0 0, .slice ak Xb.code.length capk] 52)) = wa at *
    clear q0 q1 q2 q3 q4 d1 d2
    have hBra := hBr.trans hBa
    refine (typ_any w.heap.size im Xb ak Xb.code.length capk rfl hW hwb Xb.code.length 0 0 wa h0n (by omega) (by simpa using hwb.full) (hI.but hBra) (owns_but hok hBra (fun _ _ h => h))).mono ?_
    rintro en w2 ⟨hq, hB2⟩
    have hBw2 := hBra.trans hB2
    have hg2 := (hB2.block _ (lt_of_block hga) (fun h => h)).trans hga
    have hgl2 := lt_of_block hg2
    cases hty : typN im.classes im.sigs Xb.locals Xb.code Xb.code.length 0 with
    | none =>
     rw [hty] at hq
     obtain ⟨v, rfl⟩ := hq
     have hres : R = (4, k) := HNO.out (by simp [bodyT, hty])
     subst hres
     clear hty
     go_wp2_with fail
     go_ret2
     exact ⟨rfl, hB1.trans hBw2⟩
    | some c =>
     rw [hty] at hq
     have hq : en = .returned (.tuple #[.int .u8 c.toNat, .bool true]) := hq
     subst hq
     have hco := typN_ok hW hwb hty
     have g0 : w2.cell? ⟨wr.heap.size, 0, none⟩ = some (.int .i64 Xb.cls) := by rw [cell_of_row w2 _ 0 _ _ (0, 0) hg2]; rfl
     by_cases hcl : Xb.cls < 0
     ·have hcl' : ¬ (0 : Int) ≤ Xb.cls := by omega
      have HBT : Hid (bodyT im Xb = subT im.classes c 105) := by show _ = _; simp [bodyT, hty, hcl]
      clear hty hcl
      go_wp2_with fail
      refine (sub_any w.heap.size im.classes c 105 _ (hI.but hBw2).cls hW.cls hW.nc hco).mono ?_
      rintro en wx ⟨rfl, hwx⟩
      rw [hwx]
      clear hwx wx
      cases hsub : subT im.classes c 105 with
      | false =>
       have hres : R = (4, k) := HNO.out (HBT.out.trans hsub)
       subst hres
       clear hsub
       go_wp2_with fail
       go_ret2
       exact ⟨rfl, hB1.trans hBw2⟩
      | true =>
       have HH := hid (HNX.out (HBT.out.trans hsub))
       clear hsub
       go_wp2_with fail
       go_roundg (l.length - (k + 1))
       case measure => omega
       case rel => exact ⟨k + 1, by simp, by omega, by omega, by omega, hBw2, HH⟩
     ·have hcl' : (0 : Int) ≤ Xb.cls := by omega
      have HBT : Hid (bodyT im Xb = subT im.classes c (retT im.sigs Xb.meth.toNat)) := by show _ = _; simp [bodyT, hty, hcl]
      obtain ⟨mq, hmq, hmqs⟩ : ∃ mq : Nat, Xb.meth = mq ∧ mq < im.sigs.length := by
       rcases hwb.cls with h | h
       ·omega
       ·exact ⟨Xb.meth.toNat, by omega, by omega⟩
      have g1 : w2.cell? ⟨wr.heap.size, 1, none⟩ = some (.int .i64 mq) := by rw [cell_of_row w2 _ 1 _ _ (0, 0) hg2, ← hmq]; rfl
      rw [hmq] at HBT
      simp only [Int.toNat_natCast] at HBT
      clear hty hcl hmq
      obtain ⟨gS, mS, capS, e1, hmS, hcS, hcS2, lbi, lgS⟩ := (hI.but hBw2).sig.at hmqs
      go_wp2_with fail
      go_quiet (fail)
      go_wp2_with fail
      have hBq : ∀ nd, But (fun _ => False) w1 (w2.drewN nd) := fun nd => hBw2.trans (But.drewN _ _ _)
      refine (sub_any w.heap.size im.classes c (retT im.sigs mq) _ (hI.but (hBq _)).cls hW.cls hW.nc hco).mono ?_
      rintro en wx ⟨rfl, hwx⟩
      rw [hwx]
      clear hwx wx g0 g1 e1 hcS hcS2
      cases hsub : subT im.classes c (retT im.sigs mq) with
      | false =>
       have hres : R = (4, k) := HNO.out (HBT.out.trans hsub)
       subst hres
       clear hsub
       go_wp2_with fail
       go_ret2
       exact ⟨rfl, hB1.trans (hBq _)⟩
      | true =>
       have HH := hid (HNX.out (HBT.out.trans hsub))
       clear hsub
       go_wp2_with fail
       go_roundg (l.length - (k + 1))
       case measure => omega
       case rel => exact ⟨k + 1, by simp, by omega, by omega, by omega, hBq _, HH⟩
   ·have hres : R = (0, 0) := by
     rw [← HRR.out]
     exact scanP_yes HLK.out (fun j hj => HA.out j hj (by rw [← HLL.out] at hj; omega))
    subst hres
    go_wp2_with fail
    go_ret2
    exact ⟨rfl, hB1.trans hBr⟩
def vCells (v : V) : List Value := [.int .u8 v.K, .int .i64 v.N]
def vAgg (v : V) : Value := .agg #[.int .u8 v.K, .int .i64 v.N]
def valCells (l : List V) : List Value := l.flatMap vCells
theorem valCells_len (l : List V) : (valCells l).length = l.length * 2 := by
 induction l with
 | nil => rfl
 | cons v l ih => simp [valCells, vCells] at ih ⊢; omega
theorem valCells_snoc (l : List V) (v : V) : valCells (l ++ [v]) = valCells l ++ [.int .u8 v.K, .int .i64 v.N] := by simp [valCells, vCells]
theorem valCells_at {l : List V} {j k : Nat} {v : V} (h : l[j]? = some v) (hk : k < 2) : (valCells l)[j * 2 + k]? = (vCells v)[k]? := flat_at vCells 2 (fun _ => rfl) l j k v h hk
theorem plain_any (t : UInt8) (w : World) :
  Calls Tryz.prog 108 #[.int .u8 t.toNat] w fun en w' => en = .returned (vAgg (plainV t)) ∧ But (fun _ => False) w w' := by
 by_cases h : t.toNat = 105
 ·have hb : ((t.toNat : Int) == 105) = true := by rw [beq_iff_eq]; omega
  rw [show plainV t = .i 0 from by unfold plainV; rw [if_pos h]]
  clear h
  go_enter Tryz.func108, Tryz.ntmps108
  go_wp2_with fail
  exact bodyPost_ret (v := vAgg (.i 0)) (by simp [results, Tryz.results108, go_sem, vAgg, V.K, V.N]) rfl ⟨rfl, But.alloc _ _ _⟩
 ·have hb : ((t.toNat : Int) == 105) = false := by rw [beq_eq_false_iff_ne]; omega
  rw [show plainV t = .z from by unfold plainV; rw [if_neg h]]
  clear h
  go_enter Tryz.func108, Tryz.ntmps108
  go_wp2_with fail
  exact bodyPost_ret (v := vAgg .z) (by simp [results, Tryz.results108, go_sem, vAgg, V.K, V.N]) rfl ⟨rfl, But.alloc _ _ _⟩
theorem truth_any (b : Bool) (w : World) :
  Calls Tryz.prog 182 #[.bool b] w fun en w' => en = .returned (vAgg (if b = true then .i 1 else .i 0)) ∧ But (fun _ => False) w w' := by
 cases b
 ·go_enter Tryz.func182, Tryz.ntmps182
  go_wp2_with fail
  exact bodyPost_ret (v := vAgg (.i 0)) (by simp [results, Tryz.results182, go_sem, vAgg, V.K, V.N]) rfl ⟨rfl, But.alloc _ _ _⟩
 ·go_enter Tryz.func182, Tryz.ntmps182
  go_wp2_with fail
  exact bodyPost_ret (v := vAgg (.i 1)) (by simp [results, Tryz.results182, go_sem, vAgg, V.K, V.N]) rfl ⟨rfl, But.alloc _ _ _⟩
theorem nextIn_any (s : ByteArray) (i : Nat) (hi : i ≤ 5000) (w : World) :
  Calls Tryz.prog 180 #[.string s, .int .i64 i] w fun en w' => en = .returned (.int .i64 (nextV s i)) ∧ w' = w := by
 by_cases h : i < s.size
 ·have hI : ¬ ((s.size : Int) ≤ (i : Int)) := by omega
  have hI2 : (i : Int) < (s.size : Int) := by omega
  rw [show nextV s i = (s[i].toNat : Int) from by unfold nextV; rw [dif_pos h]]
  have hw := wrapI (s[i].toNat : Int) (by omega) (by have := s[i].toNat_lt; omega)
  rw [IntWalk.i64_left] at hw
  go_enter Tryz.func180, Tryz.ntmps180
  go_wp2_with fail
  go_ret
  exact ⟨rfl, rfl⟩
 ·have hI : ((s.size : Int) ≤ (i : Int)) := by omega
  rw [show nextV s i = -1 from by unfold nextV; rw [dif_neg h]]
  go_enter Tryz.func180, Tryz.ntmps180
  go_wp2_with fail
  go_ret
  exact ⟨rfl, rfl⟩
theorem tmod32 (n : Int) : (0 ≤ n → n.tmod 4294967296 = n % 4294967296) ∧ (n < 0 → n.tmod 4294967296 = -((-n) % 4294967296)) := by
 refine ⟨fun h => Int.tmod_eq_emod_of_nonneg h, fun h => ?_⟩
 have : n = -(-n) := by omega
 rw [this, Int.neg_tmod, Int.tmod_eq_emod_of_nonneg (by omega)]
 simp
theorem wrap_any (n : Int) (h1 : -9223372036854775808 ≤ n) (h2 : n ≤ 9223372036854775807) (w : World) :
  Calls Tryz.prog 184 #[.int .i64 n] w fun en w' => en = .returned (.int .i64 (w32 n)) ∧ w' = w := by
 have ht := hid (tmod32 n)
 go_enter Tryz.func184, Tryz.ntmps184
 go_wp2_with fail
 all_goals go_ret
 all_goals refine ⟨ret_int ?_, rfl⟩
 all_goals
  have ht := ht.out
  unfold w32 wrap32
  have hw : ∀ m : Int, -9223372036854775808 ≤ m → m ≤ 9223372036854775807 → wrap64 m = m := fun m h1 h2 => IntWalk.wrap64_in m ⟨h1, h2⟩
  have hr : -4294967296 < n.tmod 4294967296 ∧ n.tmod 4294967296 < 4294967296 := by omega
  try rw [hw (n.tmod 4294967296 + 4294967296) (by omega) (by omega)] at *
  try rw [hw (n.tmod 4294967296 - 4294967296) (by omega) (by omega)]
  try rw [hw (n.tmod 4294967296 + 4294967296 - 4294967296) (by omega) (by omega)]
  omega
theorem w32_in {n : Int} (h1 : -2147483648 ≤ n) (h2 : n ≤ 2147483647) : w32 n = n := by unfold w32 wrap32; omega
theorem mul_bound {a b : Int} (a1 : -2147483648 ≤ a) (a2 : a < 2147483648) (b1 : -2147483648 ≤ b) (b2 : b < 2147483648) : -4611686018427387904 ≤ a * b ∧ a * b ≤ 4611686018427387904 := by
 have h := Nat.mul_le_mul (show a.natAbs ≤ 2147483648 by omega) (show b.natAbs ≤ 2147483648 by omega)
 rw [← Int.natAbs_mul] at h
 omega
theorem alu_any (op : Nat) (hop : op = 43 ∨ op = 45 ∨ op = 42 ∨ op = 60 ∨ op = 61) (a b : Int) (a1 : -2147483648 ≤ a) (a2 : a < 2147483648) (b1 : -2147483648 ≤ b) (b2 : b < 2147483648) (w : World) :
  Calls Tryz.prog 183 #[.int .u8 op, .int .i64 a, .int .i64 b] w fun en w' => en = .returned (.int .i64 (aluV op a b)) ∧ w' = w := by
 have hm := mul_bound a1 a2 b1 b2
 obtain ⟨p, hp⟩ : ∃ p, a * b = p := ⟨_, rfl⟩
 have HP := hid hp
 rw [hp] at hm
 rcases hop with rfl | rfl | rfl | rfl | rfl
 ·clear hp
  go_enter Tryz.func183, Tryz.ntmps183
  go_wp2_with fail
  refine (wrap_any _ (by omega) (by omega) _).mono ?_
  rintro en wx ⟨rfl, rfl⟩
  go_wp2_with fail
  go_ret
  exact ⟨rfl, rfl⟩
 ·clear hp
  go_enter Tryz.func183, Tryz.ntmps183
  go_wp2_with fail
  refine (wrap_any _ (by omega) (by omega) _).mono ?_
  rintro en wx ⟨rfl, rfl⟩
  go_wp2_with fail
  go_ret
  exact ⟨rfl, rfl⟩
 ·go_enter Tryz.func183, Tryz.ntmps183
  go_wp2_with fail
  refine (wrap_any _ (by omega) (by omega) _).mono ?_
  rintro en wx ⟨rfl, rfl⟩
  go_wp2_with fail
  go_ret
  exact ⟨by rw [← HP.out]; rfl, rfl⟩
 ·clear hp
  go_enter Tryz.func183, Tryz.ntmps183
  go_wp2_with fail
  all_goals refine (wrap_any _ (by omega) (by omega) _).mono ?_
  all_goals rintro en wx ⟨rfl, rfl⟩
  all_goals go_wp2_with fail
  all_goals go_ret
  all_goals exact ⟨ret_int (by rw [w32_in (by omega) (by omega)]; unfold aluV; simp; omega), rfl⟩
 ·clear hp
  go_enter Tryz.func183, Tryz.ntmps183
  go_wp2_with fail
  all_goals refine (wrap_any _ (by omega) (by omega) _).mono ?_
  all_goals rintro en wx ⟨rfl, rfl⟩
  all_goals go_wp2_with fail
  all_goals go_ret
  all_goals exact ⟨ret_int (by rw [w32_in (by omega) (by omega)]; unfold aluV; simp_all), rfl⟩
theorem valInfo : (Tryz.prog.info? 135).map (fun i => (i.zero, i.size, i.bytes)) = some (some (.agg #[.int .u8 0, .int .i64 0]), 2, 16) := by kernel_rfl
theorem owns_mono {w : World} {base base' e size n : Nat} {v : Value} {xs : List Value} (h : w.ownsRow base e size v n xs) (hb : base' ≤ base) : w.ownsRow base' e size v n xs :=
 ⟨h.1, h.2.imp id fun ⟨g, cap, cur, a, b, c⟩ => ⟨g, cap, cur, a, Nat.le_trans hb b, c⟩⟩
theorem wpList_append_val {ops : Array Oper} {rest : List Oper} {o : Oper} {a : Act} {Q : Exit → Act → World → Prop} (hgd : o.guard = none) (s x : Operand)
  (ho : o.op = .call { callee := .builtin .append, args := #[s, x], argTypes := #[118, 118] })
  (W : World) (base : Nat) (v : Value) (l : List V) (n : Nat) (hn : l.length = n) (K N : Int) (u : V) (hK : K = u.K) (hN : N = u.N) (hs : a.eval s = v) (H : Nat) (hH : W.heap.size = H) (hx : a.eval x = .slice (some ⟨H, 0, none⟩) 1 1) (hown : W.ownsRow base 135 2 v n (valCells l)) (hl : n ≤ 5000) (hbase : base ≤ W.heap.size)
  (h : ∀ g cap w', w'.ownsRow base 135 2 (.slice (some ⟨g, 0, none⟩) (n + 1) cap) (n + 1) (valCells (l ++ [u])) → But (fun k => v.ownBlock = some k) W w' → (v.ownBlock = some g ∨ W.heap.size ≤ g) → wpList Tryz.prog ops Q rest (a.put o.dst (.slice (some ⟨g, 0, none⟩) (n + 1) cap)) w') :
  wpList Tryz.prog ops Q (o :: rest) a (W.alloc (.cells #[.int .u8 K, .int .i64 N] 135)) := by
 obtain ⟨i0, hi0, hz0, hz1, hz2⟩ := info_parts valInfo
 subst hK hN hH hn
 refine wpList_append_lies _ hgd s x _ ho base 135 i0 _ 2 16 (by kernel_rfl) hi0 hz0 hz1 hz2 rfl (by omega) v l.length (valCells l) hs (owns_but hown (But.alloc (fun _ => False) _ _) (fun _ _ h => h)) ⟨W.heap.size, 0, none⟩ 1 1 [.int .u8 u.K, .int .i64 u.N] hx rfl
  (World.news_of_block (cs := #[.int .u8 u.K, .int .i64 u.N]) (t := 135) (fr := (0, 0)) (heap_alloc_new W _)) (by simp [Value.oneCell']) (by omega) (by unfold maxLen; omega) (by omega) (by simp; omega) (W.heap.size + 1) (by simp) ?_
 intro g cap w' h1 h2 h3 h4
 refine h g cap w' ?_ ((But.alloc _ _ _).trans (but_grown h2)) ?_
 ·rw [valCells_snoc]; exact h1
 ·rcases h3 with h3 | h3
  ·exact Or.inl h3
  ·right; omega
theorem fresh_any (bi : Nat) (im : Img) (x : Nat) (w : World) (hI : ClsAt w bi im.classes) (hx : x < im.classes.length) (hf8 : nFields im.classes x ≤ 100) :
  Calls Tryz.prog 178 #[.pointer (some ⟨bi, 0, none⟩), .int .i64 x] w fun en w' => ∃ v, en = .returned v ∧ w'.ownsRow w.heap.size 135 2 v (freshV im.classes x).length (valCells (freshV im.classes x)) ∧ But (fun _ => False) w w' := by
 obtain ⟨v0, v1, v2, hIm, hO⟩ := hI
 obtain ⟨a0, cap0, rfl⟩ := owns_len hO
 have hgl := List.getElem?_eq_getElem hx
 obtain ⟨g, rfl, hg1, hg2, hcell⟩ := owns_two hO (by omega)
 obtain ⟨fl, hfl⟩ : ∃ fl, im.classes[x].fields = fl := ⟨_, rfl⟩
 have c0 : w.cell? ⟨bi, 0, none⟩ = some (.slice (some ⟨g, 0, none⟩) im.classes.length cap0) := hIm.c0
 have c1 : w.cell? ⟨g, x * 2 + 1, none⟩ = some (.string ⟨fl.toArray⟩) := by rw [← hfl]; exact hcell _ _ (clsCells_at1 hgl)
 have hbl := hIm.lt
 have hF : Hid (freshV im.classes x = fl.map plainV) := by show _ = _; simp [freshV, fieldsOf, hgl, hfl]
 have hn8 : fl.length ≤ 100 := by simpa [nFields, hgl, hfl] using hf8
 clear hcell hgl hfl hIm hO hf8
 have hxI : (x : Int) < (im.classes.length : Int) := by omega
 generalize im.classes.length = nc at *
 go_enter Tryz.func178, Tryz.ntmps178
 go_wp2_with fail
 go_loopg [5, 6] fl.length (fun mm ls ks wr => ∃ (ao : Option Addr) (cap k : Nat) (L : List V), ls = .slice ao k cap ∧ ks = .int .i64 k ∧ k + mm ≤ fl.length ∧ fl.length ≤ k + mm ∧ wr.ownsRow w.heap.size 135 2 (.slice ao k cap) k (valCells L) ∧ But (fun _ => False) w wr ∧ Hid (L = (fl.take k).map plainV))
 case atStart => exact ⟨none, 0, 0, [], rfl, rfl, by omega, by omega, owns_nil _ _ _ _, But.refl _ _, rfl⟩
 case round =>
  obtain ⟨ao, cap, k, L, rfl, rfl, hk1, hk2, hOr, hBr, HL⟩ := hrel
  have d0 := (hBr.cell (p := ⟨bi, 0, none⟩) hbl (fun h => h)).trans c0
  have d1 := (hBr.cell (p := ⟨g, x * 2 + 1, none⟩) hg1 (fun h => h)).trans c1
  have hlenI : ((⟨fl.toArray⟩ : ByteArray).size : Int) = (fl.length : Int) := rfl
  by_cases hlt : k < fl.length
  ·have hkI : (k : Int) < (fl.length : Int) := by omega
   obtain ⟨C, hC⟩ : ∃ C, fl[k] = C := ⟨_, rfl⟩
   have kC : ∀ h, (⟨fl.toArray⟩ : ByteArray)[k]'h = C := fun h => by rw [← hC]; exact lget fl _ hlt _
   have hsz : k < (⟨fl.toArray⟩ : ByteArray).size := hlt
   have hlk : L.length = k := by rw [HL.out]; simp; omega
   have HLK := hid hlk
   obtain ⟨u, hu⟩ : ∃ u, plainV C = u := ⟨_, rfl⟩
   have HT : Hid (L ++ [u] = (fl.take (k + 1)).map plainV) := by show _ = _; rw [List.take_succ_eq_append_getElem hlt, hC, HL.out, ← hu]; simp
   have hp := plain_any C wr
   rw [hu] at hp
   have HP := hid hp
   clear hC hu hlk hp
   go_wp2_with fail
   refine HP.out.mono ?_
   rintro en w1 ⟨rfl, hB1⟩
   simp only [vAgg]
   have hBw1 := hBr.trans hB1
   have hsz1 := hBw1.size
   have hO1 := owns_but hOr hB1 (fun _ _ h => h)
   go_wp2_with (at_builtin; refine wpList_append_val rfl _ _ rfl (w1.alloc (.cells #[.int .u8 u.K, .int .i64 u.N] 135)) w.heap.size _ L k HLK.out _ _ u rfl rfl rfl (w1.heap.size + 1) (by simp) rfl (owns_but hO1 (But.alloc (fun _ => False) _ _) (fun _ _ h => h)) (by omega) (by simp; omega) ?_)
   intro gg cap3 w2 hown2 hSW hat
   have hB2 : But (fun _ => False) w w2 := (hBw1.trans (But.alloc _ _ _)).next hSW (fun k' hk' h => by have := owns_ge hO1 k' h; omega)
   clear hSW hat hO1 hBw1 hB1 d0 d1
   go_wp2_with fail
   go_roundg (fl.length - (k + 1))
   case measure => omega
   case rel => exact ⟨_, cap3, k + 1, L ++ [u], by simp, by simp, by omega, by omega, hown2, hB2, HT⟩
  ·have hkI : ¬ (k : Int) < (fl.length : Int) := by omega
   go_wp2_with fail
   go_ret
   refine ⟨_, rfl, ?_, hBr⟩
   rw [hF.out, List.length_map]
   have : k = fl.length := by omega
   subst this
   rw [HL.out, List.take_length] at hOr
   exact hOr
theorem locals_any (bd : Bod) (vc vt : Value) (hvt : ∃ ak n capk, vt = .slice ak n capk) (vs : List V) (ao : Option Addr) (cap : Nat) (w : World) (hl : bd.locals.length ≤ 5) (hv : vs.length ≤ bd.locals.length) (base : Nat) (hs : w.ownsRow base 135 2 (.slice ao vs.length cap) vs.length (valCells vs)) :
  Calls Tryz.prog 66 #[.agg #[.int .i64 bd.cls, .int .i64 bd.meth, .string ⟨bd.locals.toArray⟩, .slice none 0 0, vt], .slice ao vs.length cap] w fun en w' => ∃ v, en = .returned v ∧ w'.ownsRow w.heap.size 135 2 v (localsV bd vs).length (valCells (localsV bd vs)) ∧ But (fun _ => False) w w' := by
 obtain ⟨ak, n, capk, rfl⟩ := hvt
 obtain ⟨lo, hlo⟩ : ∃ lo, bd.locals = lo := ⟨_, rfl⟩
 have HL : Hid (localsV bd vs = vs ++ (lo.drop vs.length).map plainV) := by show _ = _; unfold localsV; rw [hlo]
 obtain ⟨nv, hnv⟩ : ∃ nv, vs.length = nv := ⟨_, rfl⟩
 have HNV := hid hnv
 rw [hlo] at hl hv ⊢
 rw [hnv] at hs hv ⊢
 clear hlo hnv
 go_enter Tryz.func66, Tryz.ntmps66
 go_wp2_with fail
 obtain ⟨W0, hW0⟩ : ∃ W0, w.alloc (.cells #[.int .i64 bd.cls, .int .i64 bd.meth, .string ⟨lo.toArray⟩, .slice none 0 0, .slice ak n capk] 52) = W0 := ⟨_, rfl⟩
 have hg0 : W0.heap[w.heap.size]? = some (.cells #[.int .i64 bd.cls, .int .i64 bd.meth, .string ⟨lo.toArray⟩, .slice none 0 0, .slice ak n capk] 52) := by rw [← hW0]; exact heap_alloc_new _ _
 have hB0 : But (fun _ => False) w W0 := by rw [← hW0]; exact But.alloc _ _ _
 rw [hW0]
 clear hW0
 have hO0 := owns_but hs hB0 (fun _ _ h => h)
 go_loopg [5, 6] nv (fun mm ls ks wr => ∃ (ap : Option Addr) (cp k : Nat) (L : List V), ls = .slice ap k cp ∧ ks = .int .i64 k ∧ k + mm ≤ nv ∧ nv ≤ k + mm ∧ wr.ownsRow W0.heap.size 135 2 (.slice ap k cp) k (valCells L) ∧ But (fun _ => False) W0 wr ∧ Hid (L = vs.take k))
 case atStart => exact ⟨none, 0, 0, [], rfl, rfl, by omega, by omega, owns_nil _ _ _ _, But.refl _ _, rfl⟩
 case round =>
  obtain ⟨ap, cp, k, L, rfl, rfl, hk1, hk2, hOr, hBr, HLL⟩ := hrel
  have hsz0 := hBr.size
  by_cases hlt : k < nv
  ·have hkI : (k : Int) < (nv : Int) := by omega
   have hlt' : k < vs.length := by rw [HNV.out]; exact hlt
   have hlk : L.length = k := by rw [HLL.out]; simp; omega
   have HLK := hid hlk
   obtain ⟨u, hu⟩ : ∃ u, vs[k] = u := ⟨_, rfl⟩
   have HT : Hid (L ++ [u] = vs.take (k + 1)) := by show _ = _; rw [List.take_succ_eq_append_getElem hlt', hu, HLL.out]
   obtain ⟨g, rfl, hg1, hg2, hcell⟩ := owns_two (owns_but hO0 hBr (fun _ _ h => h)) (by omega)
   have hx : vs[k]? = some u := by rw [List.getElem?_eq_getElem hlt', hu]
   have q0 : wr.cell? ⟨g, k * 2, none⟩ = some (.int .u8 u.K) := hcell _ _ (valCells_at (k := 0) hx (by omega))
   have q1 : wr.cell? ⟨g, k * 2 + 1, none⟩ = some (.int .i64 u.N) := hcell _ _ (valCells_at (k := 1) hx (by omega))
   clear hu hlk hlt' hx hcell
   go_wp2_with (at_builtin; refine wpList_append_val rfl _ _ rfl wr W0.heap.size _ L k HLK.out _ _ u rfl rfl rfl wr.heap.size rfl rfl (by exact hOr) (by omega) (by omega) ?_)
   intro gg cap3 w2 hown2 hSW hat
   have hB2 : But (fun _ => False) W0 w2 := hBr.next hSW (fun k' hk' h => by have := owns_lt hOr k' h; have := owns_ge hOr k' h; omega)
   clear hSW hat q0 q1
   go_wp2_with fail
   go_roundg (nv - (k + 1))
   case measure => omega
   case rel => exact ⟨_, cap3, k + 1, L ++ [u], by simp, by simp, by omega, by omega, hown2, hB2, HT⟩
  ·have hkI : ¬ (k : Int) < (nv : Int) := by omega
   have hkn : nv = k := by omega
   subst hkn
   have hLv : L = vs := by rw [HLL.out]; exact List.take_of_length_le (by rw [HNV.out]; omega)
   rw [hLv] at hOr
   clear hLv HLL L
   go_wp2_with fail
   go_loopg [5, 7] (lo.length - nv) (fun mm ls ks wr => ∃ (ap : Option Addr) (cp k : Nat) (L : List V), ls = .slice ap k cp ∧ ks = .int .i64 k ∧ k + mm ≤ lo.length ∧ lo.length ≤ k + mm ∧ nv ≤ k ∧ wr.ownsRow W0.heap.size 135 2 (.slice ap k cp) k (valCells L) ∧ But (fun _ => False) W0 wr ∧ Hid (L = vs ++ ((lo.take k).drop nv).map plainV))
   case atStart => exact ⟨_, _, nv, vs, rfl, rfl, by omega, by omega, by omega, hOr, hBr, by show _ = _; rw [List.drop_eq_nil_of_le (by simp; omega)]; simp⟩
   case round =>
    clear hOr hBr hsz0
    obtain ⟨ap, cp, k, L, rfl, rfl, hk1, hk2, hk3, hOr, hBr, HLL⟩ := hrel
    have hsz0 := hBr.size
    have hgr := (hBr.block _ (lt_of_block hg0) (fun h => h)).trans hg0
    have g2 : wr.cell? ⟨w.heap.size, 2, none⟩ = some (.string ⟨lo.toArray⟩) := by rw [cell_of_row wr _ 2 _ _ (0, 0) hgr]; rfl
    have hgl := lt_of_block hgr
    have hlenI : ((⟨lo.toArray⟩ : ByteArray).size : Int) = (lo.length : Int) := rfl
    by_cases hlt : k < lo.length
    ·have hkI : (k : Int) < (lo.length : Int) := by omega
     obtain ⟨C, hC⟩ : ∃ C, lo[k] = C := ⟨_, rfl⟩
     have kC : ∀ h, (⟨lo.toArray⟩ : ByteArray)[k]'h = C := fun h => by rw [← hC]; exact lget lo _ hlt _
     have hsz : k < (⟨lo.toArray⟩ : ByteArray).size := hlt
     have hlk : L.length = k := by rw [HLL.out]; have := HNV.out; simp; omega
     have HLK := hid hlk
     obtain ⟨u, hu⟩ : ∃ u, plainV C = u := ⟨_, rfl⟩
     have HT : Hid (L ++ [u] = vs ++ ((lo.take (k + 1)).drop nv).map plainV) := by
      show _ = _
      rw [List.take_succ_eq_append_getElem hlt, hC, HLL.out, ← hu, List.drop_append_of_le_length (by simp; omega)]
      simp
     have hp := plain_any C wr
     rw [hu] at hp
     have HP := hid hp
     clear hC hu hlk hp
     go_wp2_with fail
     refine HP.out.mono ?_
     rintro en w1 ⟨rfl, hB1⟩
     simp only [vAgg]
     have hBw1 := hBr.trans hB1
     have hsz1 := hBw1.size
     have hO1 := owns_but hOr hB1 (fun _ _ h => h)
     go_wp2_with (at_builtin; refine wpList_append_val rfl _ _ rfl (w1.alloc (.cells #[.int .u8 u.K, .int .i64 u.N] 135)) W0.heap.size _ L k HLK.out _ _ u rfl rfl rfl (w1.heap.size + 1) (by simp) rfl (owns_but hO1 (But.alloc (fun _ => False) _ _) (fun _ _ h => h)) (by omega) (by simp; omega) ?_)
     intro gg cap3 w2 hown2 hSW hat
     have hB2 : But (fun _ => False) W0 w2 := (hBw1.trans (But.alloc _ _ _)).next hSW (fun k' hk' h => by have := owns_ge hO1 k' h; omega)
     clear hSW hat hO1 hBw1 hB1 g2
     go_wp2_with fail
     go_roundg (lo.length - (k + 1))
     case measure => omega
     case rel => exact ⟨_, cap3, k + 1, L ++ [u], by simp, by simp, by omega, by omega, by omega, hown2, hB2, HT⟩
    ·have hkI : ¬ (k : Int) < (lo.length : Int) := by omega
     go_wp2_with fail
     go_ret
     refine ⟨_, rfl, ?_, hB0.trans hBr⟩
     have hkl : k = lo.length := by omega
     have e : localsV bd vs = L := by rw [HL.out, HLL.out, hkl, List.take_length, HNV.out]
     rw [e, show L.length = k from by rw [HLL.out]; have := HNV.out; simp; omega]
     exact owns_mono hOr hB0.size
end Go.Proofs.YtpfkkmacakjmbaaGreatDoor
namespace Go.Proofs.YtpfkkmacakjmbaaGreatDoor
open Go Go.RowKit Sp
set_option linter.unusedSimpArgs false
set_option linter.unusedVariables false
def WkB (w : World) (b bi : Nat) (hv : Value) (inp : ByteArray) (r l d : Int) (o : List UInt8) (e : Int) : Prop :=
 w.heap[b]? = some (.cells #[.pointer (some ⟨bi, 0, none⟩), hv, .string inp, .int .i64 r, .int .i64 l, .int .i64 d, .string ⟨o.toArray⟩, .int .i64 e] 133)
section
variable {w : World} {b bi : Nat} {hv : Value} {inp : ByteArray} {r l d : Int} {o : List UInt8} {e : Int}
theorem WkB.lt (h : WkB w b bi hv inp r l d o e) : b < w.heap.size := lt_of_block h
theorem WkB.c0 (h : WkB w b bi hv inp r l d o e) : w.cell? ⟨b, 0, none⟩ = some (.pointer (some ⟨bi, 0, none⟩)) := by rw [cell_of_row w b 0 _ _ (0, 0) h]; rfl
theorem WkB.c1 (h : WkB w b bi hv inp r l d o e) : w.cell? ⟨b, 1, none⟩ = some hv := by rw [cell_of_row w b 1 _ _ (0, 0) h]; rfl
theorem WkB.c2 (h : WkB w b bi hv inp r l d o e) : w.cell? ⟨b, 2, none⟩ = some (.string inp) := by rw [cell_of_row w b 2 _ _ (0, 0) h]; rfl
theorem WkB.c3 (h : WkB w b bi hv inp r l d o e) : w.cell? ⟨b, 3, none⟩ = some (.int .i64 r) := by rw [cell_of_row w b 3 _ _ (0, 0) h]; rfl
theorem WkB.c4 (h : WkB w b bi hv inp r l d o e) : w.cell? ⟨b, 4, none⟩ = some (.int .i64 l) := by rw [cell_of_row w b 4 _ _ (0, 0) h]; rfl
theorem WkB.c5 (h : WkB w b bi hv inp r l d o e) : w.cell? ⟨b, 5, none⟩ = some (.int .i64 d) := by rw [cell_of_row w b 5 _ _ (0, 0) h]; rfl
theorem WkB.c6 (h : WkB w b bi hv inp r l d o e) : w.cell? ⟨b, 6, none⟩ = some (.string ⟨o.toArray⟩) := by rw [cell_of_row w b 6 _ _ (0, 0) h]; rfl
theorem WkB.c7 (h : WkB w b bi hv inp r l d o e) : w.cell? ⟨b, 7, none⟩ = some (.int .i64 e) := by rw [cell_of_row w b 7 _ _ (0, 0) h]; rfl
theorem WkB.fz (h : WkB w b bi hv inp r l d o e) (j : Nat) : w.frozen? ⟨b, j, none⟩ = false := frozen_of_row w b j _ _ h
theorem WkB.but {F : Nat → Prop} {w' : World} (h : WkB w b bi hv inp r l d o e) (hb : But F w w') (hf : ¬ F b) : WkB w' b bi hv inp r l d o e := (hb.block b h.lt hf).trans h
theorem WkB.set1 (h : WkB w b bi hv inp r l d o e) (v : Value) : WkB (w.setCell ⟨b, 1, none⟩ v) b bi v inp r l d o e := heap_setCell_same w b 1 _ _ _ h
theorem WkB.set3 (h : WkB w b bi hv inp r l d o e) (n : Int) : WkB (w.setCell ⟨b, 3, none⟩ (.int .i64 n)) b bi hv inp n l d o e := heap_setCell_same w b 3 _ _ _ h
theorem WkB.set4 (h : WkB w b bi hv inp r l d o e) (n : Int) : WkB (w.setCell ⟨b, 4, none⟩ (.int .i64 n)) b bi hv inp r n d o e := heap_setCell_same w b 4 _ _ _ h
theorem WkB.set5 (h : WkB w b bi hv inp r l d o e) (n : Int) : WkB (w.setCell ⟨b, 5, none⟩ (.int .i64 n)) b bi hv inp r l n o e := heap_setCell_same w b 5 _ _ _ h
theorem WkB.set6 (h : WkB w b bi hv inp r l d o e) (n : List UInt8) : WkB (w.setCell ⟨b, 6, none⟩ (.string ⟨n.toArray⟩)) b bi hv inp r l d n e := heap_setCell_same w b 6 _ _ _ h
theorem WkB.set7 (h : WkB w b bi hv inp r l d o e) (n : Int) : WkB (w.setCell ⟨b, 7, none⟩ (.int .i64 n)) b bi hv inp r l d o n := heap_setCell_same w b 7 _ _ _ h
end
def obCells (hp : List Ob) (fv : List Value) : List Value := (hp.zip fv).flatMap fun x => [.int .i64 x.1.cls, x.2]
theorem obCells_at {hp : List Ob} {fv : List Value} {k j : Nat} {ob : Ob} {v : Value} (h1 : hp[k]? = some ob) (h2 : fv[k]? = some v) (hj : j < 2) : (obCells hp fv)[k * 2 + j]? = [Value.int .i64 ob.cls, v][j]? := by
 have : (hp.zip fv)[k]? = some (ob, v) := by rw [List.getElem?_zip_eq_some]; exact ⟨h1, h2⟩
 exact flat_at (fun x : Ob × Value => [Value.int .i64 x.1.cls, x.2]) 2 (fun _ => rfl) _ k j _ this hj
theorem obCells_snoc {hp : List Ob} {fv : List Value} (h : fv.length = hp.length) (ob : Ob) (v : Value) : obCells (hp ++ [ob]) (fv ++ [v]) = obCells hp fv ++ [.int .i64 ob.cls, v] := by
 unfold obCells
 rw [List.zip_append h.symm]
 simp
theorem obCells_set {hp : List Ob} {fv : List Value} {k : Nat} {ob : Ob} (h : hp[k]? = some ob) (fs : List V) : obCells (hp.set k ⟨ob.cls, fs⟩) fv = obCells hp fv := by
 unfold obCells
 have : ((hp.set k ⟨ob.cls, fs⟩).zip fv).map (fun x => (x.1.cls, x.2)) = (hp.zip fv).map (fun x => (x.1.cls, x.2)) := by
  apply List.ext_getElem?
  intro i
  simp only [List.getElem?_map, List.zip, List.getElem?_zipWith, List.getElem?_set]
  by_cases hi : k = i
  ·subst hi
   have hk := (List.getElem?_eq_some_iff.1 h).1
   simp only [if_true, hk, h]
   cases fv[k]? <;> rfl
  ·simp only [hi, if_false]
 have h2 : ∀ l : List (Ob × Value), (l.flatMap fun x => [Value.int .i64 x.1.cls, x.2]) = (l.map (fun x => (x.1.cls, x.2))).flatMap fun x => [Value.int .i64 x.1, x.2] := fun l => by
  induction l with
  | nil => rfl
  | cons a l ih => simp [ih]
 rw [h2, h2, this]
theorem owns_type {w : World} {base e size n : Nat} {v : Value} {xs : List Value} (h : w.ownsRow base e size v n xs) {g : Nat} (hg : v.ownBlock = some g) : ∃ cur, w.heap[g]? = some (.cells cur e (0, 0)) := by
 rcases h.2 with ⟨rfl, _⟩ | ⟨g', cap, cur, rfl, _, hh, _⟩
 ·cases hg
 ·simp [Value.ownBlock] at hg; subst hg; exact ⟨cur, hh⟩
theorem owns_apartE {w : World} {base base' e e' size size' n n' : Nat} {v v' : Value} {xs xs' : List Value} (h : w.ownsRow base e size v n xs) (h' : w.ownsRow base' e' size' v' n' xs') (he : e ≠ e') {g : Nat} (hg : v.ownBlock = some g) : v'.ownBlock ≠ some g := fun hg' => by
 obtain ⟨c, hc⟩ := owns_type h hg
 obtain ⟨c', hc'⟩ := owns_type h' hg'
 rw [hc] at hc'
 injection hc' with hc'
 injection hc' with h1 h2
 exact he h2
theorem owns_offE {w : World} {base e size n b : Nat} {v : Value} {xs : List Value} (h : w.ownsRow base e size v n xs) {cs : Array Value} {t : TypeId} {fr : Nat × Nat} (hb : w.heap[b]? = some (.cells cs t fr)) (he : e ≠ t) : v.ownBlock ≠ some b := fun hg => by
 obtain ⟨c, hc⟩ := owns_type h hg
 rw [hb] at hc
 injection hc with hc
 injection hc with h1 h2
 exact he h2.symm
structure StX (P : Nat → Prop) (w0 w : World) (bw bi : Nat) (inp : ByteArray) (d : Nat) (s : Ev) (lv : Value) (l : List V) (hv : Value) (fv : List Value) : Prop where
 old : But (fun _ => False) w0 w
 wk : WkB w bw bi hv inp s.read s.left d s.out 12
 len : fv.length = s.heap.length
 hp : w.ownsRow w0.heap.size 265 2 hv s.heap.length (obCells s.heap fv)
 fl : ∀ (k : Nat) ob v, s.heap[k]? = some ob → fv[k]? = some v → w.ownsRow w0.heap.size 135 2 v ob.fs.length (valCells ob.fs)
 lo : w.ownsRow w0.heap.size 135 2 lv l.length (valCells l)
 ge : w0.heap.size ≤ bw
 pl : ∀ k, P k → k < w.heap.size
 pw : ¬ P bw
 ph : ∀ g, hv.ownBlock = some g → ¬ P g
 pf : ∀ v ∈ fv, ∀ g, v.ownBlock = some g → ¬ P g
 po : ∀ g, lv.ownBlock = some g → ¬ P g
 sl : ∀ v ∈ fv, ∀ g, v.ownBlock = some g → lv.ownBlock ≠ some g
 sf : ∀ (j k : Nat) v v' g, fv[j]? = some v → fv[k]? = some v' → v.ownBlock = some g → v'.ownBlock = some g → j = k
end Go.Proofs.YtpfkkmacakjmbaaGreatDoor
