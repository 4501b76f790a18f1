import Derived.Test.YtpfkkmacakjmbaaGreatDoorP16
import Derived.Test.YtpfkkmacakjmbaaGreatDoorP03
namespace Go.Proofs.YtpfkkmacakjmbaaGreatDoor
open Go Go.RowKit Sp
set_option linter.unusedSimpArgs false
set_option linter.unusedVariables false
attribute [local go_sem ↓] Go.wp_at_zero Go.wp_at_succ
/-- The first at or above a letter that another type fits. -/
def meetF (cs : List XCls) (c : UInt8) : Nat → UInt8 → UInt8
 | 0, _ => 45
 | f + 1, x => if isLet cs.length x = false then 45 else if fitsX cs c x = true then x else meetF cs c f (parX cs x)
def meetX (cs : List XCls) (a c : UInt8) : UInt8 := if fitsX cs a c = true then c else meetF cs c cs.length a
set_option maxHeartbeats 1600000 in
set_option maxRecDepth 100000 in
theorem xmeeting_any (b : Nat) (cs : List XCls) (a c : UInt8) (w : World) (hn : cs.length ≤ 100) (hT : TxC w b cs) :
  Calls Tryz.prog 205 #[.pointer (some ⟨b, 0, none⟩), .int .u8 a.toNat, .int .u8 c.toNat] w fun e w' => e = .returned (.int .u8 (meetX cs a c).toNat) ∧ w' = w := by
 obtain ⟨R, hRR⟩ : ∃ R, meetX cs a c = R := ⟨_, rfl⟩
 rw [hRR]
 unfold meetX at hRR
 have hfi := xfits_any b cs a c w hn hT
 by_cases hf0 : fitsX cs a c = true
 ·rw [if_pos hf0] at hRR
  subst hRR
  rw [hf0] at hfi
  have HFI := hid hfi
  clear hfi hf0
  go_enter Tryz.func205, Tryz.ntmps205
  go_wp2_with fail
  refine HFI.out.mono ?_
  rintro en w1 ⟨rfl, rfl⟩
  go_wp2_with fail
  go_ret
  exact ⟨rfl, rfl⟩
 rw [if_neg hf0] at hRR
 have hf0' : fitsX cs a c = false := by simpa using hf0
 rw [hf0'] at hfi
 have HFI := hid hfi
 have HRR := hid hRR
 clear hRR hfi hf0 hf0'
 have hT' := hT
 obtain ⟨v0, l, h0, hl, hO, hm, hf⟩ := hT'
 obtain ⟨ao, cap, rfl⟩ := owns_len hO
 have hln : l.length = cs.length := by rw [← hm]; simp
 rw [hln] at h0
 clear hm hf hO hln
 obtain ⟨n, hnn⟩ : ∃ n, cs.length = n := ⟨_, rfl⟩
 have HN := hid hnn
 rw [hnn] at h0 hn
 clear hnn
 go_enter Tryz.func205, Tryz.ntmps205
 go_wp2_with fail
 refine HFI.out.mono ?_
 rintro en w1 ⟨rfl, rfl⟩
 go_wp2_with fail
 rw [HN.out] at HRR
 go_loopg [7, 8] n (fun mm ls is wr => ∃ (x : UInt8) (k : Nat), ls = .int .u8 x.toNat ∧ is = .int .i64 k ∧ k ≤ n ∧ k + mm ≤ n ∧ n ≤ k + mm ∧ wr = w1 ∧ Hid (meetF cs c mm x = R))
 case atStart => exact ⟨a, 0, rfl, rfl, by omega, by omega, by omega, rfl, HRR.out⟩
 case round =>
  obtain ⟨x, k, rfl, rfl, hk1, hk2, hk3, hww, HA⟩ := hrel
  subst hww
  have hgk : gk = n - k := by omega
  rw [hgk] at HA
  clear hgk hk2
  by_cases hlt : k < n
  ·have hkn : (k : Int) < (n : Int) := by omega
   rw [show n - k = (n - (k + 1)) + 1 from by omega] at HA
   have hic := xisClass_any b cs x wr (by rw [HN.out]; exact hn) hT
   by_cases hl : isLet cs.length x = true
   ·rw [hl] at hic
    have HIC := hid hic
    have hA := HA.out
    simp only [meetF, hl, Bool.true_eq_false, if_false] at hA
    have hfx := xfits_any b cs c x wr (by rw [HN.out]; exact hn) hT
    by_cases hxc : fitsX cs c x = true
    ·rw [if_pos hxc] at hA
     rw [hxc] at hfx
     have HFX := hid hfx
     subst hA
     clear hic hl hxc HA HRR hfx
     go_wp2_with fail
     refine HIC.out.mono ?_
     rintro en w1 ⟨rfl, rfl⟩
     go_wp2_with fail
     refine HFX.out.mono ?_
     rintro en w1 ⟨rfl, rfl⟩
     go_wp2_with fail
     go_ret
     exact ⟨rfl, rfl⟩
    ·rw [if_neg hxc] at hA
     have hxc' : fitsX cs c x = false := by simpa using hxc
     rw [hxc'] at hfx
     have HFX := hid hfx
     have HA1 := hid hA
     clear hic hl hxc hxc' HA hA HRR hfx
     go_wp2_with fail
     refine HIC.out.mono ?_
     rintro en w1 ⟨rfl, rfl⟩
     go_wp2_with fail
     refine HFX.out.mono ?_
     rintro en w1 ⟨rfl, rfl⟩
     go_wp2_with fail
     refine (xpar_any b cs x w1 (by rw [HN.out]; exact hn) hT).mono ?_
     rintro en w2 ⟨rfl, rfl⟩
     revert HA1
     generalize parX cs x = px
     intro HA1
     go_wp2_with fail
     go_roundg (n - (k + 1))
     case measure => omega
     case rel => exact ⟨px, k + 1, rfl, by simp, by omega, by omega, by omega, rfl, HA1.out⟩
   ·have hl' : isLet cs.length x = false := by simpa using hl
    rw [hl'] at hic
    have HIC := hid hic
    have hA := HA.out
    simp only [meetF, hl', if_true] at hA
    subst hA
    clear hic hl hl' HA HRR
    go_wp2_with fail
    refine HIC.out.mono ?_
    rintro en w1 ⟨rfl, rfl⟩
    go_wp2_with fail
    go_ret
    exact ⟨rfl, rfl⟩
  ·have hkn : ¬ (k : Int) < (n : Int) := by omega
   rw [show n - k = 0 from by omega] at HA
   have hA : 45 = R := HA.out
   subst hA
   clear HA HRR
   go_wp2_with fail
   go_ret
   exact ⟨rfl, rfl⟩
/-- A class as the program holds it. -/
def toX (c : Cls) : XCls := ⟨if c.par < 0 then 45 else UInt8.ofNat (65 + c.par.toNat), c.fields⟩
theorem parX_kl {cs : List Cls} (hw : WfC cs) (hn : cs.length ≤ 4) {x : UInt8} (hx : isLet cs.length x = true) : (parOf cs (kl x) < 0 ∧ parX (cs.map toX) x = 45) ∨ (0 ≤ parOf cs (kl x) ∧ isLet cs.length (parX (cs.map toX) x) = true ∧ kl (parX (cs.map toX) x) = parOf cs (kl x)) := by
 have hx' := hx
 simp only [isLet, Bool.and_eq_true, decide_eq_true_eq] at hx'
 have hk : (kl x).toNat = x.toNat - 65 := by unfold kl; omega
 obtain ⟨c, hc⟩ : ∃ c, cs[x.toNat - 65]? = some c := ⟨_, List.getElem?_eq_getElem (by omega)⟩
 have hp : parOf cs (kl x) = c.par := by unfold parOf; rw [hk, hc]; rfl
 have hq : parX (cs.map toX) x = (toX c).par := by
  unfold parX
  rw [List.length_map, if_pos hx, List.getElem?_map, hc]
  rfl
 have hr := hw _ _ hc
 rw [hp, hq]
 unfold toX
 by_cases h0 : c.par < 0
 ·left; exact ⟨h0, by simp [h0]⟩
 ·right
  have hv : (UInt8.ofNat (65 + c.par.toNat)).toNat = 65 + c.par.toNat := by simp; omega
  simp only [if_neg h0]
  refine ⟨by omega, ?_, ?_⟩
  ·simp only [isLet, hv, Bool.and_eq_true, decide_eq_true_eq]; omega
  ·unfold kl; rw [hv]; omega
theorem not45_let {cs : List Cls} (hw : WfC cs) (hn : cs.length ≤ 4) {n : Nat} : isLet n 45 = false := by simp [isLet]
theorem comes_under {cs : List Cls} (hw : WfC cs) (hn : cs.length ≤ 4) {y : UInt8} (hy : isLet cs.length y = true) : ∀ {f : Nat} {x : UInt8}, isLet cs.length x = true → kl x < f → f ≤ 5 → comesX (cs.map toX) y f x = under cs 5 (kl x) (kl y) := by
 intro f
 induction f with
 | zero => intro x hx h1 _; simp only [isLet, Bool.and_eq_true, decide_eq_true_eq] at hx; unfold kl at h1; omega
 | succ f ih =>
  intro x hx h1 hf
  have hx' := hx
  have hy' := hy
  simp only [isLet, Bool.and_eq_true, decide_eq_true_eq] at hx' hy'
  have r0 : 0 ≤ kl x ∧ kl x ≤ 3 := by unfold kl; omega
  rw [comesX, List.length_map, hx, if_neg (by simp)]
  by_cases he : x = y
  ·subst he
   rw [if_pos rfl, U_refl hw r0.1]
  ·rw [if_neg he]
   have hne : kl x ≠ kl y := fun h => he (UInt8.toNat_inj.1 (by unfold kl at h; omega))
   have hstep := U_step hw (y := kl y) r0.1 (by omega)
   have hpl := parOf_lt hw r0.1
   have hbo : under cs 5 (kl x) (kl y) = under cs 5 (parOf cs (kl x)) (kl y) := by
    rw [Bool.eq_iff_iff, hstep]
    constructor
    ·rintro (h | h)
     ·exact absurd h hne
     ·exact h
    ·exact Or.inr
   rw [hbo]
   rcases parX_kl hw hn hx with ⟨h2, h3⟩ | ⟨h2, h3, h4⟩
   ·rw [h3, U_neg hw h2]
    cases f with
    | zero => rfl
    | succ f => rw [comesX, List.length_map, not45_let hw hn]; rfl
   ·rw [ih h3 (by rw [h4]; omega) (by omega), h4]
theorem isLet_isC {cs : List Cls} (hw : WfC cs) (hn : cs.length ≤ 4) {x : UInt8} (hx : okT cs.length x = true) : isC x = isLet cs.length x := by
 rw [okT_iff] at hx
 rw [Bool.eq_iff_iff, isC_iff]
 simp only [isLet, Bool.and_eq_true, decide_eq_true_eq]
 omega
theorem comes_not {cs : List Cls} (hw : WfC cs) (hn : cs.length ≤ 4) {y x : UInt8} {f : Nat} (h : isLet cs.length x = false) : comesX (cs.map toX) y f x = false := by
 cases f with
 | zero => rfl
 | succ f => rw [comesX, List.length_map, h]; rfl
theorem comes_not_anc {cs : List Cls} (hw : WfC cs) (hn : cs.length ≤ 4) {y : UInt8} (hy : isLet cs.length y = false) : ∀ {f : Nat} {x : UInt8}, comesX (cs.map toX) y f x = false := by
 intro f
 induction f with
 | zero => intro x; rfl
 | succ f ih =>
  intro x
  rw [comesX, List.length_map]
  cases hx : isLet cs.length x with
  | false => simp
  | true =>
   rw [if_neg (by simp), if_neg (fun h => by rw [h, hy] at hx; cases hx)]
   exact ih
/-- The program's 'fits' is the document's. -/
theorem fitsX_subT {cs : List Cls} (hw : WfC cs) (hn : cs.length ≤ 4) {a c : UInt8} (ha : okT cs.length a = true) (hc : okT cs.length c = true) : fitsX (cs.map toX) a c = subT cs a c := by
 rw [Bool.eq_iff_iff, subT_iff]
 unfold fitsX
 rw [isLet_isC hw hn ha, isLet_isC hw hn hc, List.length_map]
 by_cases h1 : a = c
 ·simp [h1]
 by_cases h2 : c.toNat = 45
 ·simp [h2]
 rw [if_neg (not_or.2 ⟨h1, h2⟩)]
 simp only [h1, h2, false_or]
 by_cases h3 : a.toNat = 122
 ·rw [if_pos h3]
  have : isLet cs.length a = false := by simp only [isLet, Bool.and_eq_false_iff, decide_eq_false_iff_not]; omega
  simp [h3, this]
 ·rw [if_neg h3]
  simp only [h3, and_false, false_or]
  cases hla : isLet cs.length a with
  | false => rw [comes_not hw hn hla]; simp
  | true =>
   cases hlc : isLet cs.length c with
   | false => rw [comes_not_anc hw hn hlc]; simp
   | true =>
    have hla' := hla
    simp only [isLet, Bool.and_eq_true, decide_eq_true_eq] at hla'
    rw [comes_under hw hn hlc hla (by unfold kl; omega) (by omega)]
    simp
end Go.Proofs.YtpfkkmacakjmbaaGreatDoor
namespace Go.Proofs.YtpfkkmacakjmbaaGreatDoor
open Go Go.RowKit Sp
set_option linter.unusedSimpArgs false
set_option linter.unusedVariables false
theorem let_ok {cs : List Cls} (hw : WfC cs) (hn : cs.length ≤ 4) {x : UInt8} (h : isLet cs.length x = true) : okT cs.length x = true := by
 rw [okT_iff]
 simp only [isLet, Bool.and_eq_true, decide_eq_true_eq] at h
 omega
theorem sub45 {cs : List Cls} (hw : WfC cs) (hn : cs.length ≤ 4) (x : UInt8) : subT cs x 45 = true := subT_iff.2 (Or.inr (Or.inl rfl))
/-- What is above a class: itself, or what is above its parent. -/
theorem sub_up {cs : List Cls} (hw : WfC cs) (hn : cs.length ≤ 4) {x d : UInt8} (hx : isLet cs.length x = true) (hne : x ≠ d) (h : subT cs x d = true) : subT cs (parX (cs.map toX) x) d = true ∨ d.toNat = 45 := by
 have hx' := hx
 simp only [isLet, Bool.and_eq_true, decide_eq_true_eq] at hx'
 rw [subT_iff] at h
 rcases h with h | h | ⟨_, h⟩ | ⟨h1, h2, h3⟩
 ·exact absurd h hne
 ·exact Or.inr h
 ·omega
 ·left
  have r0 : 0 ≤ kl x ∧ kl x ≤ 3 := by unfold kl; omega
  rcases (U_step hw r0.1 (by omega)).1 h3 with h | h
  ·exact absurd (UInt8.toNat_inj.1 (by unfold kl at h; omega)) hne
  ·rcases parX_kl hw hn hx with ⟨e1, e2⟩ | ⟨e1, e2, e3⟩
   ·rw [U_neg hw e1] at h; cases h
   ·rw [subT_iff, e3]
    exact Or.inr (Or.inr (Or.inr ⟨by rw [isLet_isC hw hn (let_ok hw hn e2)]; exact e2, h2, h⟩))
theorem sub_par {cs : List Cls} (hw : WfC cs) (hn : cs.length ≤ 4) {x : UInt8} (hx : isLet cs.length x = true) : subT cs x (parX (cs.map toX) x) = true := by
 have hx' := hx
 simp only [isLet, Bool.and_eq_true, decide_eq_true_eq] at hx'
 have r0 : 0 ≤ kl x ∧ kl x ≤ 3 := by unfold kl; omega
 rcases parX_kl hw hn hx with ⟨e1, e2⟩ | ⟨e1, e2, e3⟩
 ·rw [e2]; exact sub45 hw hn x
 ·rw [subT_iff, e3]
  refine Or.inr (Or.inr (Or.inr ⟨by rw [isLet_isC hw hn (let_ok hw hn hx)]; exact hx, by rw [isLet_isC hw hn (let_ok hw hn e2)]; exact e2, ?_⟩))
  exact (U_step hw r0.1 (by omega)).2 (Or.inr (U_refl hw e1))
theorem meetF_spec {cs : List Cls} (hw : WfC cs) (hn : cs.length ≤ 4) {c : UInt8} (hc : okT cs.length c = true) : ∀ {f : Nat} {x : UInt8}, isLet cs.length x = true → kl x < f → f ≤ 5 →
  subT cs x (meetF (cs.map toX) c f x) = true ∧ subT cs c (meetF (cs.map toX) c f x) = true ∧ ∀ d, subT cs x d = true → subT cs c d = true → subT cs (meetF (cs.map toX) c f x) d = true := by
 intro f
 induction f with
 | zero => intro x hx h1 _; simp only [isLet, Bool.and_eq_true, decide_eq_true_eq] at hx; unfold kl at h1; omega
 | succ f ih =>
  intro x hx h1 hf
  rw [meetF, List.length_map, hx, if_neg (by simp), fitsX_subT hw hn hc (let_ok hw hn hx)]
  by_cases hs : subT cs c x = true
  ·rw [if_pos hs]
   exact ⟨subT_refl _, hs, fun d h _ => h⟩
  ·rw [if_neg hs]
   have hup := fun d (h : subT cs x d = true) (h' : subT cs c d = true) => sub_up hw hn (d := d) hx (fun e => hs (by rw [e]; exact h')) h
   rcases parX_kl hw hn hx with ⟨e1, e2⟩ | ⟨e1, e2, e3⟩
   ·have hm : meetF (cs.map toX) c f (parX (cs.map toX) x) = 45 := by
     rw [e2]
     cases f with
     | zero => rfl
     | succ f => rw [meetF, List.length_map, not45_let hw hn]; rfl
    rw [hm]
    refine ⟨sub45 hw hn _, sub45 hw hn _, fun d h h' => ?_⟩
    rcases hup d h h' with h2 | h2
    ·rw [e2] at h2; exact h2
    ·exact subT_iff.2 (Or.inr (Or.inl h2))
   ·have hlt := parOf_lt hw (p := kl x) (by simp only [isLet, Bool.and_eq_true, decide_eq_true_eq] at hx; unfold kl; omega)
    have i1 := ih e2 (by rw [e3]; omega) (by omega)
    refine ⟨subT_trans hw (sub_par hw hn hx) i1.1, i1.2.1, fun d h h' => ?_⟩
    rcases hup d h h' with h2 | h2
    ·exact i1.2.2 d h2 h'
    ·exact subT_iff.2 (Or.inr (Or.inl h2))
/-- The program's meeting is the document's. -/
theorem meetX_joinT {cs : List Cls} (hw : WfC cs) (hn : cs.length ≤ 4) {a c : UInt8} (ha : okT cs.length a = true) (hc : okT cs.length c = true) : meetX (cs.map toX) a c = joinT cs a c := by
 have hj := joinT_lub hw a c
 suffices h : subT cs a (meetX (cs.map toX) a c) = true ∧ subT cs c (meetX (cs.map toX) a c) = true ∧ ∀ d, subT cs a d = true → subT cs c d = true → subT cs (meetX (cs.map toX) a c) d = true by
  exact subT_anti hw (h.2.2 _ hj.1 hj.2.1) (hj.2.2 _ h.1 h.2.1)
 unfold meetX
 rw [fitsX_subT hw hn ha hc]
 by_cases h1 : subT cs a c = true
 ·rw [if_pos h1]; exact ⟨h1, subT_refl _, fun d _ h => h⟩
 rw [if_neg h1, List.length_map]
 cases hl : isLet cs.length a with
 | true =>
  have hl' := hl
  simp only [isLet, Bool.and_eq_true, decide_eq_true_eq] at hl'
  exact meetF_spec hw hn hc hl (by unfold kl; omega) (by omega)
 | false =>
  have hm : meetF (cs.map toX) c cs.length a = 45 := by
   cases hf : cs.length with
   | zero => rfl
   | succ f => rw [meetF, List.length_map, hl]; rfl
  rw [hm]
  refine ⟨sub45 hw hn _, sub45 hw hn _, fun d h h' => ?_⟩
  have hca : isC a = false := by rw [isLet_isC hw hn ha]; exact hl
  rw [subT_iff] at h h'
  apply subT_iff.2
  right; left
  rcases h with rfl | h | ⟨p1, p2⟩ | ⟨p1, _⟩
  ·rw [okT_iff] at ha
   rcases h' with h' | h' | ⟨q1, _⟩ | ⟨_, q1, _⟩
   ·exact absurd (subT_iff.2 (Or.inl h'.symm)) h1
   ·exact h'
   ·rw [hca] at q1; cases q1
   ·rw [hca] at q1; cases q1
  ·exact h
  ·rcases h' with rfl | h' | ⟨q1, q2⟩ | ⟨q1, _⟩
   ·exact absurd (subT_iff.2 (Or.inr (Or.inr (Or.inl ⟨p1, p2⟩)))) h1
   ·exact h'
   ·exact absurd (subT_iff.2 (Or.inl (UInt8.toNat_inj.1 (by omega)))) h1
   ·exact absurd (subT_iff.2 (Or.inr (Or.inr (Or.inl ⟨q1, p2⟩)))) h1
  ·rw [hca] at p1; cases p1
end Go.Proofs.YtpfkkmacakjmbaaGreatDoor
namespace Go.Proofs.YtpfkkmacakjmbaaGreatDoor
open Go Go.RowKit Sp
set_option linter.unusedSimpArgs false
set_option linter.unusedVariables false
attribute [local go_sem ↓] Go.wp_at_zero Go.wp_at_succ
set_option maxHeartbeats 1600000 in
set_option maxRecDepth 100000 in
theorem xmeetings_any (b : Nat) (cs : List XCls) (a1 a2 : Option Addr) (c1 c2 : Nat) (l m : List UInt8) (w : World) (hn : cs.length ≤ 100) (hT : TxC w b cs) (h1 : BtB w 0 (.slice a1 l.length c1) l) (h2 : BtB w 0 (.slice a2 m.length c2) m) (hl : l.length = m.length) (hm : m.length ≤ 200) :
  Calls Tryz.prog 172 #[.pointer (some ⟨b, 0, none⟩), .slice a1 l.length c1, .slice a2 m.length c2] w fun en w' => But (fun _ => False) w w' ∧ ∃ v, en = .returned v ∧ BtB w' w.heap.size v (List.zipWith (meetX cs) l m) := by
 obtain ⟨i0, hi0, hz0, hz1, hz2⟩ := info_parts info_u8
 have HL := hid hl
 have hle : l.length ≤ m.length := by omega
 clear hl
 go_enter Tryz.func172, Tryz.ntmps172
 go_wp2_with fail
 have hB0 : But (fun _ => False) w (w.alloc (.cells #[] 5)) := But.alloc _ _ _
 go_loopg [7, 8] l.length (fun mm vs is wr => ∃ (ao : Option Addr) (cap k : Nat) (t : List UInt8), vs = .slice ao t.length cap ∧ is = .int .i64 k ∧ k ≤ l.length ∧ k + mm ≤ l.length ∧ l.length ≤ k + mm ∧ But (fun _ => False) w wr ∧ BtB wr w.heap.size (.slice ao t.length cap) t ∧ t.length ≤ k ∧
  Hid (List.zipWith (meetX cs) (l.take k) (m.take k) = t))
 case atStart => exact ⟨_, 0, 0, [], rfl, rfl, by omega, by omega, by omega, hB0, BtB.empty w, by simp, rfl⟩
 case round =>
  obtain ⟨ao, cap, k, t, rfl, rfl, hk1, hk2, hk3, hBr, hBt, htk, HA⟩ := hrel
  clear hk2
  by_cases hlt : k < l.length
  ·have e1 : (k : Int) < (l.length : Int) := by omega
   have e2 : (k : Int) < (m.length : Int) := by omega
   have hltm : k < m.length := by omega
   obtain ⟨g1, r1, hg1, _, hcell1⟩ := owns_two (h1.but hBr (fun _ _ h => h)) (by omega)
   obtain ⟨g2, r2, hg2, _, hcell2⟩ := owns_two (h2.but hBr (fun _ _ h => h)) (by omega)
   subst r1 r2
   have q1 := hcell1 _ _ (btCells_at hlt)
   have q2 := hcell2 _ _ (btCells_at hltm)
   have HNX : Hid (List.zipWith (meetX cs) (l.take (k + 1)) (m.take (k + 1)) = t ++ [meetX cs (l.getD k 0) (m.getD k 0)]) := by
    show _ = _
    rw [List.take_succ_eq_append_getElem hlt, List.take_succ_eq_append_getElem hltm, List.zipWith_append (by simp; omega), HA.out]
    simp [List.getD, hlt, hltm]
   clear hcell1 hcell2
   revert q1 q2 HNX
   generalize l.getD k 0 = x
   generalize m.getD k 0 = y
   intro q1 q2 HNX
   go_wp2_with fail
   have hS0 : But (fun _ => False) wr wr.drew := But.drew _ _
   have HMT := hid (xmeeting_any b cs x y wr.drew hn ((hT.but hBr).but hS0))
   refine wpTx_begin (But (fun _ => False) wr) 10 (by kernel_rfl) ?_
   have fSA := hid (fun wS (h : (But (fun _ => False) wr) wS) => (And.intro ((h.cell (p := ⟨g1, k, none⟩) hg1 (fun h => h)).trans q1) ((h.cell (p := ⟨g2, k, none⟩) hg2 (fun h => h)).trans q2)))
   refine wpTx_take (v := ?vA0) rfl (by kernel_rfl) ?qA0 rfl hS0 ?yA0 ?rA0
   case yA0 => intro wS h; obtain ⟨q0, q1⟩ := fSA.out wS h; clear h; go_simp; try rfl
   case qA0 => exact fun _ _ _ h => h
   dsimp only [Act.put]
   try simp only [puts]
   refine wpTx_take (v := ?vA1) rfl (by kernel_rfl) ?qA1 rfl hS0 ?yA1 ?rA1
   case yA1 => intro wS h; obtain ⟨q0, q1⟩ := fSA.out wS h; clear h; go_simp; try rfl
   case qA1 => exact fun _ _ _ h => h
   dsimp only [Act.put]
   try simp only [puts]
   refine wpTx_take (v := ?vA2) rfl (by kernel_rfl) ?qA2 rfl hS0 ?yA2 ?rA2
   case yA2 => intro wS h; obtain ⟨q0, q1⟩ := fSA.out wS h; clear h; go_simp; try rfl
   case qA2 => exact fun _ _ _ h => h
   dsimp only [Act.put]
   try simp only [puts]
   refine wpTx_take (v := ?vA3) rfl (by kernel_rfl) ?qA3 rfl hS0 ?yA3 ?rA3
   case yA3 => intro wS h; obtain ⟨q0, q1⟩ := fSA.out wS h; clear h; go_simp; try rfl
   case qA3 => exact fun _ _ _ h => h
   dsimp only [Act.put]
   try simp only [puts]
   refine wpTx_take (v := ?vA4) rfl (by kernel_rfl) ?qA4 rfl hS0 ?yA4 ?rA4
   case yA4 => intro wS h; obtain ⟨q0, q1⟩ := fSA.out wS h; clear h; go_simp; try rfl
   case qA4 => exact fun _ _ _ h => h
   dsimp only [Act.put]
   try simp only [puts]
   refine wpTx_take (v := ?vA5) rfl (by kernel_rfl) ?qA5 rfl hS0 ?yA5 ?rA5
   case yA5 => intro wS h; obtain ⟨q0, q1⟩ := fSA.out wS h; clear h; go_simp; try rfl
   case qA5 => exact fun _ _ _ h => h
   dsimp only [Act.put]
   try simp only [puts]
   refine wpTx_take (v := ?vA6) rfl (by kernel_rfl) ?qA6 rfl hS0 ?yA6 ?rA6
   case yA6 => intro wS h; obtain ⟨q0, q1⟩ := fSA.out wS h; clear h; go_simp; try rfl
   case qA6 => exact fun _ _ _ h => h
   dsimp only [Act.put]
   try simp only [puts]
   refine wpTx_take (v := ?vA7) rfl (by kernel_rfl) ?qA7 rfl hS0 ?yA7 ?rA7
   case yA7 => intro wS h; obtain ⟨q0, q1⟩ := fSA.out wS h; clear h; go_simp; try rfl
   case qA7 => exact fun _ _ _ h => h
   dsimp only [Act.put]
   try simp only [puts]
   refine wpTx_take (v := ?vA8) rfl (by kernel_rfl) ?qA8 rfl hS0 ?yA8 ?rA8
   case yA8 => intro wS h; obtain ⟨q0, q1⟩ := fSA.out wS h; clear h; go_simp; try rfl
   case qA8 => exact fun _ _ _ h => h
   dsimp only [Act.put]
   try simp only [puts]
   try clear fSA
   refine wpTx_step (o := ?oA9) (rest := ?rsA9) ?hoA9 ?hrA9 ?stA9
   case hoA9 => rfl
   case hrA9 => kernel_rfl
   case' stA9 =>
   intro KS hKS
   go_simp
   refine HMT.out.mono ?_
   rintro en wx ⟨rfl, hwx⟩
   rw [hwx]
   clear hwx wx HMT
   refine hKS.out _ _ (fun _ => hS0) ?_
   clear hKS KS
   refine wpTx_step (o := ?oA10) (rest := ?rsA10) ?hoA10 ?hrA10 ?stA10
   case hoA10 => rfl
   case hrA10 => kernel_rfl
   case' stA10 =>
   intro KS hKS
   go_simp
   refine hKS.out _ _ (fun h => absurd h (by decide)) ?_
   clear hKS KS
   refine wpTx_done rfl (by kernel_rfl) ?_
   revert HNX
   generalize meetX cs x y = z
   intro HNX
   have hBw1 : But (fun _ => False) w wr.drew := hBr.trans hS0
   have hBt1 := hBt.but hS0 (fun _ _ h => h)
   revert hBw1 hBt1
   generalize wr.drew = w1
   intro hBw1 hBt1
   have hO1 : w1.ownsRow w.heap.size 5 1 (.slice ao t.length cap) t.length (btCells t) := hBt1
   have hsz := hBw1.size
   clear q1 q2
   go_wp2_with (at_builtin; refine wpList_append_lies _ rfl _ _ _ rfl w.heap.size 5 i0 _ 1 1 (by kernel_rfl) hi0 hz0 hz1 hz2 rfl (by omega) _ t.length (btCells t) rfl (hO1.alloc _) ⟨w1.heap.size, 0, none⟩ 1 1 [.int .u8 z.toNat] rfl rfl (World.news_of_block (cs := #[.int .u8 z.toNat]) (t := 5) (fr := (0, 0)) (heap_alloc_new w1 _)) (by simp [Value.oneCell']) (by omega) (by unfold maxLen; omega) (by omega) (by simp; omega) (w1.heap.size + 1) (by simp) ?_)
   intro gg cap3 w2 hown2 hgrow hat hlt2
   have hSW : But (fun k' => (Value.slice ao t.length cap).ownBlock = some k') w1 w2 := (But.alloc _ _ _).trans (but_grown hgrow)
   have hBw2 : But (fun _ => False) w w2 := hBw1.next hSW (fun k' hk' h => absurd (owns_ge hO1 k' h) (by omega))
   have hBt2 : BtB w2 w.heap.size (.slice (some ⟨gg, 0, none⟩) (t ++ [z]).length cap3) (t ++ [z]) := by
    unfold BtB
    rw [List.length_append, btCells, List.map_append]
    exact hown2
   go_wp2_with fail
   go_roundg (l.length - (k + 1))
   case measure => omega
   case rel => exact ⟨_, cap3, k + 1, t ++ [z], by simp, by simp, by omega, by omega, by omega, hBw2, hBt2, by simp; omega, HNX.out⟩
  ·have e1 : ¬ (k : Int) < (l.length : Int) := by omega
   have hres : List.zipWith (meetX cs) l m = t := by rw [← HA.out, List.take_of_length_le (by omega), List.take_of_length_le (by have := HL.out; omega)]
   have HRS := hid hres
   clear hres HA
   go_wp2_with fail
   exact bodyPost_ret (v := .slice ao t.length cap) (by simp [results, Tryz.results172, go_sem]) rfl ⟨hBr, _, rfl, by rw [HRS.out]; exact hBt⟩
end Go.Proofs.YtpfkkmacakjmbaaGreatDoor
namespace Go.Proofs.YtpfkkmacakjmbaaGreatDoor
open Go Go.RowKit Sp
set_option linter.unusedSimpArgs false
set_option linter.unusedVariables false
attribute [local go_sem ↓] Go.wp_at_zero Go.wp_at_succ
set_option maxHeartbeats 1600000 in
set_option maxRecDepth 100000 in
theorem xtypes_bad (b : Nat) (s : ByteArray) (i : Nat) (v0 v1 : Value) (v2 : RdV) (w : World) (most n : Nat) (e : UInt8) (he : 0 < e.toNat) (hm : most ≤ 10) (hs : s.size ≤ 2000) (hR : XrB w b s i true v0 v1 v2) :
  Calls Tryz.prog 216 #[.pointer (some ⟨b, 0, none⟩), .int .i64 most, .int .i64 n, .int .u8 e.toNat] w fun en w' => But (· = b) w w' ∧ en = .returned (.slice (some ⟨w.heap.size, 0, none⟩) 0 0) ∧ XrB w' b s i true v0 v1 v2 ∧ BtB w' w.heap.size (.slice (some ⟨w.heap.size, 0, none⟩) 0 0) [] := by
 go_enter Tryz.func216, Tryz.ntmps216
 go_wp2_with fail
 have hB0 : But (· = b) w (w.alloc (.cells #[] 5)) := But.alloc _ _ _
 have hR0 : XrB (w.alloc (.cells #[] 5)) b s i true v0 v1 v2 := hR.but (But.alloc (fun _ => False) _ _) (fun h => h)
 have hbw := hR.lt
 have hE := BtB.empty w
 revert hB0 hR0 hE
 generalize (w.alloc (.cells #[] 5)) = W
 intro hB0 hR0 hE
 go_loopg [9] 0 (fun mm vs wr => vs = .slice (some ⟨w.heap.size, 0, none⟩) 0 0 ∧ wr = W)
 case atStart => exact ⟨rfl, rfl⟩
 case round =>
  obtain ⟨rfl, hww⟩ := hrel
  subst hww
  have hfin : ∀ (w1 : World), But (· = b) wr w1 → XrB w1 b s (tkP s e i true).1 (tkP s e i true).2 v0 v1 v2 → But (· = b) w w1 ∧ XrB w1 b s i true v0 v1 v2 ∧ BtB w1 w.heap.size (.slice (some ⟨w.heap.size, 0, none⟩) 0 0) [] := by
   intro w1 h1 h2
   rw [show tkP s e i true = (i, true) from by unfold tkP; rw [if_neg (by simp)]] at h2
   exact ⟨hB0.trans h1, h2, hE.but h1 (fun g hg h => by have := owns_ge hE g hg; omega)⟩
  have HF := hid hfin
  clear hfin
  by_cases hlt : (0 : Int) < (most : Int)
  ·have hbef := xbefore_any b s i true v0 v1 v2 wr e hR0
   rw [show (!true && !decide (pk s i = e)) = false from rfl] at hbef
   have HBF := hid hbef
   clear hbef
   go_wp2_with fail
   refine HBF.out.mono ?_
   rintro en w1 ⟨rfl, m, rfl⟩
   go_wp2_with fail
   refine (xtake_any b s i true v0 v1 v2 _ e he hs (hR0.drewN m)).mono ?_
   rintro en w2 ⟨rfl, hB2, hR2⟩
   go_wp2_with fail
   exact bodyPost_ret (v := .slice (some ⟨w.heap.size, 0, none⟩) 0 0) (by simp [results, Tryz.results216, go_sem]) rfl (have h := HF.out w2 ((But.drewN _ _ _).trans hB2) hR2; ⟨h.1, rfl, h.2⟩)
  ·go_wp2_with fail
   refine (xtake_any b s i true v0 v1 v2 _ e he hs hR0).mono ?_
   rintro en w2 ⟨rfl, hB2, hR2⟩
   go_wp2_with fail
   exact bodyPost_ret (v := .slice (some ⟨w.heap.size, 0, none⟩) 0 0) (by simp [results, Tryz.results216, go_sem]) rfl (have h := HF.out w2 hB2 hR2; ⟨h.1, rfl, h.2⟩)
def suitsX (cs : List XCls) (a c : UInt8) : Bool := if c.toNat = 38 then (decide (a.toNat = 122) || isLet cs.length a) else fitsX cs a c
set_option maxHeartbeats 1600000 in
set_option maxRecDepth 100000 in
theorem xsuits_any (b : Nat) (cs : List XCls) (a c : UInt8) (w : World) (hn : cs.length ≤ 100) (hT : TxC w b cs) :
  Calls Tryz.prog 204 #[.pointer (some ⟨b, 0, none⟩), .int .u8 a.toNat, .int .u8 c.toNat] w fun e w' => e = .returned (.bool (suitsX cs a c)) ∧ w' = w := by
 by_cases h1 : c.toNat = 38
 ·have e1 : ((c.toNat : Int) == 38) = true := by rw [beq_iff_eq]; omega
  by_cases h2 : a.toNat = 122
  ·have e2 : ((a.toNat : Int) == 122) = true := by rw [beq_iff_eq]; omega
   rw [show suitsX cs a c = true from by unfold suitsX; rw [if_pos h1]; simp [h2]]
   clear h1 h2
   go_enter Tryz.func204, Tryz.ntmps204
   go_wp2_with fail
   go_ret
   exact ⟨rfl, rfl⟩
  ·have e2 : ((a.toNat : Int) == 122) = false := by rw [beq_eq_false_iff_ne]; omega
   rw [show suitsX cs a c = isLet cs.length a from by unfold suitsX; rw [if_pos h1]; simp [h2]]
   clear h1 h2
   go_enter Tryz.func204, Tryz.ntmps204
   go_wp2_with fail
   refine (xisClass_any b cs a w hn hT).mono ?_
   rintro en w1 ⟨rfl, rfl⟩
   go_wp2_with fail
   go_ret
   exact ⟨rfl, rfl⟩
 ·have e1 : ((c.toNat : Int) == 38) = false := by rw [beq_eq_false_iff_ne]; omega
  rw [show suitsX cs a c = fitsX cs a c from by unfold suitsX; rw [if_neg h1]]
  clear h1
  go_enter Tryz.func204, Tryz.ntmps204
  go_wp2_with fail
  refine (xfits_any b cs a c w hn hT).mono ?_
  rintro en w1 ⟨rfl, rfl⟩
  go_wp2_with fail
  go_ret
  exact ⟨rfl, rfl⟩
end Go.Proofs.YtpfkkmacakjmbaaGreatDoor
namespace Go.Proofs.YtpfkkmacakjmbaaGreatDoor
open Go Go.RowKit Sp
set_option linter.unusedSimpArgs false
set_option linter.unusedVariables false
attribute [local go_sem ↓] Go.wp_at_zero Go.wp_at_succ
/-- The first that waits, from number k on. -/
def firstW (l : List Bool) : Nat → Nat → Int
 | 0, _ => -1
 | f + 1, k => if l.getD k false = true then (k : Int) else firstW l f (k + 1)
/-- Who waits lies in block g. -/
def WtB (w : World) (g : Nat) (l : List Bool) : Prop := w.heap[g]? = some (.cells (l.map Value.bool).toArray 4)
theorem WtB.cell {w : World} {g : Nat} {l : List Bool} (h : WtB w g l) {k : Nat} (hk : k < l.length) : w.cell? ⟨g, k, none⟩ = some (.bool (l.getD k false)) := by
 rw [cell_of_row w g k _ _ (0, 0) h]
 simp [List.getD, hk]
set_option maxHeartbeats 800000 in
set_option maxRecDepth 100000 in
theorem firstWaiting_any (b g : Nat) (l : List Bool) (w : World) (h7 : w.cell? ⟨b, 7, none⟩ = some (.slice (some ⟨g, 0, none⟩) l.length l.length)) (hW : WtB w g l) (hl : l.length ≤ 100) :
  Calls Tryz.prog 106 #[.pointer (some ⟨b, 0, none⟩)] w fun en w' => en = .returned (.int .i64 (firstW l l.length 0)) ∧ w' = w := by
 obtain ⟨R, hRR⟩ : ∃ R, firstW l l.length 0 = R := ⟨_, rfl⟩
 rw [hRR]
 have HRR := hid hRR
 clear hRR
 go_enter Tryz.func106, Tryz.ntmps106
 go_wp2_with fail
 go_loopg [3] l.length (fun mm is wr => ∃ k : Nat, is = .int .i64 k ∧ k ≤ l.length ∧ k + mm ≤ l.length ∧ l.length ≤ k + mm ∧ wr = w ∧ Hid (firstW l mm k = R))
 case atStart => exact ⟨0, rfl, by omega, by omega, by omega, rfl, HRR.out⟩
 case round =>
  obtain ⟨k, rfl, hk1, hk2, hk3, hww, HA⟩ := hrel
  subst hww
  have hgk : gk = l.length - k := by omega
  rw [hgk] at HA
  clear hgk hk2
  by_cases hlt : k < l.length
  ·have hkn : (k : Int) < (l.length : Int) := by omega
   have q := hW.cell hlt
   rw [show l.length - k = (l.length - (k + 1)) + 1 from by omega] at HA
   have hA := HA.out
   simp only [firstW] at hA
   revert q hA
   cases l.getD k false with
   | true =>
    intro q hA
    simp only [if_true] at hA
    subst hA
    clear HA HRR
    go_wp2_with fail
    go_ret
    exact ⟨rfl, rfl⟩
   | false =>
    intro q hA
    simp only [Bool.false_eq_true, if_false] at hA
    have HA1 := hid hA
    clear HA hA HRR
    go_wp2_with fail
    go_roundg (l.length - (k + 1))
    case measure => omega
    case rel => exact ⟨k + 1, by simp, by omega, by omega, by omega, rfl, HA1.out⟩
  ·have hkn : ¬ (k : Int) < (l.length : Int) := by omega
   rw [show l.length - k = 0 from by omega] at HA
   have hA : -1 = R := HA.out
   subst hA
   clear HA HRR
   go_wp2_with fail
   go_ret
   exact ⟨rfl, rfl⟩
end Go.Proofs.YtpfkkmacakjmbaaGreatDoor
