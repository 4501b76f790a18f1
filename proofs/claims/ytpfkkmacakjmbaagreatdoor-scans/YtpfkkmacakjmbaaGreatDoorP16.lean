import Derived.Test.YtpfkkmacakjmbaaGreatDoorP15
import Derived.Test.YtpfkkmacakjmbaaGreatDoorP02
set_option maxRecDepth 100000
set_option maxHeartbeats 6400000
namespace Go.Proofs.YtpfkkmacakjmbaaGreatDoor
open Go Go.RowKit Sp
set_option linter.unusedSimpArgs false
set_option linter.unusedVariables false
attribute [local go_sem ↓] Go.wp_at_zero Go.wp_at_succ
def meetF (cs : List XCls) (c : UInt8) : Nat → UInt8 → UInt8
 | 0, _ => 45
 | f + 1, x => if isLet cs.length x = false then 45 else if fitsX cs c x = true then x else meetF cs c f (parX cs x)
def meetX (cs : List XCls) (a c : UInt8) : UInt8 := if fitsX cs a c = true then c else meetF cs c cs.length a
theorem xmeeting_any (b : Nat) (cs : List XCls) (a c : UInt8) (w : World) (hn : cs.length ≤ 100) (hT : TxC w b cs) :
  Calls Tryz.prog 205 #[.pointer (some ⟨b, 0, none⟩), .int .u8 a.toNat, .int .u8 c.toNat] w fun e w' => e = .returned (.int .u8 (meetX cs a c).toNat) ∧ w' = w := by
 obtain ⟨R, hRR⟩ : ∃ R, meetX cs a c = R := ⟨_, rfl⟩
 rw [hRR]
 unfold meetX at hRR
 have hfi := xfits_any b cs a c w hn hT
 by_cases hf0 : fitsX cs a c = true
 ·rw [if_pos hf0] at hRR
  subst hRR
  rw [hf0] at hfi
  have HFI := hid hfi
  clear hfi hf0
  go_enter Tryz.func205, Tryz.ntmps205
  go_wp2_with fail
  refine HFI.out.mono ?_
  rintro en w1 ⟨rfl, rfl⟩
  go_wp2_with fail
  go_ret
  exact ⟨rfl, rfl⟩
 rw [if_neg hf0] at hRR
 have hf0' : fitsX cs a c = false := by simpa using hf0
 rw [hf0'] at hfi
 have HFI := hid hfi
 have HRR := hid hRR
 clear hRR hfi hf0 hf0'
 have hT' := hT
 obtain ⟨v0, l, h0, hl, hO, hm, hf⟩ := hT'
 obtain ⟨ao, cap, rfl⟩ := owns_len hO
 have hln : l.length = cs.length := by rw [← hm]; simp
 rw [hln] at h0
 clear hm hf hO hln
 obtain ⟨n, hnn⟩ : ∃ n, cs.length = n := ⟨_, rfl⟩
 have HN := hid hnn
 rw [hnn] at h0 hn
 clear hnn
 go_enter Tryz.func205, Tryz.ntmps205
 go_wp2_with fail
 refine HFI.out.mono ?_
 rintro en w1 ⟨rfl, rfl⟩
 go_wp2_with fail
 rw [HN.out] at HRR
 go_loopg [7, 8] n (fun mm ls is wr => ∃ (x : UInt8) (k : Nat), ls = .int .u8 x.toNat ∧ is = .int .i64 k ∧ k ≤ n ∧ k + mm ≤ n ∧ n ≤ k + mm ∧ wr = w1 ∧ Hid (meetF cs c mm x = R))
 case atStart => exact ⟨a, 0, rfl, rfl, by omega, by omega, by omega, rfl, HRR.out⟩
 case round =>
  obtain ⟨x, k, rfl, rfl, hk1, hk2, hk3, hww, HA⟩ := hrel
  subst hww
  have hgk : gk = n - k := by omega
  rw [hgk] at HA
  clear hgk hk2
  by_cases hlt : k < n
  ·have hkn : (k : Int) < (n : Int) := by omega
   rw [show n - k = (n - (k + 1)) + 1 from by omega] at HA
   have hic := xisClass_any b cs x wr (by rw [HN.out]; exact hn) hT
   by_cases hl : isLet cs.length x = true
   ·rw [hl] at hic
    have HIC := hid hic
    have hA := HA.out
    simp only [meetF, hl, Bool.true_eq_false, if_false] at hA
    have hfx := xfits_any b cs c x wr (by rw [HN.out]; exact hn) hT
    by_cases hxc : fitsX cs c x = true
    ·rw [if_pos hxc] at hA
     rw [hxc] at hfx
     have HFX := hid hfx
     subst hA
     clear hic hl hxc HA HRR hfx
     go_wp2_with fail
     refine HIC.out.mono ?_
     rintro en w1 ⟨rfl, rfl⟩
     go_wp2_with fail
     refine HFX.out.mono ?_
     rintro en w1 ⟨rfl, rfl⟩
     go_wp2_with fail
     go_ret
     exact ⟨rfl, rfl⟩
    ·rw [if_neg hxc] at hA
     have hxc' : fitsX cs c x = false := by simpa using hxc
     rw [hxc'] at hfx
     have HFX := hid hfx
     have HA1 := hid hA
     clear hic hl hxc hxc' HA hA HRR hfx
     go_wp2_with fail
     refine HIC.out.mono ?_
     rintro en w1 ⟨rfl, rfl⟩
     go_wp2_with fail
     refine HFX.out.mono ?_
     rintro en w1 ⟨rfl, rfl⟩
     go_wp2_with fail
     refine (xpar_any b cs x w1 (by rw [HN.out]; exact hn) hT).mono ?_
     rintro en w2 ⟨rfl, rfl⟩
     revert HA1
     generalize parX cs x = px
     intro HA1
     go_wp2_with fail
     go_roundg (n - (k + 1))
     case measure => omega
     case rel => exact ⟨px, k + 1, rfl, by simp, by omega, by omega, by omega, rfl, HA1.out⟩
   ·have hl' : isLet cs.length x = false := by simpa using hl
    rw [hl'] at hic
    have HIC := hid hic
    have hA := HA.out
    simp only [meetF, hl', if_true] at hA
    subst hA
    clear hic hl hl' HA HRR
    go_wp2_with fail
    refine HIC.out.mono ?_
    rintro en w1 ⟨rfl, rfl⟩
    go_wp2_with fail
    go_ret
    exact ⟨rfl, rfl⟩
  ·have hkn : ¬ (k : Int) < (n : Int) := by omega
   rw [show n - k = 0 from by omega] at HA
   have hA : 45 = R := HA.out
   subst hA
   clear HA HRR
   go_wp2_with fail
   go_ret
   exact ⟨rfl, rfl⟩
def toX (c : Cls) : XCls := ⟨if c.par < 0 then 45 else UInt8.ofNat (65 + c.par.toNat), c.fields⟩
theorem parX_kl {cs : List Cls} (hw : WfC cs) (hn : cs.length ≤ 4) {x : UInt8} (hx : isLet cs.length x = true) : (parOf cs (kl x) < 0 ∧ parX (cs.map toX) x = 45) ∨ (0 ≤ parOf cs (kl x) ∧ isLet cs.length (parX (cs.map toX) x) = true ∧ kl (parX (cs.map toX) x) = parOf cs (kl x)) := by
 have hx' := hx
 simp only [isLet, Bool.and_eq_true, decide_eq_true_eq] at hx'
 have hk : (kl x).toNat = x.toNat - 65 := by unfold kl; omega
 obtain ⟨c, hc⟩ : ∃ c, cs[x.toNat - 65]? = some c := ⟨_, List.getElem?_eq_getElem (by omega)⟩
 have hp : parOf cs (kl x) = c.par := by unfold parOf; rw [hk, hc]; rfl
 have hq : parX (cs.map toX) x = (toX c).par := by
  unfold parX
  rw [List.length_map, if_pos hx, List.getElem?_map, hc]
  rfl
 have hr := hw _ _ hc
 rw [hp, hq]
 unfold toX
 by_cases h0 : c.par < 0
 ·left; exact ⟨h0, by simp [h0]⟩
 ·right
  have hv : (UInt8.ofNat (65 + c.par.toNat)).toNat = 65 + c.par.toNat := by simp; omega
  simp only [if_neg h0]
  refine ⟨by omega, ?_, ?_⟩
  ·simp only [isLet, hv, Bool.and_eq_true, decide_eq_true_eq]; omega
  ·unfold kl; rw [hv]; omega
theorem not45_let {cs : List Cls} (hw : WfC cs) (hn : cs.length ≤ 4) {n : Nat} : isLet n 45 = false := by simp [isLet]
theorem comes_under {cs : List Cls} (hw : WfC cs) (hn : cs.length ≤ 4) {y : UInt8} (hy : isLet cs.length y = true) : ∀ {f : Nat} {x : UInt8}, isLet cs.length x = true → kl x < f → f ≤ 5 → comesX (cs.map toX) y f x = under cs 5 (kl x) (kl y) := by
 intro f
 induction f with
 | zero => intro x hx h1 _; simp only [isLet, Bool.and_eq_true, decide_eq_true_eq] at hx; unfold kl at h1; omega
 | succ f ih =>
  intro x hx h1 hf
  have hx' := hx
  have hy' := hy
  simp only [isLet, Bool.and_eq_true, decide_eq_true_eq] at hx' hy'
  have r0 : 0 ≤ kl x ∧ kl x ≤ 3 := by unfold kl; omega
  rw [comesX, List.length_map, hx, if_neg (by simp)]
  by_cases he : x = y
  ·subst he
   rw [if_pos rfl, U_refl hw r0.1]
  ·rw [if_neg he]
   have hne : kl x ≠ kl y := fun h => he (UInt8.toNat_inj.1 (by unfold kl at h; omega))
   have hstep := U_step hw (y := kl y) r0.1 (by omega)
   have hpl := parOf_lt hw r0.1
   have hbo : under cs 5 (kl x) (kl y) = under cs 5 (parOf cs (kl x)) (kl y) := by
    rw [Bool.eq_iff_iff, hstep]
    constructor
    ·rintro (h | h)
     ·exact absurd h hne
     ·exact h
    ·exact Or.inr
   rw [hbo]
   rcases parX_kl hw hn hx with ⟨h2, h3⟩ | ⟨h2, h3, h4⟩
   ·rw [h3, U_neg hw h2]
    cases f with
    | zero => rfl
    | succ f => rw [comesX, List.length_map, not45_let hw hn]; rfl
   ·rw [ih h3 (by rw [h4]; omega) (by omega), h4]
theorem isLet_isC {cs : List Cls} (hw : WfC cs) (hn : cs.length ≤ 4) {x : UInt8} (hx : okT cs.length x = true) : isC x = isLet cs.length x := by
 rw [okT_iff] at hx
 rw [Bool.eq_iff_iff, isC_iff]
 simp only [isLet, Bool.and_eq_true, decide_eq_true_eq]
 omega
theorem comes_not {cs : List Cls} (hw : WfC cs) (hn : cs.length ≤ 4) {y x : UInt8} {f : Nat} (h : isLet cs.length x = false) : comesX (cs.map toX) y f x = false := by
 cases f with
 | zero => rfl
 | succ f => rw [comesX, List.length_map, h]; rfl
theorem comes_not_anc {cs : List Cls} (hw : WfC cs) (hn : cs.length ≤ 4) {y : UInt8} (hy : isLet cs.length y = false) : ∀ {f : Nat} {x : UInt8}, comesX (cs.map toX) y f x = false := by
 intro f
 induction f with
 | zero => intro x; rfl
 | succ f ih =>
  intro x
  rw [comesX, List.length_map]
  cases hx : isLet cs.length x with
  | false => simp
  | true =>
   rw [if_neg (by simp), if_neg (fun h => by rw [h, hy] at hx; cases hx)]
   exact ih
theorem fitsX_subT {cs : List Cls} (hw : WfC cs) (hn : cs.length ≤ 4) {a c : UInt8} (ha : okT cs.length a = true) (hc : okT cs.length c = true) : fitsX (cs.map toX) a c = subT cs a c := by
 rw [Bool.eq_iff_iff, subT_iff]
 unfold fitsX
 rw [isLet_isC hw hn ha, isLet_isC hw hn hc, List.length_map]
 by_cases h1 : a = c
 ·simp [h1]
 by_cases h2 : c.toNat = 45
 ·simp [h2]
 rw [if_neg (not_or.2 ⟨h1, h2⟩)]
 simp only [h1, h2, false_or]
 by_cases h3 : a.toNat = 122
 ·rw [if_pos h3]
  have : isLet cs.length a = false := by simp only [isLet, Bool.and_eq_false_iff, decide_eq_false_iff_not]; omega
  simp [h3, this]
 ·rw [if_neg h3]
  simp only [h3, and_false, false_or]
  cases hla : isLet cs.length a with
  | false => rw [comes_not hw hn hla]; simp
  | true =>
   cases hlc : isLet cs.length c with
   | false => rw [comes_not_anc hw hn hlc]; simp
   | true =>
    have hla' := hla
    simp only [isLet, Bool.and_eq_true, decide_eq_true_eq] at hla'
    rw [comes_under hw hn hlc hla (by unfold kl; omega) (by omega)]
    simp
end Go.Proofs.YtpfkkmacakjmbaaGreatDoor
namespace Go.Proofs.YtpfkkmacakjmbaaGreatDoor
open Go Go.RowKit Sp
set_option linter.unusedSimpArgs false
set_option linter.unusedVariables false
theorem let_ok {cs : List Cls} (hw : WfC cs) (hn : cs.length ≤ 4) {x : UInt8} (h : isLet cs.length x = true) : okT cs.length x = true := by
 rw [okT_iff]
 simp only [isLet, Bool.and_eq_true, decide_eq_true_eq] at h
 omega
theorem sub45 {cs : List Cls} (hw : WfC cs) (hn : cs.length ≤ 4) (x : UInt8) : subT cs x 45 = true := subT_iff.2 (Or.inr (Or.inl rfl))
theorem sub_up {cs : List Cls} (hw : WfC cs) (hn : cs.length ≤ 4) {x d : UInt8} (hx : isLet cs.length x = true) (hne : x ≠ d) (h : subT cs x d = true) : subT cs (parX (cs.map toX) x) d = true ∨ d.toNat = 45 := by
 have hx' := hx
 simp only [isLet, Bool.and_eq_true, decide_eq_true_eq] at hx'
 rw [subT_iff] at h
 rcases h with h | h | ⟨_, h⟩ | ⟨h1, h2, h3⟩
 ·exact absurd h hne
 ·exact Or.inr h
 ·omega
 ·left
  have r0 : 0 ≤ kl x ∧ kl x ≤ 3 := by unfold kl; omega
  rcases (U_step hw r0.1 (by omega)).1 h3 with h | h
  ·exact absurd (UInt8.toNat_inj.1 (by unfold kl at h; omega)) hne
  ·rcases parX_kl hw hn hx with ⟨e1, e2⟩ | ⟨e1, e2, e3⟩
   ·rw [U_neg hw e1] at h; cases h
   ·rw [subT_iff, e3]
    exact Or.inr (Or.inr (Or.inr ⟨by rw [isLet_isC hw hn (let_ok hw hn e2)]; exact e2, h2, h⟩))
theorem sub_par {cs : List Cls} (hw : WfC cs) (hn : cs.length ≤ 4) {x : UInt8} (hx : isLet cs.length x = true) : subT cs x (parX (cs.map toX) x) = true := by
 have hx' := hx
 simp only [isLet, Bool.and_eq_true, decide_eq_true_eq] at hx'
 have r0 : 0 ≤ kl x ∧ kl x ≤ 3 := by unfold kl; omega
 rcases parX_kl hw hn hx with ⟨e1, e2⟩ | ⟨e1, e2, e3⟩
 ·rw [e2]; exact sub45 hw hn x
 ·rw [subT_iff, e3]
  refine Or.inr (Or.inr (Or.inr ⟨by rw [isLet_isC hw hn (let_ok hw hn hx)]; exact hx, by rw [isLet_isC hw hn (let_ok hw hn e2)]; exact e2, ?_⟩))
  exact (U_step hw r0.1 (by omega)).2 (Or.inr (U_refl hw e1))
theorem meetF_spec {cs : List Cls} (hw : WfC cs) (hn : cs.length ≤ 4) {c : UInt8} (hc : okT cs.length c = true) : ∀ {f : Nat} {x : UInt8}, isLet cs.length x = true → kl x < f → f ≤ 5 →
  subT cs x (meetF (cs.map toX) c f x) = true ∧ subT cs c (meetF (cs.map toX) c f x) = true ∧ ∀ d, subT cs x d = true → subT cs c d = true → subT cs (meetF (cs.map toX) c f x) d = true := by
 intro f
 induction f with
 | zero => intro x hx h1 _; simp only [isLet, Bool.and_eq_true, decide_eq_true_eq] at hx; unfold kl at h1; omega
 | succ f ih =>
  intro x hx h1 hf
  rw [meetF, List.length_map, hx, if_neg (by simp), fitsX_subT hw hn hc (let_ok hw hn hx)]
  by_cases hs : subT cs c x = true
  ·rw [if_pos hs]
   exact ⟨subT_refl _, hs, fun d h _ => h⟩
  ·rw [if_neg hs]
   have hup := fun d (h : subT cs x d = true) (h' : subT cs c d = true) => sub_up hw hn (d := d) hx (fun e => hs (by rw [e]; exact h')) h
   rcases parX_kl hw hn hx with ⟨e1, e2⟩ | ⟨e1, e2, e3⟩
   ·have hm : meetF (cs.map toX) c f (parX (cs.map toX) x) = 45 := by
     rw [e2]
     cases f with
     | zero => rfl
     | succ f => rw [meetF, List.length_map, not45_let hw hn]; rfl
    rw [hm]
    refine ⟨sub45 hw hn _, sub45 hw hn _, fun d h h' => ?_⟩
    rcases hup d h h' with h2 | h2
    ·rw [e2] at h2; exact h2
    ·exact subT_iff.2 (Or.inr (Or.inl h2))
   ·have hlt := parOf_lt hw (p := kl x) (by simp only [isLet, Bool.and_eq_true, decide_eq_true_eq] at hx; unfold kl; omega)
    have i1 := ih e2 (by rw [e3]; omega) (by omega)
    refine ⟨subT_trans hw (sub_par hw hn hx) i1.1, i1.2.1, fun d h h' => ?_⟩
    rcases hup d h h' with h2 | h2
    ·exact i1.2.2 d h2 h'
    ·exact subT_iff.2 (Or.inr (Or.inl h2))
theorem meetX_joinT {cs : List Cls} (hw : WfC cs) (hn : cs.length ≤ 4) {a c : UInt8} (ha : okT cs.length a = true) (hc : okT cs.length c = true) : meetX (cs.map toX) a c = joinT cs a c := by
 have hj := joinT_lub hw a c
 suffices h : subT cs a (meetX (cs.map toX) a c) = true ∧ subT cs c (meetX (cs.map toX) a c) = true ∧ ∀ d, subT cs a d = true → subT cs c d = true → subT cs (meetX (cs.map toX) a c) d = true by
  exact subT_anti hw (h.2.2 _ hj.1 hj.2.1) (hj.2.2 _ h.1 h.2.1)
 unfold meetX
 rw [fitsX_subT hw hn ha hc]
 by_cases h1 : subT cs a c = true
 ·rw [if_pos h1]; exact ⟨h1, subT_refl _, fun d _ h => h⟩
 rw [if_neg h1, List.length_map]
 cases hl : isLet cs.length a with
 | true =>
  have hl' := hl
  simp only [isLet, Bool.and_eq_true, decide_eq_true_eq] at hl'
  exact meetF_spec hw hn hc hl (by unfold kl; omega) (by omega)
 | false =>
  have hm : meetF (cs.map toX) c cs.length a = 45 := by
   cases hf : cs.length with
   | zero => rfl
   | succ f => rw [meetF, List.length_map, hl]; rfl
  rw [hm]
  refine ⟨sub45 hw hn _, sub45 hw hn _, fun d h h' => ?_⟩
  have hca : isC a = false := by rw [isLet_isC hw hn ha]; exact hl
  rw [subT_iff] at h h'
  apply subT_iff.2
  right; left
  rcases h with rfl | h | ⟨p1, p2⟩ | ⟨p1, _⟩
  ·rw [okT_iff] at ha
   rcases h' with h' | h' | ⟨q1, _⟩ | ⟨_, q1, _⟩
   ·exact absurd (subT_iff.2 (Or.inl h'.symm)) h1
   ·exact h'
   ·rw [hca] at q1; cases q1
   ·rw [hca] at q1; cases q1
  ·exact h
  ·rcases h' with rfl | h' | ⟨q1, q2⟩ | ⟨q1, _⟩
   ·exact absurd (subT_iff.2 (Or.inr (Or.inr (Or.inl ⟨p1, p2⟩)))) h1
   ·exact h'
   ·exact absurd (subT_iff.2 (Or.inl (UInt8.toNat_inj.1 (by omega)))) h1
   ·exact absurd (subT_iff.2 (Or.inr (Or.inr (Or.inl ⟨q1, p2⟩)))) h1
  ·rw [hca] at p1; cases p1
end Go.Proofs.YtpfkkmacakjmbaaGreatDoor
namespace Go.Proofs.YtpfkkmacakjmbaaGreatDoor
open Go Go.RowKit Sp
set_option linter.unusedSimpArgs false
set_option linter.unusedVariables false
attribute [local go_sem ↓] Go.wp_at_zero Go.wp_at_succ
theorem xtypes_bad (b : Nat) (s : ByteArray) (i : Nat) (v0 v1 : Value) (v2 : RdV) (w : World) (most n : Nat) (e : UInt8) (he : 0 < e.toNat) (hm : most ≤ 10) (hs : s.size ≤ 2000) (hR : XrB w b s i true v0 v1 v2) :
  Calls Tryz.prog 216 #[.pointer (some ⟨b, 0, none⟩), .int .i64 most, .int .i64 n, .int .u8 e.toNat] w fun en w' => But (· = b) w w' ∧ en = .returned (.slice (some ⟨w.heap.size, 0, none⟩) 0 0) ∧ XrB w' b s i true v0 v1 v2 ∧ BtB w' w.heap.size (.slice (some ⟨w.heap.size, 0, none⟩) 0 0) [] := by
 go_enter Tryz.func216, Tryz.ntmps216
 go_wp2_with fail
 have hB0 : But (· = b) w (w.alloc (.cells #[] 5)) := But.alloc _ _ _
 have hR0 : XrB (w.alloc (.cells #[] 5)) b s i true v0 v1 v2 := hR.but (But.alloc (fun _ => False) _ _) (fun h => h)
 have hbw := hR.lt
 have hE := BtB.empty w
 revert hB0 hR0 hE
 generalize (w.alloc (.cells #[] 5)) = W
 intro hB0 hR0 hE
 go_loopg [9] 0 (fun mm vs wr => vs = .slice (some ⟨w.heap.size, 0, none⟩) 0 0 ∧ wr = W)
 case atStart => exact ⟨rfl, rfl⟩
 case round =>
  obtain ⟨rfl, hww⟩ := hrel
  subst hww
  have hfin : ∀ (w1 : World), But (· = b) wr w1 → XrB w1 b s (tkP s e i true).1 (tkP s e i true).2 v0 v1 v2 → But (· = b) w w1 ∧ XrB w1 b s i true v0 v1 v2 ∧ BtB w1 w.heap.size (.slice (some ⟨w.heap.size, 0, none⟩) 0 0) [] := by
   intro w1 h1 h2
   rw [show tkP s e i true = (i, true) from by unfold tkP; rw [if_neg (by simp)]] at h2
   exact ⟨hB0.trans h1, h2, hE.but h1 (fun g hg h => by have := owns_ge hE g hg; omega)⟩
  have HF := hid hfin
  clear hfin
  by_cases hlt : (0 : Int) < (most : Int)
  ·have hbef := xbefore_any b s i true v0 v1 v2 wr e hR0
   rw [show (!true && !decide (pk s i = e)) = false from rfl] at hbef
   have HBF := hid hbef
   clear hbef
   go_wp2_with fail
   refine HBF.out.mono ?_
   rintro en w1 ⟨rfl, m, rfl⟩
   go_wp2_with fail
   refine (xtake_any b s i true v0 v1 v2 _ e he hs (hR0.drewN m)).mono ?_
   rintro en w2 ⟨rfl, hB2, hR2⟩
   go_wp2_with fail
   exact bodyPost_ret (v := .slice (some ⟨w.heap.size, 0, none⟩) 0 0) (by simp [results, Tryz.results216, go_sem]) rfl (have h := HF.out w2 ((But.drewN _ _ _).trans hB2) hR2; ⟨h.1, rfl, h.2⟩)
  ·go_wp2_with fail
   refine (xtake_any b s i true v0 v1 v2 _ e he hs hR0).mono ?_
   rintro en w2 ⟨rfl, hB2, hR2⟩
   go_wp2_with fail
   exact bodyPost_ret (v := .slice (some ⟨w.heap.size, 0, none⟩) 0 0) (by simp [results, Tryz.results216, go_sem]) rfl (have h := HF.out w2 hB2 hR2; ⟨h.1, rfl, h.2⟩)
def suitsX (cs : List XCls) (a c : UInt8) : Bool := if c.toNat = 38 then (decide (a.toNat = 122) || isLet cs.length a) else fitsX cs a c
theorem xsuits_any (b : Nat) (cs : List XCls) (a c : UInt8) (w : World) (hn : cs.length ≤ 100) (hT : TxC w b cs) :
  Calls Tryz.prog 204 #[.pointer (some ⟨b, 0, none⟩), .int .u8 a.toNat, .int .u8 c.toNat] w fun e w' => e = .returned (.bool (suitsX cs a c)) ∧ w' = w := by
 by_cases h1 : c.toNat = 38
 ·have e1 : ((c.toNat : Int) == 38) = true := by rw [beq_iff_eq]; omega
  by_cases h2 : a.toNat = 122
  ·have e2 : ((a.toNat : Int) == 122) = true := by rw [beq_iff_eq]; omega
   rw [show suitsX cs a c = true from by unfold suitsX; rw [if_pos h1]; simp [h2]]
   clear h1 h2
   go_enter Tryz.func204, Tryz.ntmps204
   go_wp2_with fail
   go_ret
   exact ⟨rfl, rfl⟩
  ·have e2 : ((a.toNat : Int) == 122) = false := by rw [beq_eq_false_iff_ne]; omega
   rw [show suitsX cs a c = isLet cs.length a from by unfold suitsX; rw [if_pos h1]; simp [h2]]
   clear h1 h2
   go_enter Tryz.func204, Tryz.ntmps204
   go_wp2_with fail
   refine (xisClass_any b cs a w hn hT).mono ?_
   rintro en w1 ⟨rfl, rfl⟩
   go_wp2_with fail
   go_ret
   exact ⟨rfl, rfl⟩
 ·have e1 : ((c.toNat : Int) == 38) = false := by rw [beq_eq_false_iff_ne]; omega
  rw [show suitsX cs a c = fitsX cs a c from by unfold suitsX; rw [if_neg h1]]
  clear h1
  go_enter Tryz.func204, Tryz.ntmps204
  go_wp2_with fail
  refine (xfits_any b cs a c w hn hT).mono ?_
  rintro en w1 ⟨rfl, rfl⟩
  go_wp2_with fail
  go_ret
  exact ⟨rfl, rfl⟩
def WtB (w : World) (g : Nat) (l : List Bool) : Prop := w.heap[g]? = some (.cells (l.map Value.bool).toArray 4)
theorem WtB.cell {w : World} {g : Nat} {l : List Bool} (h : WtB w g l) {k : Nat} (hk : k < l.length) : w.cell? ⟨g, k, none⟩ = some (.bool (l.getD k false)) := by
 rw [cell_of_row w g k _ _ (0, 0) h]
 simp [List.getD, hk]
def TxM (w : World) (b : Nat) (ms : List Sig) : Prop :=
 ∃ v1, w.cell? ⟨b, 1, none⟩ = some v1 ∧ b < w.heap.size ∧ w.ownsRow 0 243 2 v1 ms.length (sigCells ms)
theorem TxM.but {w w' : World} {b : Nat} {ms : List Sig} (h : TxM w b ms) (hb : But (fun _ => False) w w') : TxM w' b ms := by
 obtain ⟨v1, h0, hl, hO⟩ := h
 exact ⟨v1, (hb.cell (p := ⟨b, 1, none⟩) hl (fun h => h)).trans h0, Nat.lt_of_lt_of_le hl hb.size, owns_but hO hb (fun _ _ h => h)⟩
def methX (ms : List Sig) (k : Nat) : Sig := (ms[k]?).getD ⟨45, 45⟩
theorem xmethodAt_any (b : Nat) (ms : List Sig) (k : Nat) (w : World) (hn : ms.length ≤ 100) (hT : TxM w b ms) :
  Calls Tryz.prog 191 #[.pointer (some ⟨b, 0, none⟩), .int .i64 k] w fun e w' => e = .returned (.agg #[.int .u8 (methX ms k).arg.toNat, .int .u8 (methX ms k).ret.toNat]) ∧ But (fun _ => False) w w' := by
 obtain ⟨v1, h0, hl, hO⟩ := hT
 obtain ⟨ao, cap, rfl⟩ := owns_len hO
 have hk0 : ¬ (k : Int) < 0 := by omega
 by_cases hk : k < ms.length
 ·have hx := List.getElem?_eq_getElem hk
  rw [show methX ms k = ms[k] from by unfold methX; rw [hx]; rfl]
  obtain ⟨g, rfl, hg1, hg2, hcell⟩ := owns_two hO (by omega)
  have q0 : w.cell? ⟨g, k * 2, none⟩ = some (.int .u8 ms[k].arg.toNat) := hcell _ _ (sigCells_at (k := 0) hx (by omega))
  have q1 : w.cell? ⟨g, k * 2 + 1, none⟩ = some (.int .u8 ms[k].ret.toNat) := hcell _ _ (sigCells_at (k := 1) hx (by omega))
  have hkn : ¬ (ms.length : Int) ≤ (k : Int) := by omega
  have hkl : (k : Int) < (ms.length : Int) := by omega
  revert q0 q1
  generalize ms[k] = X
  intro q0 q1
  clear hcell hx hO
  go_enter Tryz.func191, Tryz.ntmps191
  go_wp2
  exact bodyPost_ret (v := .agg #[.int .u8 X.arg.toNat, .int .u8 X.ret.toNat]) (by simp [results, Tryz.results191, go_sem]) rfl ⟨rfl, But.alloc _ _ _⟩
 ·rw [show methX ms k = ⟨45, 45⟩ from by unfold methX; rw [List.getElem?_eq_none (by omega)]; rfl]
  have hkn : (ms.length : Int) ≤ (k : Int) := by omega
  clear hO
  go_enter Tryz.func191, Tryz.ntmps191
  go_wp2
  exact bodyPost_ret (v := .agg #[.int .u8 45, .int .u8 45]) (by simp [results, Tryz.results191, go_sem]) rfl ⟨rfl, But.alloc _ _ _⟩
end Go.Proofs.YtpfkkmacakjmbaaGreatDoor
namespace Go.Proofs.YtpfkkmacakjmbaaGreatDoor
open Go Go.RowKit Sp
theorem field_ret (w : World) (x y : Int) : (Instr.field 243 (.agg #[.int .u8 x, .int .u8 y]) 1).run Tryz.prog w = .ok (.int .u8 y) w := by
 simp [Instr.field, asAgg]
 go_simp
end Go.Proofs.YtpfkkmacakjmbaaGreatDoor
namespace Go.Proofs.YtpfkkmacakjmbaaGreatDoor
open Go Go.RowKit Sp
set_option linter.unusedSimpArgs false
set_option linter.unusedVariables false
attribute [local go_sem ↓] Go.wp_at_zero Go.wp_at_succ
def laysX (cs : List XCls) (ms : List Sig) (c k : UInt8) (n : Nat) (lo : List UInt8) : UInt8 :=
 if c.toNat = 107 ∨ c.toNat = 114 ∨ c.toNat = 43 ∨ c.toNat = 45 ∨ c.toNat = 42 ∨ c.toNat = 47 ∨ c.toNat = 60 ∨ c.toNat = 61 ∨ c.toNat = 101 then 105 else
 if c.toNat = 108 then tatX lo n else if c.toNat = 110 ∨ c.toNat = 120 then k else if c.toNat = 122 then 122 else
 if c.toNat = 103 then tatX (fldsX cs k) n else if c.toNat = 99 then (methX ms n).ret else 0
theorem xlays_any (b : Nat) (cs : List XCls) (ms : List Sig) (p n : Nat) (c k : UInt8) (ao : Option Addr) (cap : Nat) (lo : List UInt8) (w : World) {ap : Option Addr} {np cp : Nat} (hn : cs.length ≤ 100) (hm : ms.length ≤ 100) (hT : TxC w b cs) (hM : TxM w b ms) (hB : BtB w 0 (.slice ao lo.length cap) lo) :
  Calls Tryz.prog 198 #[.pointer (some ⟨b, 0, none⟩), .agg #[.int .i64 p, .int .u8 c.toNat, .int .u8 k.toNat, .int .i64 n, .slice ap np cp], .slice ao lo.length cap] w fun e w' => e = .returned (.int .u8 (laysX cs ms c k n lo).toNat) ∧ But (fun _ => False) w w' := by
 by_cases h107 : c.toNat = 107
 ·have hc : c = 107 := UInt8.toNat_inj.1 h107
  subst hc
  rw [show laysX cs ms 107 k n lo = 105 from by simp [laysX]]
  go_enter Tryz.func198, Tryz.ntmps198
  go_wp2_with fail
  go_ret
  exact ⟨rfl, But.alloc _ _ _⟩
 by_cases h114 : c.toNat = 114
 ·have hc : c = 114 := UInt8.toNat_inj.1 h114
  subst hc
  rw [show laysX cs ms 114 k n lo = 105 from by simp [laysX]]
  go_enter Tryz.func198, Tryz.ntmps198
  go_wp2_with fail
  go_ret
  exact ⟨rfl, But.alloc _ _ _⟩
 by_cases h43 : c.toNat = 43
 ·have hc : c = 43 := UInt8.toNat_inj.1 h43
  subst hc
  rw [show laysX cs ms 43 k n lo = 105 from by simp [laysX]]
  go_enter Tryz.func198, Tryz.ntmps198
  go_wp2_with fail
  go_ret
  exact ⟨rfl, But.alloc _ _ _⟩
 by_cases h45 : c.toNat = 45
 ·have hc : c = 45 := UInt8.toNat_inj.1 h45
  subst hc
  rw [show laysX cs ms 45 k n lo = 105 from by simp [laysX]]
  go_enter Tryz.func198, Tryz.ntmps198
  go_wp2_with fail
  go_ret
  exact ⟨rfl, But.alloc _ _ _⟩
 by_cases h42 : c.toNat = 42
 ·have hc : c = 42 := UInt8.toNat_inj.1 h42
  subst hc
  rw [show laysX cs ms 42 k n lo = 105 from by simp [laysX]]
  go_enter Tryz.func198, Tryz.ntmps198
  go_wp2_with fail
  go_ret
  exact ⟨rfl, But.alloc _ _ _⟩
 by_cases h47 : c.toNat = 47
 ·have hc : c = 47 := UInt8.toNat_inj.1 h47
  subst hc
  rw [show laysX cs ms 47 k n lo = 105 from by simp [laysX]]
  go_enter Tryz.func198, Tryz.ntmps198
  go_wp2_with fail
  go_ret
  exact ⟨rfl, But.alloc _ _ _⟩
 by_cases h60 : c.toNat = 60
 ·have hc : c = 60 := UInt8.toNat_inj.1 h60
  subst hc
  rw [show laysX cs ms 60 k n lo = 105 from by simp [laysX]]
  go_enter Tryz.func198, Tryz.ntmps198
  go_wp2_with fail
  go_ret
  exact ⟨rfl, But.alloc _ _ _⟩
 by_cases h61 : c.toNat = 61
 ·have hc : c = 61 := UInt8.toNat_inj.1 h61
  subst hc
  rw [show laysX cs ms 61 k n lo = 105 from by simp [laysX]]
  go_enter Tryz.func198, Tryz.ntmps198
  go_wp2_with fail
  go_ret
  exact ⟨rfl, But.alloc _ _ _⟩
 by_cases h101 : c.toNat = 101
 ·have hc : c = 101 := UInt8.toNat_inj.1 h101
  subst hc
  rw [show laysX cs ms 101 k n lo = 105 from by simp [laysX]]
  go_enter Tryz.func198, Tryz.ntmps198
  go_wp2_with fail
  go_ret
  exact ⟨rfl, But.alloc _ _ _⟩
 by_cases h108 : c.toNat = 108
 ·have hc : c = 108 := UInt8.toNat_inj.1 h108
  subst hc
  rw [show laysX cs ms 108 k n lo = tatX lo n from by simp [laysX]]
  have HT := hid (fun (wx : World) (h : But (fun _ => False) w wx) => xtypeAt_any ao cap lo n wx (hB.but h (fun _ _ h => h)))
  go_enter Tryz.func198, Tryz.ntmps198
  go_wp2_with fail
  refine (HT.out _ (But.alloc _ _ _)).mono ?_
  rintro en w1 ⟨rfl, rfl⟩
  go_wp2_with fail
  go_ret
  exact ⟨rfl, But.alloc _ _ _⟩
 by_cases h110 : c.toNat = 110
 ·have hc : c = 110 := UInt8.toNat_inj.1 h110
  subst hc
  rw [show laysX cs ms 110 k n lo = k from by simp [laysX]]
  go_enter Tryz.func198, Tryz.ntmps198
  go_wp2_with fail
  go_ret
  exact ⟨rfl, But.alloc _ _ _⟩
 by_cases h120 : c.toNat = 120
 ·have hc : c = 120 := UInt8.toNat_inj.1 h120
  subst hc
  rw [show laysX cs ms 120 k n lo = k from by simp [laysX]]
  go_enter Tryz.func198, Tryz.ntmps198
  go_wp2_with fail
  go_ret
  exact ⟨rfl, But.alloc _ _ _⟩
 by_cases h122 : c.toNat = 122
 ·have hc : c = 122 := UInt8.toNat_inj.1 h122
  subst hc
  rw [show laysX cs ms 122 k n lo = 122 from by simp [laysX]]
  go_enter Tryz.func198, Tryz.ntmps198
  go_wp2_with fail
  go_ret
  exact ⟨rfl, But.alloc _ _ _⟩
 by_cases h103 : c.toNat = 103
 ·have hc : c = 103 := UInt8.toNat_inj.1 h103
  subst hc
  rw [show laysX cs ms 103 k n lo = tatX (fldsX cs k) n from by simp [laysX]]
  have HT := hid (fun (wx : World) (h : But (fun _ => False) w wx) => xft_any b cs k n wx hn (hT.but h))
  go_enter Tryz.func198, Tryz.ntmps198
  go_wp2_with fail
  refine (HT.out _ (But.alloc _ _ _)).mono ?_
  rintro en w1 ⟨rfl, rfl⟩
  go_wp2_with fail
  go_ret
  exact ⟨rfl, But.alloc _ _ _⟩
 by_cases h99 : c.toNat = 99
 ·have hc : c = 99 := UInt8.toNat_inj.1 h99
  subst hc
  rw [show laysX cs ms 99 k n lo = (methX ms n).ret from by simp [laysX]]
  have HT := hid (fun (wx : World) (h : But (fun _ => False) w wx) => xmethodAt_any b ms n wx hm (hM.but h))
  go_enter Tryz.func198, Tryz.ntmps198
  go_wp2_with fail
  refine (HT.out _ (But.alloc _ _ _)).mono ?_
  rintro en w1 ⟨rfl, hB1⟩
  have hfr := fun wx => field_ret wx ((methX ms n).arg.toNat : Int) ((methX ms n).ret.toNat : Int)
  go_wp2_with fail
  go_ret
  exact ⟨rfl, (But.alloc _ _ _).trans hB1⟩
 rw [show laysX cs ms c k n lo = 0 from by simp [laysX, h107, h114, h43, h45, h42, h47, h60, h61, h101, h108, h110, h120, h122, h103, h99]]
 have e107 : ((c.toNat : Int) == 107) = false := by rw [beq_eq_false_iff_ne]; omega
 have e114 : ((c.toNat : Int) == 114) = false := by rw [beq_eq_false_iff_ne]; omega
 have e43 : ((c.toNat : Int) == 43) = false := by rw [beq_eq_false_iff_ne]; omega
 have e45 : ((c.toNat : Int) == 45) = false := by rw [beq_eq_false_iff_ne]; omega
 have e42 : ((c.toNat : Int) == 42) = false := by rw [beq_eq_false_iff_ne]; omega
 have e47 : ((c.toNat : Int) == 47) = false := by rw [beq_eq_false_iff_ne]; omega
 have e60 : ((c.toNat : Int) == 60) = false := by rw [beq_eq_false_iff_ne]; omega
 have e61 : ((c.toNat : Int) == 61) = false := by rw [beq_eq_false_iff_ne]; omega
 have e101 : ((c.toNat : Int) == 101) = false := by rw [beq_eq_false_iff_ne]; omega
 have e108 : ((c.toNat : Int) == 108) = false := by rw [beq_eq_false_iff_ne]; omega
 have e110 : ((c.toNat : Int) == 110) = false := by rw [beq_eq_false_iff_ne]; omega
 have e120 : ((c.toNat : Int) == 120) = false := by rw [beq_eq_false_iff_ne]; omega
 have e122 : ((c.toNat : Int) == 122) = false := by rw [beq_eq_false_iff_ne]; omega
 have e103 : ((c.toNat : Int) == 103) = false := by rw [beq_eq_false_iff_ne]; omega
 have e99 : ((c.toNat : Int) == 99) = false := by rw [beq_eq_false_iff_ne]; omega
 clear h107 h114 h43 h45 h42 h47 h60 h61 h101 h108 h110 h120 h122 h103 h99
 go_enter Tryz.func198, Tryz.ntmps198
 go_wp2_with fail
 go_ret
 exact ⟨rfl, But.alloc _ _ _⟩
theorem BtB.lit (W : World) (base : Nat) (hb : base ≤ W.heap.size) (l : List UInt8) (hl : l.length ≤ 100) : BtB (W.alloc (.cells (btCells l).toArray 5)) base (.slice (some ⟨W.heap.size, 0, none⟩) l.length l.length) l :=
 ⟨by simp [btCells], Or.inr ⟨W.heap.size, l.length, _, rfl, hb, heap_alloc_new _ _, Nat.le_refl _, by unfold maxLen; omega, by simp [btCells], by simp only [Nat.mul_one]; exact List.take_of_length_le (by simp [btCells])⟩⟩
theorem BtB.lit2 (w : World) (o : Obj) (l : List UInt8) (hl : l.length ≤ 100) : BtB ((w.alloc o).alloc (.cells (btCells l).toArray 5)) w.heap.size (.slice (some ⟨w.heap.size + 1, 0, none⟩) l.length l.length) l := by
 have h := BtB.lit (w.alloc o) w.heap.size (But.alloc (fun _ => False) w o).size l hl
 have hs : (w.alloc o).heap.size = w.heap.size + 1 := Array.size_push _
 rw [hs] at h
 exact h
def takesX (cs : List XCls) (ms : List Sig) (c k : UInt8) (n : Nat) (ans : UInt8) : List UInt8 :=
 if c.toNat = 119 ∨ c.toNat = 102 then [105] else if c.toNat = 115 ∨ c.toNat = 100 then [45] else
 if c.toNat = 43 ∨ c.toNat = 45 ∨ c.toNat = 42 ∨ c.toNat = 47 ∨ c.toNat = 60 ∨ c.toNat = 61 then [105, 105] else
 if c.toNat = 101 then [38, 38] else if c.toNat = 103 then [k] else if c.toNat = 112 then [k, tatX (fldsX cs k) n] else
 if c.toNat = 99 then [k, (methX ms n).arg] else if c.toNat = 120 then [38] else if c.toNat = 116 then [ans] else []
theorem xtakes_plain (b : Nat) (cs : List XCls) (ms : List Sig) (p n : Nat) (c k ans : UInt8) (w : World) {ap : Option Addr} {np cp : Nat} (h112 : c.toNat ≠ 112) (h99 : c.toNat ≠ 99) :
  Calls Tryz.prog 140 #[.pointer (some ⟨b, 0, none⟩), .agg #[.int .i64 p, .int .u8 c.toNat, .int .u8 k.toNat, .int .i64 n, .slice ap np cp], .int .u8 ans.toNat] w fun e w' => But (fun _ => False) w w' ∧ ∃ v, e = .returned v ∧ BtB w' w.heap.size v (takesX cs ms c k n ans) := by
 by_cases h119 : c.toNat = 119
 ·have hc : c = 119 := UInt8.toNat_inj.1 h119
  subst hc
  rw [show takesX cs ms 119 k n ans = [105] from by simp [takesX]]
  clear h112 h99
  go_enter Tryz.func140, Tryz.ntmps140
  go_wp2_with fail
  exact bodyPost_ret (v := .slice (some ⟨w.heap.size + 1, 0, none⟩) 1 1) (by simp [results, Tryz.results140, go_sem]) rfl ⟨(But.alloc _ _ _).trans (But.alloc _ _ _), _, rfl, BtB.lit2 w _ [105] (by simp)⟩
 by_cases h102 : c.toNat = 102
 ·have hc : c = 102 := UInt8.toNat_inj.1 h102
  subst hc
  rw [show takesX cs ms 102 k n ans = [105] from by simp [takesX]]
  clear h112 h99
  go_enter Tryz.func140, Tryz.ntmps140
  go_wp2_with fail
  exact bodyPost_ret (v := .slice (some ⟨w.heap.size + 1, 0, none⟩) 1 1) (by simp [results, Tryz.results140, go_sem]) rfl ⟨(But.alloc _ _ _).trans (But.alloc _ _ _), _, rfl, BtB.lit2 w _ [105] (by simp)⟩
 by_cases h115 : c.toNat = 115
 ·have hc : c = 115 := UInt8.toNat_inj.1 h115
  subst hc
  rw [show takesX cs ms 115 k n ans = [45] from by simp [takesX]]
  clear h112 h99
  go_enter Tryz.func140, Tryz.ntmps140
  go_wp2_with fail
  exact bodyPost_ret (v := .slice (some ⟨w.heap.size + 1, 0, none⟩) 1 1) (by simp [results, Tryz.results140, go_sem]) rfl ⟨(But.alloc _ _ _).trans (But.alloc _ _ _), _, rfl, BtB.lit2 w _ [45] (by simp)⟩
 by_cases h100 : c.toNat = 100
 ·have hc : c = 100 := UInt8.toNat_inj.1 h100
  subst hc
  rw [show takesX cs ms 100 k n ans = [45] from by simp [takesX]]
  clear h112 h99
  go_enter Tryz.func140, Tryz.ntmps140
  go_wp2_with fail
  exact bodyPost_ret (v := .slice (some ⟨w.heap.size + 1, 0, none⟩) 1 1) (by simp [results, Tryz.results140, go_sem]) rfl ⟨(But.alloc _ _ _).trans (But.alloc _ _ _), _, rfl, BtB.lit2 w _ [45] (by simp)⟩
 by_cases h101 : c.toNat = 101
 ·have hc : c = 101 := UInt8.toNat_inj.1 h101
  subst hc
  rw [show takesX cs ms 101 k n ans = [38, 38] from by simp [takesX]]
  clear h112 h99
  go_enter Tryz.func140, Tryz.ntmps140
  go_wp2_with fail
  exact bodyPost_ret (v := .slice (some ⟨w.heap.size + 1, 0, none⟩) 2 2) (by simp [results, Tryz.results140, go_sem]) rfl ⟨(But.alloc _ _ _).trans (But.alloc _ _ _), _, rfl, BtB.lit2 w _ [38, 38] (by simp)⟩
 by_cases h103 : c.toNat = 103
 ·have hc : c = 103 := UInt8.toNat_inj.1 h103
  subst hc
  rw [show takesX cs ms 103 k n ans = [k] from by simp [takesX]]
  clear h112 h99
  go_enter Tryz.func140, Tryz.ntmps140
  go_wp2_with fail
  exact bodyPost_ret (v := .slice (some ⟨w.heap.size + 1, 0, none⟩) 1 1) (by simp [results, Tryz.results140, go_sem]) rfl ⟨(But.alloc _ _ _).trans (But.alloc _ _ _), _, rfl, BtB.lit2 w _ [k] (by simp)⟩
 by_cases h120 : c.toNat = 120
 ·have hc : c = 120 := UInt8.toNat_inj.1 h120
  subst hc
  rw [show takesX cs ms 120 k n ans = [38] from by simp [takesX]]
  clear h112 h99
  go_enter Tryz.func140, Tryz.ntmps140
  go_wp2_with fail
  exact bodyPost_ret (v := .slice (some ⟨w.heap.size + 1, 0, none⟩) 1 1) (by simp [results, Tryz.results140, go_sem]) rfl ⟨(But.alloc _ _ _).trans (But.alloc _ _ _), _, rfl, BtB.lit2 w _ [38] (by simp)⟩
 by_cases h116 : c.toNat = 116
 ·have hc : c = 116 := UInt8.toNat_inj.1 h116
  subst hc
  rw [show takesX cs ms 116 k n ans = [ans] from by simp [takesX]]
  clear h112 h99
  go_enter Tryz.func140, Tryz.ntmps140
  go_wp2_with fail
  exact bodyPost_ret (v := .slice (some ⟨w.heap.size + 1, 0, none⟩) 1 1) (by simp [results, Tryz.results140, go_sem]) rfl ⟨(But.alloc _ _ _).trans (But.alloc _ _ _), _, rfl, BtB.lit2 w _ [ans] (by simp)⟩
 by_cases h43 : c.toNat = 43
 ·have hc : c = 43 := UInt8.toNat_inj.1 h43
  subst hc
  rw [show takesX cs ms 43 k n ans = [105, 105] from by simp [takesX]]
  clear h112 h99
  go_enter Tryz.func140, Tryz.ntmps140
  go_wp2_with fail
  exact bodyPost_ret (v := .slice (some ⟨w.heap.size + 1, 0, none⟩) 2 2) (by simp [results, Tryz.results140, go_sem]) rfl ⟨(But.alloc _ _ _).trans (But.alloc _ _ _), _, rfl, BtB.lit2 w _ [105, 105] (by simp)⟩
 by_cases h45 : c.toNat = 45
 ·have hc : c = 45 := UInt8.toNat_inj.1 h45
  subst hc
  rw [show takesX cs ms 45 k n ans = [105, 105] from by simp [takesX]]
  clear h112 h99
  go_enter Tryz.func140, Tryz.ntmps140
  go_wp2_with fail
  exact bodyPost_ret (v := .slice (some ⟨w.heap.size + 1, 0, none⟩) 2 2) (by simp [results, Tryz.results140, go_sem]) rfl ⟨(But.alloc _ _ _).trans (But.alloc _ _ _), _, rfl, BtB.lit2 w _ [105, 105] (by simp)⟩
 by_cases h42 : c.toNat = 42
 ·have hc : c = 42 := UInt8.toNat_inj.1 h42
  subst hc
  rw [show takesX cs ms 42 k n ans = [105, 105] from by simp [takesX]]
  clear h112 h99
  go_enter Tryz.func140, Tryz.ntmps140
  go_wp2_with fail
  exact bodyPost_ret (v := .slice (some ⟨w.heap.size + 1, 0, none⟩) 2 2) (by simp [results, Tryz.results140, go_sem]) rfl ⟨(But.alloc _ _ _).trans (But.alloc _ _ _), _, rfl, BtB.lit2 w _ [105, 105] (by simp)⟩
 by_cases h47 : c.toNat = 47
 ·have hc : c = 47 := UInt8.toNat_inj.1 h47
  subst hc
  rw [show takesX cs ms 47 k n ans = [105, 105] from by simp [takesX]]
  clear h112 h99
  go_enter Tryz.func140, Tryz.ntmps140
  go_wp2_with fail
  exact bodyPost_ret (v := .slice (some ⟨w.heap.size + 1, 0, none⟩) 2 2) (by simp [results, Tryz.results140, go_sem]) rfl ⟨(But.alloc _ _ _).trans (But.alloc _ _ _), _, rfl, BtB.lit2 w _ [105, 105] (by simp)⟩
 by_cases h60 : c.toNat = 60
 ·have hc : c = 60 := UInt8.toNat_inj.1 h60
  subst hc
  rw [show takesX cs ms 60 k n ans = [105, 105] from by simp [takesX]]
  clear h112 h99
  go_enter Tryz.func140, Tryz.ntmps140
  go_wp2_with fail
  exact bodyPost_ret (v := .slice (some ⟨w.heap.size + 1, 0, none⟩) 2 2) (by simp [results, Tryz.results140, go_sem]) rfl ⟨(But.alloc _ _ _).trans (But.alloc _ _ _), _, rfl, BtB.lit2 w _ [105, 105] (by simp)⟩
 by_cases h61 : c.toNat = 61
 ·have hc : c = 61 := UInt8.toNat_inj.1 h61
  subst hc
  rw [show takesX cs ms 61 k n ans = [105, 105] from by simp [takesX]]
  clear h112 h99
  go_enter Tryz.func140, Tryz.ntmps140
  go_wp2_with fail
  exact bodyPost_ret (v := .slice (some ⟨w.heap.size + 1, 0, none⟩) 2 2) (by simp [results, Tryz.results140, go_sem]) rfl ⟨(But.alloc _ _ _).trans (But.alloc _ _ _), _, rfl, BtB.lit2 w _ [105, 105] (by simp)⟩
 rw [show takesX cs ms c k n ans = [] from by simp [takesX, h119, h102, h115, h100, h101, h103, h120, h116, h43, h45, h42, h47, h60, h61, h112, h99]]
 have e119 : ((c.toNat : Int) == 119) = false := by rw [beq_eq_false_iff_ne]; omega
 have e102 : ((c.toNat : Int) == 102) = false := by rw [beq_eq_false_iff_ne]; omega
 have e115 : ((c.toNat : Int) == 115) = false := by rw [beq_eq_false_iff_ne]; omega
 have e100 : ((c.toNat : Int) == 100) = false := by rw [beq_eq_false_iff_ne]; omega
 have e101 : ((c.toNat : Int) == 101) = false := by rw [beq_eq_false_iff_ne]; omega
 have e103 : ((c.toNat : Int) == 103) = false := by rw [beq_eq_false_iff_ne]; omega
 have e120 : ((c.toNat : Int) == 120) = false := by rw [beq_eq_false_iff_ne]; omega
 have e116 : ((c.toNat : Int) == 116) = false := by rw [beq_eq_false_iff_ne]; omega
 have e43 : ((c.toNat : Int) == 43) = false := by rw [beq_eq_false_iff_ne]; omega
 have e45 : ((c.toNat : Int) == 45) = false := by rw [beq_eq_false_iff_ne]; omega
 have e42 : ((c.toNat : Int) == 42) = false := by rw [beq_eq_false_iff_ne]; omega
 have e47 : ((c.toNat : Int) == 47) = false := by rw [beq_eq_false_iff_ne]; omega
 have e60 : ((c.toNat : Int) == 60) = false := by rw [beq_eq_false_iff_ne]; omega
 have e61 : ((c.toNat : Int) == 61) = false := by rw [beq_eq_false_iff_ne]; omega
 have e112 : ((c.toNat : Int) == 112) = false := by rw [beq_eq_false_iff_ne]; omega
 have e99 : ((c.toNat : Int) == 99) = false := by rw [beq_eq_false_iff_ne]; omega
 clear h119 h102 h115 h100 h101 h103 h120 h116 h43 h45 h42 h47 h60 h61 h112 h99
 go_enter Tryz.func140, Tryz.ntmps140
 go_wp2_with fail
 exact bodyPost_ret (v := .slice (some ⟨w.heap.size + 1, 0, none⟩) 0 0) (by simp [results, Tryz.results140, go_sem]) rfl ⟨(But.alloc _ _ _).trans (But.alloc _ _ _), _, rfl, BtB.lit2 w _ [] (by simp)⟩
end Go.Proofs.YtpfkkmacakjmbaaGreatDoor
