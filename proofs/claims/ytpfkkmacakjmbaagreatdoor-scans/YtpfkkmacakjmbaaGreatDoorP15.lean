import Derived.Test.YtpfkkmacakjmbaaGreatDoorP14
set_option maxRecDepth 100000
set_option maxHeartbeats 6400000
namespace Go.Proofs.YtpfkkmacakjmbaaGreatDoor
open Go Go.RowKit Sp
set_option linter.unusedSimpArgs false
set_option linter.unusedVariables false
attribute [local go_sem ↓] Go.wp_at_zero Go.wp_at_succ
structure XCls where
 par : UInt8
 fields : List UInt8
def xcCells (l : List (XCls × Value)) : List Value := l.flatMap fun x => [.int .u8 x.1.par.toNat, x.2]
theorem xcCells_at {l : List (XCls × Value)} {j k : Nat} {x : XCls × Value} (h : l[j]? = some x) (hk : k < 2) : (xcCells l)[j * 2 + k]? = [Value.int .u8 x.1.par.toNat, x.2][k]? :=
 flat_at (fun x : XCls × Value => [Value.int .u8 x.1.par.toNat, x.2]) 2 (fun _ => rfl) l j k x h hk
theorem xcCells_at0 {l : List (XCls × Value)} {j : Nat} {x : XCls × Value} (h : l[j]? = some x) : (xcCells l)[j * 2]? = some (.int .u8 x.1.par.toNat) := xcCells_at (k := 0) h (by omega)
theorem xcCells_at1 {l : List (XCls × Value)} {j : Nat} {x : XCls × Value} (h : l[j]? = some x) : (xcCells l)[j * 2 + 1]? = some x.2 := xcCells_at (k := 1) h (by omega)
def TxC (w : World) (b : Nat) (cs : List XCls) : Prop :=
 ∃ v0 l, w.cell? ⟨b, 0, none⟩ = some v0 ∧ b < w.heap.size ∧ w.ownsRow 0 240 2 v0 l.length (xcCells l) ∧ l.map (·.1) = cs ∧ ∀ x ∈ l, BtB w 0 x.2 x.1.fields
theorem TxC.but {w w' : World} {b : Nat} {cs : List XCls} (h : TxC w b cs) (hb : But (fun _ => False) w w') : TxC w' b cs := by
 obtain ⟨v0, l, h0, hl, hO, hm, hf⟩ := h
 exact ⟨v0, l, (hb.cell (p := ⟨b, 0, none⟩) hl (fun h => h)).trans h0, Nat.lt_of_lt_of_le hl hb.size, owns_but hO hb (fun _ _ h => h), hm, fun x hx => (hf x hx).but hb (fun _ _ h => h)⟩
def cixX (n : Nat) (c : UInt8) : Int := if isLet n c = true then (c.toNat : Int) - 65 else -1
theorem xcix_any (b : Nat) (cs : List XCls) (c : UInt8) (w : World) (hn : cs.length ≤ 100) (hT : TxC w b cs) :
  Calls Tryz.prog 209 #[.pointer (some ⟨b, 0, none⟩), .int .u8 c.toNat] w fun e w' => e = .returned (.int .i64 (cixX cs.length c)) ∧ w' = w := by
 obtain ⟨v0, l, h0, hl, hO, hm, hf⟩ := hT
 obtain ⟨ao, cap, rfl⟩ := owns_len hO
 have hln : l.length = cs.length := by rw [← hm]; simp
 rw [hln] at h0
 have c255 : c.toNat < 256 := c.toNat_lt
 obtain ⟨R, hR⟩ : ∃ R, cixX cs.length c = R := ⟨_, rfl⟩
 rw [hR]
 unfold cixX at hR
 generalize cs.length = n at *
 clear hm hf hO hln
 by_cases a1 : (c.toNat : Int) < 65
 ·rw [if_neg (by simp [isLet]; omega)] at hR
  subst hR
  go_enter Tryz.func209, Tryz.ntmps209
  go_wp2
  go_ret
  exact ⟨rfl, rfl⟩
 ·have hsub : IntKind.u8.wrap ((c.toNat : Int) - 65) = ((c.toNat - 65 : Nat) : Int) := by
   rw [IntWalk.u8_in _ (by omega)]; omega
  by_cases a2 : (n : Int) ≤ ((c.toNat - 65 : Nat) : Int)
  ·rw [if_neg (by simp [isLet]; omega)] at hR
   subst hR
   go_enter Tryz.func209, Tryz.ntmps209
   go_wp2
   go_ret
   exact ⟨rfl, rfl⟩
  ·rw [if_pos (by simp [isLet]; omega)] at hR
   have hR' : ((c.toNat - 65 : Nat) : Int) = R := by omega
   subst hR'
   clear hR
   go_enter Tryz.func209, Tryz.ntmps209
   go_wp2
   go_ret
   exact ⟨rfl, rfl⟩
theorem cixX_cases (n : Nat) (c : UInt8) : (isLet n c = false ∧ cixX n c = -1) ∨ (isLet n c = true ∧ ∃ k : Nat, k < n ∧ cixX n c = k ∧ c.toNat = 65 + k) := by
 cases h : isLet n c with
 | false => exact Or.inl ⟨rfl, by unfold cixX; rw [h]; rfl⟩
 | true =>
  right
  refine ⟨rfl, c.toNat - 65, ?_⟩
  have h' := h
  simp only [isLet, Bool.and_eq_true, decide_eq_true_eq] at h'
  unfold cixX
  rw [h]
  refine ⟨by omega, ?_, by omega⟩
  simp
  omega
theorem xisClass_any (b : Nat) (cs : List XCls) (c : UInt8) (w : World) (hn : cs.length ≤ 100) (hT : TxC w b cs) :
  Calls Tryz.prog 206 #[.pointer (some ⟨b, 0, none⟩), .int .u8 c.toNat] w fun e w' => e = .returned (.bool (isLet cs.length c)) ∧ w' = w := by
 have hc := xcix_any b cs c w hn hT
 rcases cixX_cases cs.length c with ⟨h1, h2⟩ | ⟨h1, k, hk, h2, h3⟩
 ·rw [h2] at hc
  rw [h1]
  have HC := hid hc
  clear hc h1 h2
  go_enter Tryz.func206, Tryz.ntmps206
  go_wp2_with fail
  refine HC.out.mono ?_
  rintro en w1 ⟨rfl, rfl⟩
  go_wp2_with fail
  go_ret
  exact ⟨rfl, rfl⟩
 ·rw [h2] at hc
  rw [h1]
  have HC := hid hc
  have hk0 : (0 : Int) ≤ (k : Int) := by omega
  clear hc h1 h2 h3
  go_enter Tryz.func206, Tryz.ntmps206
  go_wp2_with fail
  refine HC.out.mono ?_
  rintro en w1 ⟨rfl, rfl⟩
  go_wp2_with fail
  go_ret
  exact ⟨rfl, rfl⟩
def parX (cs : List XCls) (c : UInt8) : UInt8 := if isLet cs.length c = true then (cs[c.toNat - 65]?.map (·.par)).getD 45 else 45
def fldsX (cs : List XCls) (c : UInt8) : List UInt8 := if isLet cs.length c = true then (cs[c.toNat - 65]?.map (·.fields)).getD [] else []
theorem xpar_any (b : Nat) (cs : List XCls) (c : UInt8) (w : World) (hn : cs.length ≤ 100) (hT : TxC w b cs) :
  Calls Tryz.prog 240 #[.pointer (some ⟨b, 0, none⟩), .int .u8 c.toNat] w fun e w' => e = .returned (.int .u8 (parX cs c).toNat) ∧ w' = w := by
 have hc := xcix_any b cs c w hn hT
 rcases cixX_cases cs.length c with ⟨h1, h2⟩ | ⟨h1, k, hk, h2, h3⟩
 ·rw [h2] at hc
  rw [show parX cs c = 45 from by unfold parX; rw [h1]; rfl]
  have HC := hid hc
  clear hc h1 h2
  go_enter Tryz.func240, Tryz.ntmps240
  go_wp2_with fail
  refine HC.out.mono ?_
  rintro en w1 ⟨rfl, rfl⟩
  go_wp2_with fail
  go_ret
  exact ⟨rfl, rfl⟩
 ·rw [h2] at hc
  obtain ⟨v0, l, h0, hl, hO, hm, hf⟩ := hT
  have hln : l.length = cs.length := by rw [← hm]; simp
  obtain ⟨x, hx⟩ : ∃ x, l[k]? = some x := ⟨_, List.getElem?_eq_getElem (by omega)⟩
  have hpx : parX cs c = x.1.par := by
   unfold parX
   rw [if_pos h1, show c.toNat - 65 = k from by omega, ← hm, List.getElem?_map, hx]
   rfl
  rw [hpx]
  obtain ⟨ao, cap, rfl⟩ := owns_len hO
  obtain ⟨g, rfl, hg1, hg2, hcell⟩ := owns_two hO (by omega)
  have q0 := hcell _ _ (xcCells_at0 hx)
  have q1 := hcell _ _ (xcCells_at1 hx)
  have hfx := hf x (List.mem_of_getElem? hx)
  obtain ⟨x1, x2⟩ := x
  obtain ⟨af, capf, hxv⟩ := owns_len hfx
  simp only at hxv q0 q1
  subst hxv
  have hkn : (k : Int) < (l.length : Int) := by omega
  have HC := hid hc
  clear hc h1 h2 h3 hpx hcell hm hf hx hln
  go_enter Tryz.func240, Tryz.ntmps240
  go_wp2_with fail
  refine HC.out.mono ?_
  rintro en w1 ⟨rfl, rfl⟩
  go_wp2_with fail
  go_ret
  exact ⟨rfl, rfl⟩
theorem xfc_any (b : Nat) (cs : List XCls) (c : UInt8) (w : World) (hn : cs.length ≤ 100) (hT : TxC w b cs) :
  Calls Tryz.prog 157 #[.pointer (some ⟨b, 0, none⟩), .int .u8 c.toNat] w fun e w' => e = .returned (.int .i64 (fldsX cs c).length) ∧ w' = w := by
 have hc := xcix_any b cs c w hn hT
 rcases cixX_cases cs.length c with ⟨h1, h2⟩ | ⟨h1, k, hk, h2, h3⟩
 ·rw [h2] at hc
  rw [show fldsX cs c = [] from by unfold fldsX; rw [h1]; rfl]
  have HC := hid hc
  clear hc h1 h2
  go_enter Tryz.func157, Tryz.ntmps157
  go_wp2_with fail
  refine HC.out.mono ?_
  rintro en w1 ⟨rfl, rfl⟩
  go_wp2_with fail
  go_ret
  exact ⟨rfl, rfl⟩
 ·rw [h2] at hc
  obtain ⟨v0, l, h0, hl, hO, hm, hf⟩ := hT
  have hln : l.length = cs.length := by rw [← hm]; simp
  obtain ⟨x, hx⟩ : ∃ x, l[k]? = some x := ⟨_, List.getElem?_eq_getElem (by omega)⟩
  have hpx : fldsX cs c = x.1.fields := by
   unfold fldsX
   rw [if_pos h1, show c.toNat - 65 = k from by omega, ← hm, List.getElem?_map, hx]
   rfl
  rw [hpx]
  obtain ⟨ao, cap, rfl⟩ := owns_len hO
  obtain ⟨g, rfl, hg1, hg2, hcell⟩ := owns_two hO (by omega)
  have q0 := hcell _ _ (xcCells_at0 hx)
  have q1 := hcell _ _ (xcCells_at1 hx)
  have hfx := hf x (List.mem_of_getElem? hx)
  obtain ⟨x1, x2⟩ := x
  obtain ⟨af, capf, hxv⟩ := owns_len hfx
  simp only at hxv q0 q1
  subst hxv
  have hkn : (k : Int) < (l.length : Int) := by omega
  have HC := hid hc
  clear hc h1 h2 h3 hpx hcell hm hf hx hln
  go_enter Tryz.func157, Tryz.ntmps157
  go_wp2_with fail
  refine HC.out.mono ?_
  rintro en w1 ⟨rfl, rfl⟩
  go_wp2_with fail
  go_ret
  exact ⟨rfl, rfl⟩
def tatX (l : List UInt8) (k : Nat) : UInt8 := if k < l.length then l.getD k 0 else 45
theorem btCells_at {l : List UInt8} {k : Nat} (h : k < l.length) : (btCells l)[k]? = some (.int .u8 (l.getD k 0).toNat) := by
 simp [btCells, List.getD, h]
theorem xtypeAt_any (ao : Option Addr) (cap : Nat) (l : List UInt8) (k : Nat) (w : World) (hB : BtB w 0 (.slice ao l.length cap) l) :
  Calls Tryz.prog 151 #[.slice ao l.length cap, .int .i64 k] w fun e w' => e = .returned (.int .u8 (tatX l k).toNat) ∧ w' = w := by
 have hk0 : ¬ (k : Int) < 0 := by omega
 by_cases hk : k < l.length
 ·rw [show tatX l k = l.getD k 0 from by unfold tatX; rw [if_pos hk]]
  obtain ⟨g, rfl, hg1, hg2, hcell⟩ := owns_two hB (by omega)
  have q := hcell _ _ (btCells_at hk)
  have hkn : ¬ (l.length : Int) ≤ (k : Int) := by omega
  have hkl : (k : Int) < (l.length : Int) := by omega
  revert q
  generalize l.getD k 0 = c
  intro q
  clear hcell hB
  go_enter Tryz.func151, Tryz.ntmps151
  go_wp2
  go_ret
  exact ⟨rfl, rfl⟩
 ·rw [show tatX l k = 45 from by unfold tatX; rw [if_neg hk]]
  have hkn : (l.length : Int) ≤ (k : Int) := by omega
  clear hB
  go_enter Tryz.func151, Tryz.ntmps151
  go_wp2
  go_ret
  exact ⟨rfl, rfl⟩
theorem xft_any (b : Nat) (cs : List XCls) (c : UInt8) (f : Nat) (w : World) (hn : cs.length ≤ 100) (hT : TxC w b cs) :
  Calls Tryz.prog 190 #[.pointer (some ⟨b, 0, none⟩), .int .u8 c.toNat, .int .i64 f] w fun e w' => e = .returned (.int .u8 (tatX (fldsX cs c) f).toNat) ∧ w' = w := by
 have hc := xcix_any b cs c w hn hT
 rcases cixX_cases cs.length c with ⟨h1, h2⟩ | ⟨h1, k, hk, h2, h3⟩
 ·rw [h2] at hc
  rw [show tatX (fldsX cs c) f = 45 from by unfold tatX fldsX; rw [h1]; simp]
  have HC := hid hc
  clear hc h1 h2
  go_enter Tryz.func190, Tryz.ntmps190
  go_wp2_with fail
  refine HC.out.mono ?_
  rintro en w1 ⟨rfl, rfl⟩
  go_wp2_with fail
  go_ret
  exact ⟨rfl, rfl⟩
 ·rw [h2] at hc
  obtain ⟨v0, l, h0, hl, hO, hm, hf⟩ := hT
  have hln : l.length = cs.length := by rw [← hm]; simp
  obtain ⟨x, hx⟩ : ∃ x, l[k]? = some x := ⟨_, List.getElem?_eq_getElem (by omega)⟩
  have hpx : fldsX cs c = x.1.fields := by
   unfold fldsX
   rw [if_pos h1, show c.toNat - 65 = k from by omega, ← hm, List.getElem?_map, hx]
   rfl
  rw [hpx]
  obtain ⟨ao, cap, rfl⟩ := owns_len hO
  obtain ⟨g, rfl, hg1, hg2, hcell⟩ := owns_two hO (by omega)
  have q0 := hcell _ _ (xcCells_at0 hx)
  have q1 := hcell _ _ (xcCells_at1 hx)
  have hfx := hf x (List.mem_of_getElem? hx)
  obtain ⟨x1, x2⟩ := x
  obtain ⟨af, capf, hxv⟩ := owns_len hfx
  simp only at hxv q0 q1 hfx
  subst hxv
  have hkn : (k : Int) < (l.length : Int) := by omega
  have HC := hid hc
  have HT := hid (xtypeAt_any af capf x1.fields f w hfx)
  clear hc h1 h2 h3 hpx hcell hm hf hx hln hfx
  go_enter Tryz.func190, Tryz.ntmps190
  go_wp2_with fail
  refine HC.out.mono ?_
  rintro en w1 ⟨rfl, rfl⟩
  go_wp2_with fail
  refine HT.out.mono ?_
  rintro en w1 ⟨rfl, rfl⟩
  go_wp2_with fail
  go_ret
  exact ⟨rfl, rfl⟩
def comesX (cs : List XCls) (anc : UInt8) : Nat → UInt8 → Bool
 | 0, _ => false
 | f + 1, c => if isLet cs.length c = false then false else if c = anc then true else comesX cs anc f (parX cs c)
theorem xcomes_any (b : Nat) (cs : List XCls) (a c : UInt8) (w : World) (hn : cs.length ≤ 100) (hT : TxC w b cs) :
  Calls Tryz.prog 207 #[.pointer (some ⟨b, 0, none⟩), .int .u8 a.toNat, .int .u8 c.toNat] w fun e w' => e = .returned (.bool (comesX cs c cs.length a)) ∧ w' = w := by
 obtain ⟨R, hRR⟩ : ∃ R, comesX cs c cs.length a = R := ⟨_, rfl⟩
 rw [hRR]
 have HRR := hid hRR
 clear hRR
 have hT' := hT
 obtain ⟨v0, l, h0, hl, hO, hm, hf⟩ := hT'
 obtain ⟨ao, cap, rfl⟩ := owns_len hO
 have hln : l.length = cs.length := by rw [← hm]; simp
 rw [hln] at h0
 clear hm hf hO hln
 obtain ⟨n, hnn⟩ : ∃ n, cs.length = n := ⟨_, rfl⟩
 have HN := hid hnn
 rw [hnn] at h0 hn
 clear hnn
 go_enter Tryz.func207, Tryz.ntmps207
 go_wp2_with fail
 rw [HN.out] at HRR
 go_loopg [7, 8] n (fun mm ls is wr => ∃ (x : UInt8) (k : Nat), ls = .int .u8 x.toNat ∧ is = .int .i64 k ∧ k ≤ n ∧ k + mm ≤ n ∧ n ≤ k + mm ∧ But (fun _ => False) w wr ∧ wr = w ∧ Hid (comesX cs c mm x = R))
 case atStart => exact ⟨a, 0, rfl, rfl, by omega, by omega, by omega, But.refl _ _, rfl, HRR.out⟩
 case round =>
  obtain ⟨x, k, rfl, rfl, hk1, hk2, hk3, _, hww, HA⟩ := hrel
  subst hww
  have hgk : gk = n - k := by omega
  rw [hgk] at HA
  clear hgk hk2
  by_cases hlt : k < n
  ·have hkn : (k : Int) < (n : Int) := by omega
   rw [show n - k = (n - (k + 1)) + 1 from by omega] at HA
   have hic := xisClass_any b cs x wr (by rw [HN.out]; exact hn) hT
   by_cases hl : isLet cs.length x = true
   ·rw [hl] at hic
    have HIC := hid hic
    have hA := HA.out
    simp only [comesX, hl, Bool.true_eq_false, if_false] at hA
    by_cases hxc : x = c
    ·rw [if_pos hxc] at hA
     have e : ((x.toNat : Int) == (c.toNat : Int)) = true := by rw [hxc]; simp
     have e2 : ((x.toNat : Int) = (c.toNat : Int)) := by rw [hxc]
     have E2 := hid e2
     subst hA
     clear hic hl hxc HA e2 HRR
     go_wp2_with fail
     refine HIC.out.mono ?_
     rintro en w1 ⟨rfl, rfl⟩
     go_wp2_with fail
     go_ret
     exact ⟨rfl, rfl⟩
    ·rw [if_neg hxc] at hA
     have e : ((x.toNat : Int) == (c.toNat : Int)) = false := by rw [beq_eq_false_iff_ne]; intro h; exact hxc (UInt8.toNat_inj.1 (by omega))
     have e2 : ¬ ((x.toNat : Int) = (c.toNat : Int)) := by simpa using e
     have HA1 := hid hA
     clear hic hl hxc HA hA HRR
     go_wp2_with fail
     refine HIC.out.mono ?_
     rintro en w1 ⟨rfl, rfl⟩
     go_wp2_with fail
     refine (xpar_any b cs x w1 (by rw [HN.out]; exact hn) hT).mono ?_
     rintro en w2 ⟨rfl, rfl⟩
     revert HA1
     generalize parX cs x = px
     intro HA1
     go_wp2_with fail
     go_roundg (n - (k + 1))
     case measure => omega
     case rel => exact ⟨px, k + 1, rfl, by simp, by omega, by omega, by omega, But.refl _ _, rfl, HA1.out⟩
   ·have hl' : isLet cs.length x = false := by simpa using hl
    rw [hl'] at hic
    have HIC := hid hic
    have hA := HA.out
    simp only [comesX, hl', if_true] at hA
    subst hA
    clear hic hl hl' HA HRR
    go_wp2_with fail
    refine HIC.out.mono ?_
    rintro en w1 ⟨rfl, rfl⟩
    go_wp2_with fail
    go_ret
    exact ⟨rfl, rfl⟩
  ·have hkn : ¬ (k : Int) < (n : Int) := by omega
   rw [show n - k = 0 from by omega] at HA
   have hA : false = R := HA.out
   subst hA
   clear HA HRR
   go_wp2_with fail
   go_ret
   exact ⟨rfl, rfl⟩
def fitsX (cs : List XCls) (a c : UInt8) : Bool :=
 if a = c ∨ c.toNat = 45 then true else if a.toNat = 122 then isLet cs.length c else comesX cs c cs.length a
theorem xfits_any (b : Nat) (cs : List XCls) (a c : UInt8) (w : World) (hn : cs.length ≤ 100) (hT : TxC w b cs) :
  Calls Tryz.prog 150 #[.pointer (some ⟨b, 0, none⟩), .int .u8 a.toNat, .int .u8 c.toNat] w fun e w' => e = .returned (.bool (fitsX cs a c)) ∧ w' = w := by
 by_cases h1 : a = c
 ·rw [show fitsX cs a c = true from by unfold fitsX; rw [if_pos (Or.inl h1)]]
  have e : ((a.toNat : Int) == (c.toNat : Int)) = true := by rw [h1]; simp
  clear h1
  go_enter Tryz.func150, Tryz.ntmps150
  go_wp2_with fail
  go_ret
  exact ⟨rfl, rfl⟩
 have e : ((a.toNat : Int) == (c.toNat : Int)) = false := by rw [beq_eq_false_iff_ne]; intro h; exact h1 (UInt8.toNat_inj.1 (by omega))
 by_cases h2 : c.toNat = 45
 ·rw [show fitsX cs a c = true from by unfold fitsX; rw [if_pos (Or.inr h2)]]
  have e2 : ((c.toNat : Int) == 45) = true := by rw [beq_iff_eq]; omega
  clear h1 h2
  go_enter Tryz.func150, Tryz.ntmps150
  go_wp2_with fail
  go_ret
  exact ⟨rfl, rfl⟩
 have e2 : ((c.toNat : Int) == 45) = false := by rw [beq_eq_false_iff_ne]; omega
 by_cases h3 : a.toNat = 122
 ·rw [show fitsX cs a c = isLet cs.length c from by unfold fitsX; rw [if_neg (not_or.2 ⟨h1, h2⟩), if_pos h3]]
  have e3 : ((a.toNat : Int) == 122) = true := by rw [beq_iff_eq]; omega
  clear h1 h2 h3
  go_enter Tryz.func150, Tryz.ntmps150
  go_wp2_with fail
  refine (xisClass_any b cs c w hn hT).mono ?_
  rintro en w1 ⟨rfl, rfl⟩
  go_wp2_with fail
  go_ret
  exact ⟨rfl, rfl⟩
 ·rw [show fitsX cs a c = comesX cs c cs.length a from by unfold fitsX; rw [if_neg (not_or.2 ⟨h1, h2⟩), if_neg h3]]
  have e3 : ((a.toNat : Int) == 122) = false := by rw [beq_eq_false_iff_ne]; omega
  clear h1 h2 h3
  go_enter Tryz.func150, Tryz.ntmps150
  go_wp2_with fail
  refine (xcomes_any b cs a c w hn hT).mono ?_
  rintro en w1 ⟨rfl, rfl⟩
  go_wp2_with fail
  go_ret
  exact ⟨rfl, rfl⟩
end Go.Proofs.YtpfkkmacakjmbaaGreatDoor
