import Derived.Test.YtpfkkmacakjmbaaGreatDoorP15
import Derived.Deep.AppendLies
set_option maxRecDepth 100000
set_option maxHeartbeats 6400000
namespace Go.Proofs.YtpfkkmacakjmbaaGreatDoor
open Go Go.RowKit Sp
set_option linter.unusedSimpArgs false
set_option linter.unusedVariables false
def ltX (s : ByteArray) (n i : Nat) (bad : Bool) : UInt8 × Nat × Bool := if bad = false ∧ isLet n (pk s i) = true then (pk s i, i + 1, false) else (45, i, true)
def tyX (s : ByteArray) (n i : Nat) (bad : Bool) : UInt8 × Nat × Bool := if bad = false ∧ isTy n (pk s i) = true then (pk s i, i + 1, false) else (if (pk s i).toNat = 105 then 0 else 45, i, true)
def paX (s : ByteArray) (n i : Nat) (bad : Bool) : UInt8 × Nat × Bool := if bad = false ∧ ((pk s i).toNat = 45 ∨ isLet n (pk s i) = true) then (pk s i, i + 1, false) else (if (pk s i).toNat = 45 then 0 else 45, i, true)
section
variable (b : Nat) (s : ByteArray) (i : Nat) (bad : Bool) (v0 v1 : Value) (v2 : RdV) (w : World)
theorem xletter_any (n : Nat) (hn : n ≤ 100) (hs : s.size ≤ 2000) (hR : XrB w b s i bad v0 v1 v2) :
  Calls Tryz.prog 218 #[.pointer (some ⟨b, 0, none⟩), .int .i64 n] w fun e w' => e = .returned (.int .u8 (ltX s n i bad).1.toNat) ∧ But (· = b) w w' ∧ XrB w' b s (ltX s n i bad).2.1 (ltX s n i bad).2.2 v0 v1 v2 := by
 have h3 := hR.c3
 by_cases hz : bad = true ∨ s.size ≤ i
 ·have htk : ltX s n i bad = (45, i, true) := by
   unfold ltX
   rw [if_neg]
   rintro ⟨h1, h2⟩
   rcases hz with h | h
   ·rw [h] at h1; cases h1
   ·rw [pk_end h] at h2; simp [isLet] at h2
  rw [htk]
  have hb := xtakeByte_any b s i bad v0 v1 v2 w hs hR
  rw [tbP_zero hz] at hb
  have HB := hid hb
  clear hb htk
  go_enter Tryz.func218, Tryz.ntmps218
  go_wp2_with fail
  refine HB.out.mono ?_
  rintro en w1 ⟨rfl, hB1, hR1⟩
  go_wp2_with fail
  refine (xrefuse_bad b s i v0 v1 v2 w1 i hR1).mono ?_
  rintro en w2 ⟨rfl, hB2, hR2⟩
  go_wp2_with fail
  go_ret
  exact ⟨rfl, hB1.trans hB2, hR2⟩
 ·have hz' := not_or.1 hz
  have hbf : bad = false := by simpa using hz'.1
  subst hbf
  have hb := xtakeByte_any b s i false v0 v1 v2 w hs hR
  rw [tbP_ok (by omega)] at hb
  have HB := hid hb
  clear hb
  by_cases hd : isLet n (pk s i) = true
  ·rw [show ltX s n i false = (pk s i, i + 1, false) from by unfold ltX; rw [if_pos ⟨rfl, hd⟩]]
   simp only [isLet, Bool.and_eq_true, decide_eq_true_eq] at hd
   revert HB
   generalize pk s i = c at *
   intro HB
   have c255 : c.toNat < 256 := c.toNat_lt
   have a1 : ¬ ((c.toNat : Int) < 65) := by omega
   have hsub : IntKind.u8.wrap ((c.toNat : Int) - 65) = ((c.toNat - 65 : Nat) : Int) := by
    rw [IntWalk.u8_in _ (by omega)]; omega
   have a3 : ¬ ((n : Int) ≤ ((c.toNat - 65 : Nat) : Int)) := by omega
   clear hz hz' hd
   go_enter Tryz.func218, Tryz.ntmps218
   go_wp2_with fail
   refine HB.out.mono ?_
   rintro en w1 ⟨rfl, hB1, hR1⟩
   go_wp2_with fail
   go_ret
   exact ⟨rfl, hB1, hR1⟩
  ·rw [show ltX s n i false = (45, i, true) from by unfold ltX; rw [if_neg (fun h => hd h.2)]]
   simp only [isLet, Bool.and_eq_true, decide_eq_true_eq] at hd
   revert HB
   generalize pk s i = c at *
   intro HB
   have c255 : c.toNat < 256 := c.toNat_lt
   clear hz hz'
   by_cases a1 : (c.toNat : Int) < 65
   ·clear hd
    go_enter Tryz.func218, Tryz.ntmps218
    go_wp2_with fail
    refine HB.out.mono ?_
    rintro en w1 ⟨rfl, hB1, hR1⟩
    go_wp2_with fail
    refine (xrefuse_ok b s (i + 1) v0 v1 v2 w1 i hR1).mono ?_
    rintro en w2 ⟨rfl, hB2, hR2⟩
    go_wp2_with fail
    go_ret
    exact ⟨rfl, hB1.trans hB2, hR2⟩
   ·have hsub : IntKind.u8.wrap ((c.toNat : Int) - 65) = ((c.toNat - 65 : Nat) : Int) := by
     rw [IntWalk.u8_in _ (by omega)]; omega
    have a3 : (n : Int) ≤ ((c.toNat - 65 : Nat) : Int) := by omega
    clear hd
    go_enter Tryz.func218, Tryz.ntmps218
    go_wp2_with fail
    refine HB.out.mono ?_
    rintro en w1 ⟨rfl, hB1, hR1⟩
    go_wp2_with fail
    refine (xrefuse_ok b s (i + 1) v0 v1 v2 w1 i hR1).mono ?_
    rintro en w2 ⟨rfl, hB2, hR2⟩
    go_wp2_with fail
    go_ret
    exact ⟨rfl, hB1.trans hB2, hR2⟩
theorem xclass_any (n cap : Nat) (ao : Option Addr) (hn : n ≤ 100) (hs : s.size ≤ 2000) (hR : XrB w b s i bad (.slice ao n cap) v1 v2) :
  Calls Tryz.prog 219 #[.pointer (some ⟨b, 0, none⟩)] w fun e w' => e = .returned (.int .u8 (ltX s n i bad).1.toNat) ∧ But (· = b) w w' ∧ XrB w' b s (ltX s n i bad).2.1 (ltX s n i bad).2.2 (.slice ao n cap) v1 v2 := by
 have h0 := hR.c0
 go_enter Tryz.func219, Tryz.ntmps219
 go_wp2_with fail
 refine (xletter_any b s i bad (.slice ao n cap) v1 v2 w n hn hs hR).mono ?_
 rintro en w2 ⟨rfl, hB2, hR2⟩
 go_wp2_with fail
 go_ret
 exact ⟨rfl, hB2, hR2⟩
theorem xtype_any (n : Nat) (hn : n ≤ 4) (hs : s.size ≤ 2000) (hR : XrB w b s i bad v0 v1 v2) :
  Calls Tryz.prog 166 #[.pointer (some ⟨b, 0, none⟩), .int .i64 n] w fun e w' => e = .returned (.int .u8 (tyX s n i bad).1.toNat) ∧ But (· = b) w w' ∧ XrB w' b s (tyX s n i bad).2.1 (tyX s n i bad).2.2 v0 v1 v2 := by
 by_cases h105 : (pk s i).toNat = 105
 ·have e : (((pk s i).toNat : Int) == 105) = true := by rw [beq_iff_eq]; omega
  have hlt : i < s.size := pk_lt (by omega)
  have htb : tyX s n i bad = tbP s i bad := by
   unfold tyX tbP
   cases bad with
   | true => simp [h105]
   | false => rw [if_pos ⟨rfl, by simp [isTy, h105]⟩, if_neg (by simp; omega)]
  rw [htb]
  clear h105 htb
  go_enter Tryz.func166, Tryz.ntmps166
  go_wp2_with fail
  refine (xnext_any b s i bad v0 v1 v2 w hR).mono ?_
  rintro en w1 ⟨rfl, m, rfl⟩
  go_wp2_with fail
  refine (xtakeByte_any b s i bad v0 v1 v2 _ hs (hR.drewN m)).mono ?_
  rintro en w2 ⟨rfl, hB2, hR2⟩
  go_wp2_with fail
  go_ret
  exact ⟨rfl, (But.drewN _ _ _).trans hB2, hR2⟩
 ·have e : (((pk s i).toNat : Int) == 105) = false := by rw [beq_eq_false_iff_ne]; omega
  have htb : tyX s n i bad = ltX s n i bad := by
   unfold tyX ltX
   simp [isTy, h105]
  rw [htb]
  clear h105 htb
  go_enter Tryz.func166, Tryz.ntmps166
  go_wp2_with fail
  refine (xnext_any b s i bad v0 v1 v2 w hR).mono ?_
  rintro en w1 ⟨rfl, m, rfl⟩
  go_wp2_with fail
  refine (xletter_any b s i bad v0 v1 v2 _ n (by omega) hs (hR.drewN m)).mono ?_
  rintro en w2 ⟨rfl, hB2, hR2⟩
  go_wp2_with fail
  go_ret
  exact ⟨rfl, (But.drewN _ _ _).trans hB2, hR2⟩
theorem xparent_any (n cap : Nat) (ao : Option Addr) (hn : n ≤ 4) (hs : s.size ≤ 2000) (hR : XrB w b s i bad (.slice ao n cap) v1 v2) :
  Calls Tryz.prog 215 #[.pointer (some ⟨b, 0, none⟩)] w fun e w' => e = .returned (.int .u8 (paX s n i bad).1.toNat) ∧ But (· = b) w w' ∧ XrB w' b s (paX s n i bad).2.1 (paX s n i bad).2.2 (.slice ao n cap) v1 v2 := by
 by_cases h45 : (pk s i).toNat = 45
 ·have e : (((pk s i).toNat : Int) == 45) = true := by rw [beq_iff_eq]; omega
  have hlt : i < s.size := pk_lt (by omega)
  have htb : paX s n i bad = tbP s i bad := by
   unfold paX tbP
   cases bad with
   | true => simp [h45]
   | false => rw [if_pos ⟨rfl, Or.inl h45⟩, if_neg (by simp; omega)]
  rw [htb]
  clear h45 htb
  go_enter Tryz.func215, Tryz.ntmps215
  go_wp2_with fail
  refine (xnext_any b s i bad (.slice ao n cap) v1 v2 w hR).mono ?_
  rintro en w1 ⟨rfl, m, rfl⟩
  go_wp2_with fail
  refine (xtakeByte_any b s i bad (.slice ao n cap) v1 v2 _ hs (hR.drewN m)).mono ?_
  rintro en w2 ⟨rfl, hB2, hR2⟩
  go_wp2_with fail
  go_ret
  exact ⟨rfl, (But.drewN _ _ _).trans hB2, hR2⟩
 ·have e : (((pk s i).toNat : Int) == 45) = false := by rw [beq_eq_false_iff_ne]; omega
  have htb : paX s n i bad = ltX s n i bad := by
   unfold paX ltX
   simp [h45]
  rw [htb]
  clear h45 htb
  go_enter Tryz.func215, Tryz.ntmps215
  go_wp2_with fail
  refine (xnext_any b s i bad (.slice ao n cap) v1 v2 w hR).mono ?_
  rintro en w1 ⟨rfl, m, rfl⟩
  go_wp2_with fail
  refine (xclass_any b s i bad v1 v2 _ n cap ao (by omega) hs (hR.drewN m)).mono ?_
  rintro en w2 ⟨rfl, hB2, hR2⟩
  go_wp2_with fail
  go_ret
  exact ⟨rfl, (But.drewN _ _ _).trans hB2, hR2⟩
end
end Go.Proofs.YtpfkkmacakjmbaaGreatDoor
namespace Go.Proofs.YtpfkkmacakjmbaaGreatDoor
open Go Go.RowKit Sp
set_option linter.unusedSimpArgs false
set_option linter.unusedVariables false
attribute [local go_sem ↓] Go.wp_at_zero Go.wp_at_succ
def btCells (l : List UInt8) : List Value := l.map fun c => .int .u8 c.toNat
theorem info_u8 : (Tryz.prog.info? 5).map (fun i => (i.zero, i.size, i.bytes)) = some (some (.int .u8 0), 1, 1) := by kernel_rfl
def BtB (w : World) (base : Nat) (v : Value) (l : List UInt8) : Prop := w.ownsRow base 5 1 v l.length (btCells l)
theorem BtB.empty (w : World) : BtB (w.alloc (.cells #[] 5)) w.heap.size (.slice (some ⟨w.heap.size, 0, none⟩) 0 0) [] := by
 refine ⟨rfl, Or.inr ⟨w.heap.size, 0, #[], rfl, Nat.le_refl _, heap_alloc_new _ _, Nat.le_refl _, by unfold maxLen; omega, rfl, rfl⟩⟩
theorem BtB.but {F : Nat → Prop} {w w' : World} {base : Nat} {v : Value} {l : List UInt8} (h : BtB w base v l) (hb : But F w w') (hf : ∀ g, v.ownBlock = some g → ¬ F g) : BtB w' base v l := owns_but h hb hf
def TysC (s : ByteArray) (n : Nat) (e : UInt8) (most : Nat) (R : Except Nat (List UInt8 × Nat)) (mm : Nat) (t : List UInt8) (j : Nat) (bad : Bool) : Prop :=
 (bad = false ∧ t.length + mm = most ∧ tys s n e mm t j = R) ∨ (bad = true ∧ mm = 0 ∧ R = .error j)
theorem TysC.fin {s : ByteArray} {n : Nat} {e : UInt8} {most : Nat} {R : Except Nat (List UInt8 × Nat)} {mm : Nat} {t : List UInt8} {j : Nat} {bad : Bool} (h : TysC s n e most R mm t j bad) (hx : bad = true ∨ ¬ t.length < most ∨ pk s j = e) :
  ((tkP s e j bad).2 = false ∧ R = .ok (t, (tkP s e j bad).1)) ∨ ((tkP s e j bad).2 = true ∧ R = .error (tkP s e j bad).1) := by
 rcases h with ⟨rfl, h1, h2⟩ | ⟨rfl, h1, h2⟩
 ·by_cases hp : pk s j = e
  ·left
   rw [show tkP s e j false = (j + 1, false) from by unfold tkP; rw [if_pos ⟨rfl, hp⟩]]
   refine ⟨rfl, ?_⟩
   rw [← h2]
   cases mm <;> simp [tys, hp]
  ·right
   rw [show tkP s e j false = (j, true) from by unfold tkP; rw [if_neg (fun h => hp h.2)]]
   refine ⟨rfl, ?_⟩
   have : mm = 0 := by
    rcases hx with h | h | h
    ·cases h
    ·omega
    ·exact absurd h hp
   subst this
   rw [← h2]
   simp [tys, hp]
 ·right
  rw [show tkP s e j true = (j, true) from by unfold tkP; rw [if_neg (by simp)]]
  exact ⟨rfl, h2⟩
theorem TysC.next {s : ByteArray} {n : Nat} {e : UInt8} {most : Nat} {R : Except Nat (List UInt8 × Nat)} {mm : Nat} {t : List UInt8} {j : Nat} (h : TysC s n e most R mm t j false) (hl : t.length < most) (hp : pk s j ≠ e) :
  ∃ m', m' < mm ∧ TysC s n e most R m' (t ++ [(tyX s n j false).1]) (tyX s n j false).2.1 (tyX s n j false).2.2 := by
 rcases h with ⟨_, h1, h2⟩ | ⟨h, _⟩
 ·obtain ⟨f, rfl⟩ : ∃ f, mm = f + 1 := ⟨mm - 1, by omega⟩
  simp only [tys, if_neg hp] at h2
  by_cases ht : isTy n (pk s j) = true
  ·rw [show tyX s n j false = (pk s j, j + 1, false) from by unfold tyX; rw [if_pos ⟨rfl, ht⟩]]
   rw [if_pos ht] at h2
   exact ⟨f, by omega, Or.inl ⟨rfl, by simp; omega, h2⟩⟩
  ·rw [show tyX s n j false = (if (pk s j).toNat = 105 then 0 else 45, j, true) from by unfold tyX; rw [if_neg (fun h => ht h.2)]]
   rw [if_neg ht] at h2
   exact ⟨0, by omega, Or.inr ⟨rfl, rfl, h2.symm⟩⟩
 ·cases h
section
variable (b : Nat) (s : ByteArray) (i : Nat) (bad : Bool) (v0 v1 : Value) (v2 : RdV) (w : World)
theorem xtypes_any (most n : Nat) (e : UInt8) (he : 0 < e.toNat) (hm : most ≤ 10) (hn : n ≤ 4) (hs : s.size ≤ 2000) (hR : XrB w b s i false v0 v1 v2) :
  Calls Tryz.prog 216 #[.pointer (some ⟨b, 0, none⟩), .int .i64 most, .int .i64 n, .int .u8 e.toNat] w fun en w' => But (· = b) w w' ∧ ∃ v l j bad', en = .returned v ∧ XrB w' b s j bad' v0 v1 v2 ∧ BtB w' w.heap.size v l ∧ l.length ≤ most ∧
   ((bad' = false ∧ tys s n e most [] i = .ok (l, j)) ∨ (bad' = true ∧ tys s n e most [] i = .error j)) := by
 obtain ⟨R, hRR⟩ : ∃ R, tys s n e most [] i = R := ⟨_, rfl⟩
 rw [hRR]
 have HRR := hid hRR
 clear hRR
 obtain ⟨i0, hi0, hz0, hz1, hz2⟩ := info_parts info_u8
 go_enter Tryz.func216, Tryz.ntmps216
 go_wp2_with fail
 have hB0 : But (· = b) w (w.alloc (.cells #[] 5)) := But.alloc _ _ _
 have hR0 : XrB (w.alloc (.cells #[] 5)) b s i false v0 v1 v2 := hR.but (But.alloc (fun _ => False) _ _) (fun h => h)
 have hbw := hR.lt
 go_loopg [9] most (fun mm vs wr => ∃ (ao : Option Addr) (cap j : Nat) (bad' : Bool) (t : List UInt8), vs = .slice ao t.length cap ∧ t.length ≤ most ∧ But (· = b) w wr ∧ XrB wr b s j bad' v0 v1 v2 ∧ BtB wr w.heap.size (.slice ao t.length cap) t ∧
  Hid (TysC s n e most R mm t j bad'))
 case atStart => exact ⟨_, 0, i, false, [], rfl, by simp, hB0, hR0, BtB.empty w, Or.inl ⟨rfl, by simp, HRR.out⟩⟩
 case round =>
  obtain ⟨ao, cap, j, bad', t, rfl, htl, hBr, hRr, hBt, HC⟩ := hrel
  have hfin : ∀ (w1 : World), But (fun _ => False) wr w1 → (bad' = true ∨ ¬ t.length < most ∨ pk s j = e) → ∀ (w2 : World), But (· = b) w1 w2 → XrB w2 b s (tkP s e j bad').1 (tkP s e j bad').2 v0 v1 v2 →
    But (· = b) w w2 ∧ ∃ v l j bad', Ending.returned (Value.slice ao t.length cap) = .returned v ∧ XrB w2 b s j bad' v0 v1 v2 ∧ BtB w2 w.heap.size v l ∧ l.length ≤ most ∧ ((bad' = false ∧ R = .ok (l, j)) ∨ (bad' = true ∧ R = .error j)) := by
   intro w1 h1 h2 w2 h3 h4
   have hB12 : But (· = b) wr w2 := (h1.mono (fun _ _ h => h.elim)).trans h3
   exact ⟨hBr.trans hB12, _, t, _, _, rfl, h4, hBt.but hB12 (fun g hg h => by have := owns_ge hBt g hg; omega), htl, HC.out.fin h2⟩
  have HF := hid hfin
  clear hfin
  by_cases hlt : t.length < most
  ·have hlI : (t.length : Int) < (most : Int) := by omega
   by_cases hgo : bad' = false ∧ pk s j ≠ e
   ·obtain ⟨rfl, hne⟩ := hgo
    have hbv : (!false && !decide (pk s j = e)) = true := by simp [hne]
    obtain ⟨m', hm', hC'⟩ := HC.out.next hlt hne
    have HC' := hid hC'
    have hbef := xbefore_any b s j false v0 v1 v2 wr e hRr
    rw [hbv] at hbef
    have HBF := hid hbef
    clear hbv hC' hbef hne HC HF
    go_wp2_with fail
    refine HBF.out.mono ?_
    rintro en w1 ⟨rfl, m, rfl⟩
    go_wp2_with fail
    refine (xtype_any b s j false v0 v1 v2 _ n hn hs (hRr.drewN m)).mono ?_
    rintro en w1 ⟨rfl, hB1, hR1⟩
    revert HC' hR1
    generalize tyX s n j false = Y
    intro HC' hR1
    obtain ⟨c, j', bad2⟩ := Y
    have hBw1 : But (· = b) w w1 := (hBr.trans (But.drewN _ _ _)).trans hB1
    have hBt1 : BtB w1 w.heap.size (.slice ao t.length cap) t := (hBt.but (But.drewN (· = b) _ _) (fun g hg h => by have := owns_ge hBt g hg; omega)).but hB1 (fun g hg h => by have := owns_ge hBt g hg; omega)
    have hO1 : w1.ownsRow w.heap.size 5 1 (.slice ao t.length cap) t.length (btCells t) := hBt1
    have hsz := hBw1.size
    go_wp2_with (at_builtin; refine wpList_append_lies _ rfl _ _ _ rfl w.heap.size 5 i0 _ 1 1 (by kernel_rfl) hi0 hz0 hz1 hz2 rfl (by omega) _ t.length (btCells t) rfl (hO1.alloc _) ⟨w1.heap.size, 0, none⟩ 1 1 [.int .u8 c.toNat] rfl rfl (World.news_of_block (cs := #[.int .u8 c.toNat]) (t := 5) (fr := (0, 0)) (heap_alloc_new w1 _)) (by simp [Value.oneCell']) (by omega) (by unfold maxLen; omega) (by omega) (by simp; omega) (w1.heap.size + 1) (by simp) ?_)
    intro gg cap3 w2 hown2 hgrow hat hlt2
    have hSW : But (fun k' => (Value.slice ao t.length cap).ownBlock = some k') w1 w2 := (But.alloc _ _ _).trans (but_grown hgrow)
    have hBw2 : But (· = b) w w2 := hBw1.next hSW (fun k' hk' h => absurd (owns_ge hO1 k' h) (by omega))
    have hR2 := hR1.but hSW (fun h => by have := owns_ge hO1 _ h; omega)
    have hBt2 : BtB w2 w.heap.size (.slice (some ⟨gg, 0, none⟩) (t ++ [c]).length cap3) (t ++ [c]) := by
     unfold BtB
     rw [List.length_append, btCells, List.map_append]
     exact hown2
    go_wp2_with fail
    go_roundg m'
    case measure => omega
    case rel => exact ⟨_, cap3, j', bad2, t ++ [c], by simp, by simp; omega, hBw2, hR2, hBt2, HC'.out⟩
   ·have hbv : (!bad' && !decide (pk s j = e)) = false := by
     cases bad' with
     | true => rfl
     | false =>
      have : pk s j = e := by
       by_cases h : pk s j = e
       ·exact h
       ·exact absurd ⟨rfl, h⟩ hgo
      simp [this]
    have hx : bad' = true ∨ ¬ t.length < most ∨ pk s j = e := by
     cases bad' with
     | true => exact Or.inl rfl
     | false =>
      right; right
      by_cases h : pk s j = e
      ·exact h
      ·exact absurd ⟨rfl, h⟩ hgo
    have HX := hid hx
    have hbef := xbefore_any b s j bad' v0 v1 v2 wr e hRr
    rw [hbv] at hbef
    have HBF := hid hbef
    clear hbv hbef hx hgo HC
    go_wp2_with fail
    refine HBF.out.mono ?_
    rintro en w1 ⟨rfl, m, rfl⟩
    go_wp2_with fail
    refine (xtake_any b s j bad' v0 v1 v2 _ e he hs (hRr.drewN m)).mono ?_
    rintro en w2 ⟨rfl, hB2, hR2⟩
    go_wp2_with fail
    exact bodyPost_ret (v := .slice ao t.length cap) (by simp [results, Tryz.results216, go_sem]) rfl (HF.out _ (But.drewN _ _ _) HX.out w2 hB2 hR2)
  ·have hlI : ¬ (t.length : Int) < (most : Int) := by omega
   go_wp2_with fail
   refine (xtake_any b s j bad' v0 v1 v2 _ e he hs hRr).mono ?_
   rintro en w2 ⟨rfl, hB2, hR2⟩
   go_wp2_with fail
   exact bodyPost_ret (v := .slice ao t.length cap) (by simp [results, Tryz.results216, go_sem]) rfl (HF.out _ (But.refl _ _) (Or.inr (Or.inl hlt)) w2 hB2 hR2)
end
structure XCls where
 par : UInt8
 fields : List UInt8
def xcCells (l : List (XCls × Value)) : List Value := l.flatMap fun x => [.int .u8 x.1.par.toNat, x.2]
theorem xcCells_at {l : List (XCls × Value)} {j k : Nat} {x : XCls × Value} (h : l[j]? = some x) (hk : k < 2) : (xcCells l)[j * 2 + k]? = [Value.int .u8 x.1.par.toNat, x.2][k]? :=
 flat_at (fun x : XCls × Value => [Value.int .u8 x.1.par.toNat, x.2]) 2 (fun _ => rfl) l j k x h hk
theorem xcCells_at0 {l : List (XCls × Value)} {j : Nat} {x : XCls × Value} (h : l[j]? = some x) : (xcCells l)[j * 2]? = some (.int .u8 x.1.par.toNat) := xcCells_at (k := 0) h (by omega)
theorem xcCells_at1 {l : List (XCls × Value)} {j : Nat} {x : XCls × Value} (h : l[j]? = some x) : (xcCells l)[j * 2 + 1]? = some x.2 := xcCells_at (k := 1) h (by omega)
def TxC (w : World) (b : Nat) (cs : List XCls) : Prop :=
 ∃ v0 l, w.cell? ⟨b, 0, none⟩ = some v0 ∧ b < w.heap.size ∧ w.ownsRow 0 240 2 v0 l.length (xcCells l) ∧ l.map (·.1) = cs ∧ ∀ x ∈ l, BtB w 0 x.2 x.1.fields
theorem TxC.but {w w' : World} {b : Nat} {cs : List XCls} (h : TxC w b cs) (hb : But (fun _ => False) w w') : TxC w' b cs := by
 obtain ⟨v0, l, h0, hl, hO, hm, hf⟩ := h
 exact ⟨v0, l, (hb.cell (p := ⟨b, 0, none⟩) hl (fun h => h)).trans h0, Nat.lt_of_lt_of_le hl hb.size, owns_but hO hb (fun _ _ h => h), hm, fun x hx => (hf x hx).but hb (fun _ _ h => h)⟩
def cixX (n : Nat) (c : UInt8) : Int := if isLet n c = true then (c.toNat : Int) - 65 else -1
theorem xcix_any (b : Nat) (cs : List XCls) (c : UInt8) (w : World) (hn : cs.length ≤ 100) (hT : TxC w b cs) :
  Calls Tryz.prog 209 #[.pointer (some ⟨b, 0, none⟩), .int .u8 c.toNat] w fun e w' => e = .returned (.int .i64 (cixX cs.length c)) ∧ w' = w := by
 obtain ⟨v0, l, h0, hl, hO, hm, hf⟩ := hT
 obtain ⟨ao, cap, rfl⟩ := owns_len hO
 have hln : l.length = cs.length := by rw [← hm]; simp
 rw [hln] at h0
 have c255 : c.toNat < 256 := c.toNat_lt
 obtain ⟨R, hR⟩ : ∃ R, cixX cs.length c = R := ⟨_, rfl⟩
 rw [hR]
 unfold cixX at hR
 generalize cs.length = n at *
 clear hm hf hO hln
 by_cases a1 : (c.toNat : Int) < 65
 ·rw [if_neg (by simp [isLet]; omega)] at hR
  subst hR
  go_enter Tryz.func209, Tryz.ntmps209
  go_wp2
  go_ret
  exact ⟨rfl, rfl⟩
 ·have hsub : IntKind.u8.wrap ((c.toNat : Int) - 65) = ((c.toNat - 65 : Nat) : Int) := by
   rw [IntWalk.u8_in _ (by omega)]; omega
  by_cases a2 : (n : Int) ≤ ((c.toNat - 65 : Nat) : Int)
  ·rw [if_neg (by simp [isLet]; omega)] at hR
   subst hR
   go_enter Tryz.func209, Tryz.ntmps209
   go_wp2
   go_ret
   exact ⟨rfl, rfl⟩
  ·rw [if_pos (by simp [isLet]; omega)] at hR
   have hR' : ((c.toNat - 65 : Nat) : Int) = R := by omega
   subst hR'
   clear hR
   go_enter Tryz.func209, Tryz.ntmps209
   go_wp2
   go_ret
   exact ⟨rfl, rfl⟩
theorem cixX_cases (n : Nat) (c : UInt8) : (isLet n c = false ∧ cixX n c = -1) ∨ (isLet n c = true ∧ ∃ k : Nat, k < n ∧ cixX n c = k ∧ c.toNat = 65 + k) := by
 cases h : isLet n c with
 | false => exact Or.inl ⟨rfl, by unfold cixX; rw [h]; rfl⟩
 | true =>
  right
  refine ⟨rfl, c.toNat - 65, ?_⟩
  have h' := h
  simp only [isLet, Bool.and_eq_true, decide_eq_true_eq] at h'
  unfold cixX
  rw [h]
  refine ⟨by omega, ?_, by omega⟩
  simp
  omega
theorem xisClass_any (b : Nat) (cs : List XCls) (c : UInt8) (w : World) (hn : cs.length ≤ 100) (hT : TxC w b cs) :
  Calls Tryz.prog 206 #[.pointer (some ⟨b, 0, none⟩), .int .u8 c.toNat] w fun e w' => e = .returned (.bool (isLet cs.length c)) ∧ w' = w := by
 have hc := xcix_any b cs c w hn hT
 rcases cixX_cases cs.length c with ⟨h1, h2⟩ | ⟨h1, k, hk, h2, h3⟩
 ·rw [h2] at hc
  rw [h1]
  have HC := hid hc
  clear hc h1 h2
  go_enter Tryz.func206, Tryz.ntmps206
  go_wp2_with fail
  refine HC.out.mono ?_
  rintro en w1 ⟨rfl, rfl⟩
  go_wp2_with fail
  go_ret
  exact ⟨rfl, rfl⟩
 ·rw [h2] at hc
  rw [h1]
  have HC := hid hc
  have hk0 : (0 : Int) ≤ (k : Int) := by omega
  clear hc h1 h2 h3
  go_enter Tryz.func206, Tryz.ntmps206
  go_wp2_with fail
  refine HC.out.mono ?_
  rintro en w1 ⟨rfl, rfl⟩
  go_wp2_with fail
  go_ret
  exact ⟨rfl, rfl⟩
def parX (cs : List XCls) (c : UInt8) : UInt8 := if isLet cs.length c = true then (cs[c.toNat - 65]?.map (·.par)).getD 45 else 45
def fldsX (cs : List XCls) (c : UInt8) : List UInt8 := if isLet cs.length c = true then (cs[c.toNat - 65]?.map (·.fields)).getD [] else []
theorem xpar_any (b : Nat) (cs : List XCls) (c : UInt8) (w : World) (hn : cs.length ≤ 100) (hT : TxC w b cs) :
  Calls Tryz.prog 240 #[.pointer (some ⟨b, 0, none⟩), .int .u8 c.toNat] w fun e w' => e = .returned (.int .u8 (parX cs c).toNat) ∧ w' = w := by
 have hc := xcix_any b cs c w hn hT
 rcases cixX_cases cs.length c with ⟨h1, h2⟩ | ⟨h1, k, hk, h2, h3⟩
 ·rw [h2] at hc
  rw [show parX cs c = 45 from by unfold parX; rw [h1]; rfl]
  have HC := hid hc
  clear hc h1 h2
  go_enter Tryz.func240, Tryz.ntmps240
  go_wp2_with fail
  refine HC.out.mono ?_
  rintro en w1 ⟨rfl, rfl⟩
  go_wp2_with fail
  go_ret
  exact ⟨rfl, rfl⟩
 ·rw [h2] at hc
  obtain ⟨v0, l, h0, hl, hO, hm, hf⟩ := hT
  have hln : l.length = cs.length := by rw [← hm]; simp
  obtain ⟨x, hx⟩ : ∃ x, l[k]? = some x := ⟨_, List.getElem?_eq_getElem (by omega)⟩
  have hpx : parX cs c = x.1.par := by
   unfold parX
   rw [if_pos h1, show c.toNat - 65 = k from by omega, ← hm, List.getElem?_map, hx]
   rfl
  rw [hpx]
  obtain ⟨ao, cap, rfl⟩ := owns_len hO
  obtain ⟨g, rfl, hg1, hg2, hcell⟩ := owns_two hO (by omega)
  have q0 := hcell _ _ (xcCells_at0 hx)
  have q1 := hcell _ _ (xcCells_at1 hx)
  have hfx := hf x (List.mem_of_getElem? hx)
  obtain ⟨x1, x2⟩ := x
  obtain ⟨af, capf, hxv⟩ := owns_len hfx
  simp only at hxv q0 q1
  subst hxv
  have hkn : (k : Int) < (l.length : Int) := by omega
  have HC := hid hc
  clear hc h1 h2 h3 hpx hcell hm hf hx hln
  go_enter Tryz.func240, Tryz.ntmps240
  go_wp2_with fail
  refine HC.out.mono ?_
  rintro en w1 ⟨rfl, rfl⟩
  go_wp2_with fail
  go_ret
  exact ⟨rfl, rfl⟩
theorem xfc_any (b : Nat) (cs : List XCls) (c : UInt8) (w : World) (hn : cs.length ≤ 100) (hT : TxC w b cs) :
  Calls Tryz.prog 157 #[.pointer (some ⟨b, 0, none⟩), .int .u8 c.toNat] w fun e w' => e = .returned (.int .i64 (fldsX cs c).length) ∧ w' = w := by
 have hc := xcix_any b cs c w hn hT
 rcases cixX_cases cs.length c with ⟨h1, h2⟩ | ⟨h1, k, hk, h2, h3⟩
 ·rw [h2] at hc
  rw [show fldsX cs c = [] from by unfold fldsX; rw [h1]; rfl]
  have HC := hid hc
  clear hc h1 h2
  go_enter Tryz.func157, Tryz.ntmps157
  go_wp2_with fail
  refine HC.out.mono ?_
  rintro en w1 ⟨rfl, rfl⟩
  go_wp2_with fail
  go_ret
  exact ⟨rfl, rfl⟩
 ·rw [h2] at hc
  obtain ⟨v0, l, h0, hl, hO, hm, hf⟩ := hT
  have hln : l.length = cs.length := by rw [← hm]; simp
  obtain ⟨x, hx⟩ : ∃ x, l[k]? = some x := ⟨_, List.getElem?_eq_getElem (by omega)⟩
  have hpx : fldsX cs c = x.1.fields := by
   unfold fldsX
   rw [if_pos h1, show c.toNat - 65 = k from by omega, ← hm, List.getElem?_map, hx]
   rfl
  rw [hpx]
  obtain ⟨ao, cap, rfl⟩ := owns_len hO
  obtain ⟨g, rfl, hg1, hg2, hcell⟩ := owns_two hO (by omega)
  have q0 := hcell _ _ (xcCells_at0 hx)
  have q1 := hcell _ _ (xcCells_at1 hx)
  have hfx := hf x (List.mem_of_getElem? hx)
  obtain ⟨x1, x2⟩ := x
  obtain ⟨af, capf, hxv⟩ := owns_len hfx
  simp only at hxv q0 q1
  subst hxv
  have hkn : (k : Int) < (l.length : Int) := by omega
  have HC := hid hc
  clear hc h1 h2 h3 hpx hcell hm hf hx hln
  go_enter Tryz.func157, Tryz.ntmps157
  go_wp2_with fail
  refine HC.out.mono ?_
  rintro en w1 ⟨rfl, rfl⟩
  go_wp2_with fail
  go_ret
  exact ⟨rfl, rfl⟩
def tatX (l : List UInt8) (k : Nat) : UInt8 := if k < l.length then l.getD k 0 else 45
theorem btCells_at {l : List UInt8} {k : Nat} (h : k < l.length) : (btCells l)[k]? = some (.int .u8 (l.getD k 0).toNat) := by
 simp [btCells, List.getD, h]
theorem xtypeAt_any (ao : Option Addr) (cap : Nat) (l : List UInt8) (k : Nat) (w : World) (hB : BtB w 0 (.slice ao l.length cap) l) :
  Calls Tryz.prog 151 #[.slice ao l.length cap, .int .i64 k] w fun e w' => e = .returned (.int .u8 (tatX l k).toNat) ∧ w' = w := by
 have hk0 : ¬ (k : Int) < 0 := by omega
 by_cases hk : k < l.length
 ·rw [show tatX l k = l.getD k 0 from by unfold tatX; rw [if_pos hk]]
  obtain ⟨g, rfl, hg1, hg2, hcell⟩ := owns_two hB (by omega)
  have q := hcell _ _ (btCells_at hk)
  have hkn : ¬ (l.length : Int) ≤ (k : Int) := by omega
  have hkl : (k : Int) < (l.length : Int) := by omega
  revert q
  generalize l.getD k 0 = c
  intro q
  clear hcell hB
  go_enter Tryz.func151, Tryz.ntmps151
  go_wp2
  go_ret
  exact ⟨rfl, rfl⟩
 ·rw [show tatX l k = 45 from by unfold tatX; rw [if_neg hk]]
  have hkn : (l.length : Int) ≤ (k : Int) := by omega
  clear hB
  go_enter Tryz.func151, Tryz.ntmps151
  go_wp2
  go_ret
  exact ⟨rfl, rfl⟩
theorem xft_any (b : Nat) (cs : List XCls) (c : UInt8) (f : Nat) (w : World) (hn : cs.length ≤ 100) (hT : TxC w b cs) :
  Calls Tryz.prog 190 #[.pointer (some ⟨b, 0, none⟩), .int .u8 c.toNat, .int .i64 f] w fun e w' => e = .returned (.int .u8 (tatX (fldsX cs c) f).toNat) ∧ w' = w := by
 have hc := xcix_any b cs c w hn hT
 rcases cixX_cases cs.length c with ⟨h1, h2⟩ | ⟨h1, k, hk, h2, h3⟩
 ·rw [h2] at hc
  rw [show tatX (fldsX cs c) f = 45 from by unfold tatX fldsX; rw [h1]; simp]
  have HC := hid hc
  clear hc h1 h2
  go_enter Tryz.func190, Tryz.ntmps190
  go_wp2_with fail
  refine HC.out.mono ?_
  rintro en w1 ⟨rfl, rfl⟩
  go_wp2_with fail
  go_ret
  exact ⟨rfl, rfl⟩
 ·rw [h2] at hc
  obtain ⟨v0, l, h0, hl, hO, hm, hf⟩ := hT
  have hln : l.length = cs.length := by rw [← hm]; simp
  obtain ⟨x, hx⟩ : ∃ x, l[k]? = some x := ⟨_, List.getElem?_eq_getElem (by omega)⟩
  have hpx : fldsX cs c = x.1.fields := by
   unfold fldsX
   rw [if_pos h1, show c.toNat - 65 = k from by omega, ← hm, List.getElem?_map, hx]
   rfl
  rw [hpx]
  obtain ⟨ao, cap, rfl⟩ := owns_len hO
  obtain ⟨g, rfl, hg1, hg2, hcell⟩ := owns_two hO (by omega)
  have q0 := hcell _ _ (xcCells_at0 hx)
  have q1 := hcell _ _ (xcCells_at1 hx)
  have hfx := hf x (List.mem_of_getElem? hx)
  obtain ⟨x1, x2⟩ := x
  obtain ⟨af, capf, hxv⟩ := owns_len hfx
  simp only at hxv q0 q1 hfx
  subst hxv
  have hkn : (k : Int) < (l.length : Int) := by omega
  have HC := hid hc
  have HT := hid (xtypeAt_any af capf x1.fields f w hfx)
  clear hc h1 h2 h3 hpx hcell hm hf hx hln hfx
  go_enter Tryz.func190, Tryz.ntmps190
  go_wp2_with fail
  refine HC.out.mono ?_
  rintro en w1 ⟨rfl, rfl⟩
  go_wp2_with fail
  refine HT.out.mono ?_
  rintro en w1 ⟨rfl, rfl⟩
  go_wp2_with fail
  go_ret
  exact ⟨rfl, rfl⟩
def comesX (cs : List XCls) (anc : UInt8) : Nat → UInt8 → Bool
 | 0, _ => false
 | f + 1, c => if isLet cs.length c = false then false else if c = anc then true else comesX cs anc f (parX cs c)
theorem xcomes_any (b : Nat) (cs : List XCls) (a c : UInt8) (w : World) (hn : cs.length ≤ 100) (hT : TxC w b cs) :
  Calls Tryz.prog 207 #[.pointer (some ⟨b, 0, none⟩), .int .u8 a.toNat, .int .u8 c.toNat] w fun e w' => e = .returned (.bool (comesX cs c cs.length a)) ∧ w' = w := by
 obtain ⟨R, hRR⟩ : ∃ R, comesX cs c cs.length a = R := ⟨_, rfl⟩
 rw [hRR]
 have HRR := hid hRR
 clear hRR
 have hT' := hT
 obtain ⟨v0, l, h0, hl, hO, hm, hf⟩ := hT'
 obtain ⟨ao, cap, rfl⟩ := owns_len hO
 have hln : l.length = cs.length := by rw [← hm]; simp
 rw [hln] at h0
 clear hm hf hO hln
 obtain ⟨n, hnn⟩ : ∃ n, cs.length = n := ⟨_, rfl⟩
 have HN := hid hnn
 rw [hnn] at h0 hn
 clear hnn
 go_enter Tryz.func207, Tryz.ntmps207
 go_wp2_with fail
 rw [HN.out] at HRR
 go_loopg [7, 8] n (fun mm ls is wr => ∃ (x : UInt8) (k : Nat), ls = .int .u8 x.toNat ∧ is = .int .i64 k ∧ k ≤ n ∧ k + mm ≤ n ∧ n ≤ k + mm ∧ But (fun _ => False) w wr ∧ wr = w ∧ Hid (comesX cs c mm x = R))
 case atStart => exact ⟨a, 0, rfl, rfl, by omega, by omega, by omega, But.refl _ _, rfl, HRR.out⟩
 case round =>
  obtain ⟨x, k, rfl, rfl, hk1, hk2, hk3, _, hww, HA⟩ := hrel
  subst hww
  have hgk : gk = n - k := by omega
  rw [hgk] at HA
  clear hgk hk2
  by_cases hlt : k < n
  ·have hkn : (k : Int) < (n : Int) := by omega
   rw [show n - k = (n - (k + 1)) + 1 from by omega] at HA
   have hic := xisClass_any b cs x wr (by rw [HN.out]; exact hn) hT
   by_cases hl : isLet cs.length x = true
   ·rw [hl] at hic
    have HIC := hid hic
    have hA := HA.out
    simp only [comesX, hl, Bool.true_eq_false, if_false] at hA
    by_cases hxc : x = c
    ·rw [if_pos hxc] at hA
     have e : ((x.toNat : Int) == (c.toNat : Int)) = true := by rw [hxc]; simp
     have e2 : ((x.toNat : Int) = (c.toNat : Int)) := by rw [hxc]
     have E2 := hid e2
     subst hA
     clear hic hl hxc HA e2 HRR
     go_wp2_with fail
     refine HIC.out.mono ?_
     rintro en w1 ⟨rfl, rfl⟩
     go_wp2_with fail
     go_ret
     exact ⟨rfl, rfl⟩
    ·rw [if_neg hxc] at hA
     have e : ((x.toNat : Int) == (c.toNat : Int)) = false := by rw [beq_eq_false_iff_ne]; intro h; exact hxc (UInt8.toNat_inj.1 (by omega))
     have e2 : ¬ ((x.toNat : Int) = (c.toNat : Int)) := by simpa using e
     have HA1 := hid hA
     clear hic hl hxc HA hA HRR
     go_wp2_with fail
     refine HIC.out.mono ?_
     rintro en w1 ⟨rfl, rfl⟩
     go_wp2_with fail
     refine (xpar_any b cs x w1 (by rw [HN.out]; exact hn) hT).mono ?_
     rintro en w2 ⟨rfl, rfl⟩
     revert HA1
     generalize parX cs x = px
     intro HA1
     go_wp2_with fail
     go_roundg (n - (k + 1))
     case measure => omega
     case rel => exact ⟨px, k + 1, rfl, by simp, by omega, by omega, by omega, But.refl _ _, rfl, HA1.out⟩
   ·have hl' : isLet cs.length x = false := by simpa using hl
    rw [hl'] at hic
    have HIC := hid hic
    have hA := HA.out
    simp only [comesX, hl', if_true] at hA
    subst hA
    clear hic hl hl' HA HRR
    go_wp2_with fail
    refine HIC.out.mono ?_
    rintro en w1 ⟨rfl, rfl⟩
    go_wp2_with fail
    go_ret
    exact ⟨rfl, rfl⟩
  ·have hkn : ¬ (k : Int) < (n : Int) := by omega
   rw [show n - k = 0 from by omega] at HA
   have hA : false = R := HA.out
   subst hA
   clear HA HRR
   go_wp2_with fail
   go_ret
   exact ⟨rfl, rfl⟩
def fitsX (cs : List XCls) (a c : UInt8) : Bool :=
 if a = c ∨ c.toNat = 45 then true else if a.toNat = 122 then isLet cs.length c else comesX cs c cs.length a
theorem xfits_any (b : Nat) (cs : List XCls) (a c : UInt8) (w : World) (hn : cs.length ≤ 100) (hT : TxC w b cs) :
  Calls Tryz.prog 150 #[.pointer (some ⟨b, 0, none⟩), .int .u8 a.toNat, .int .u8 c.toNat] w fun e w' => e = .returned (.bool (fitsX cs a c)) ∧ w' = w := by
 by_cases h1 : a = c
 ·rw [show fitsX cs a c = true from by unfold fitsX; rw [if_pos (Or.inl h1)]]
  have e : ((a.toNat : Int) == (c.toNat : Int)) = true := by rw [h1]; simp
  clear h1
  go_enter Tryz.func150, Tryz.ntmps150
  go_wp2_with fail
  go_ret
  exact ⟨rfl, rfl⟩
 have e : ((a.toNat : Int) == (c.toNat : Int)) = false := by rw [beq_eq_false_iff_ne]; intro h; exact h1 (UInt8.toNat_inj.1 (by omega))
 by_cases h2 : c.toNat = 45
 ·rw [show fitsX cs a c = true from by unfold fitsX; rw [if_pos (Or.inr h2)]]
  have e2 : ((c.toNat : Int) == 45) = true := by rw [beq_iff_eq]; omega
  clear h1 h2
  go_enter Tryz.func150, Tryz.ntmps150
  go_wp2_with fail
  go_ret
  exact ⟨rfl, rfl⟩
 have e2 : ((c.toNat : Int) == 45) = false := by rw [beq_eq_false_iff_ne]; omega
 by_cases h3 : a.toNat = 122
 ·rw [show fitsX cs a c = isLet cs.length c from by unfold fitsX; rw [if_neg (not_or.2 ⟨h1, h2⟩), if_pos h3]]
  have e3 : ((a.toNat : Int) == 122) = true := by rw [beq_iff_eq]; omega
  clear h1 h2 h3
  go_enter Tryz.func150, Tryz.ntmps150
  go_wp2_with fail
  refine (xisClass_any b cs c w hn hT).mono ?_
  rintro en w1 ⟨rfl, rfl⟩
  go_wp2_with fail
  go_ret
  exact ⟨rfl, rfl⟩
 ·rw [show fitsX cs a c = comesX cs c cs.length a from by unfold fitsX; rw [if_neg (not_or.2 ⟨h1, h2⟩), if_neg h3]]
  have e3 : ((a.toNat : Int) == 122) = false := by rw [beq_eq_false_iff_ne]; omega
  clear h1 h2 h3
  go_enter Tryz.func150, Tryz.ntmps150
  go_wp2_with fail
  refine (xcomes_any b cs a c w hn hT).mono ?_
  rintro en w1 ⟨rfl, rfl⟩
  go_wp2_with fail
  go_ret
  exact ⟨rfl, rfl⟩
end Go.Proofs.YtpfkkmacakjmbaaGreatDoor
