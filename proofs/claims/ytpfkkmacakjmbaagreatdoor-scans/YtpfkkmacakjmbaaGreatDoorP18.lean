import Derived.Test.YtpfkkmacakjmbaaGreatDoorP17
set_option maxRecDepth 100000
set_option maxHeartbeats 6400000
namespace Go.Proofs.YtpfkkmacakjmbaaGreatDoor
open Go Go.RowKit Sp
set_option linter.unusedSimpArgs false
set_option linter.unusedVariables false
attribute [local go_sem ↓] Go.wp_at_zero Go.wp_at_succ
def sigB (s : ByteArray) (n i : Nat) (bad : Bool) : Except Nat (List Sig × Nat) := if bad = true then .error i else sigP s n 3 [] i
def SigC (s : ByteArray) (n : Nat) (R : Except Nat (List Sig × Nat)) (mm : Nat) (ms : List Sig) (j : Nat) (bad : Bool) : Prop :=
 (bad = false ∧ ms.length + mm = 3 ∧ sigP s n mm ms j = R) ∨ (bad = true ∧ R = .error j)
theorem SigC.fin {s : ByteArray} {n : Nat} {R : Except Nat (List Sig × Nat)} {mm : Nat} {ms : List Sig} {j : Nat} {bad : Bool} (h : SigC s n R mm ms j bad) (hx : bad = true ∨ ¬ ms.length < 3 ∨ pk s j = 59) :
  ((tkP s 59 j bad).2 = false ∧ R = .ok (ms, (tkP s 59 j bad).1)) ∨ ((tkP s 59 j bad).2 = true ∧ R = .error (tkP s 59 j bad).1) := by
 rcases h with ⟨rfl, h3, h4⟩ | ⟨rfl, h2⟩
 ·by_cases hp : pk s j = 59
  ·left
   rw [tkP_ok hp]
   refine ⟨rfl, ?_⟩
   rw [← h4]
   cases mm <;> simp [sigP, hp]
  ·right
   rw [tkP_no (Or.inr hp)]
   refine ⟨rfl, ?_⟩
   have hm : mm = 0 := by
    rcases hx with h | h | h
    ·cases h
    ·omega
    ·exact absurd h hp
   subst hm
   rw [← h4]
   have : (pk s j).toNat ≠ 59 := fun h => hp ((u8n (by decide)).1 h)
   simp [sigP, this]
 ·right
  rw [tkP_no (Or.inl rfl)]
  exact ⟨rfl, h2⟩
theorem tyX_ok {s : ByteArray} {n i : Nat} (h : isTy n (pk s i) = true) : tyX s n i false = (pk s i, i + 1, false) := by unfold tyX; rw [if_pos ⟨rfl, h⟩]
theorem tyX_no {s : ByteArray} {n i : Nat} {bad : Bool} (h : bad = true ∨ isTy n (pk s i) = false) : ∃ c, tyX s n i bad = (c, i, true) := by
 unfold tyX
 rw [if_neg]
 ·exact ⟨_, rfl⟩
 ·rintro ⟨h1, h2⟩
  rcases h with h | h
  ·rw [h] at h1; cases h1
  ·rw [h] at h2; cases h2
theorem SigC.next {s : ByteArray} {n : Nat} {R : Except Nat (List Sig × Nat)} {mm : Nat} {ms : List Sig} {j : Nat} (h : SigC s n R mm ms j false) (hl : ms.length < 3) (hp : pk s j ≠ 59) :
  ∃ m', m' < mm ∧ SigC s n R m' (ms ++ [⟨(tyX s n j false).1, (tyX s n (tyX s n j false).2.1 (tyX s n j false).2.2).1⟩])
   (tkP s 46 (tyX s n (tyX s n j false).2.1 (tyX s n j false).2.2).2.1 (tyX s n (tyX s n j false).2.1 (tyX s n j false).2.2).2.2).1
   (tkP s 46 (tyX s n (tyX s n j false).2.1 (tyX s n j false).2.2).2.1 (tyX s n (tyX s n j false).2.1 (tyX s n j false).2.2).2.2).2 := by
 rcases h with ⟨_, h3, h4⟩ | ⟨h, _⟩
 ·obtain ⟨f, rfl⟩ : ∃ f, mm = f + 1 := ⟨mm - 1, by omega⟩
  have hne : (pk s j).toNat ≠ 59 := fun h => hp ((u8n (by decide)).1 h)
  rw [sigP, if_neg hne] at h4
  unfold tyP byteP at h4
  cases h1 : isTy n (pk s j) with
  | false =>
   obtain ⟨c, hc⟩ := tyX_no (s := s) (n := n) (i := j) (bad := false) (Or.inr h1)
   obtain ⟨c2, hc2⟩ := tyX_no (s := s) (n := n) (i := j) (bad := true) (Or.inl rfl)
   rw [hc]
   simp only
   rw [hc2]
   simp only
   rw [tkP_no (Or.inl rfl)]
   rw [h1] at h4
   exact ⟨0, by omega, Or.inr ⟨rfl, h4.symm⟩⟩
  | true =>
   rw [tyX_ok h1]
   simp only
   rw [h1] at h4
   simp only [if_true] at h4
   cases h2 : isTy n (pk s (j + 1)) with
   | false =>
    obtain ⟨c2, hc2⟩ := tyX_no (s := s) (n := n) (i := j + 1) (bad := false) (Or.inr h2)
    rw [hc2]
    simp only
    rw [tkP_no (Or.inl rfl)]
    rw [h2] at h4
    exact ⟨0, by omega, Or.inr ⟨rfl, h4.symm⟩⟩
   | true =>
    rw [tyX_ok h2]
    simp only
    rw [h2] at h4
    simp only [if_true] at h4
    by_cases h5 : pk s (j + 1 + 1) = 46
    ·rw [tkP_ok h5]
     rw [if_pos h5] at h4
     exact ⟨f, by omega, Or.inl ⟨rfl, by simp; omega, h4⟩⟩
    ·rw [tkP_no (Or.inr h5)]
     rw [if_neg h5] at h4
     exact ⟨0, by omega, Or.inr ⟨rfl, h4.symm⟩⟩
 ·cases h
theorem info_xmet : (Tryz.prog.info? 243).map (fun i => (i.zero, i.size, i.bytes)) = some (some (.agg #[.int .u8 0, .int .u8 0]), 2, 2) := by kernel_rfl
theorem xreadMethods_any (b base : Nat) (s : ByteArray) (i : Nat) (bad : Bool) (a0 : Option Addr) (n cap0 : Nat) (v2 : RdV) (w : World) (hs : s.size ≤ 2000) (hn : n ≤ 4) (hR : XrB w b s i bad (.slice a0 n cap0) (.slice none 0 0) v2) (hb : b < base) (hbase : base ≤ w.heap.size) :
  Calls Tryz.prog 99 #[.pointer (some ⟨b, 0, none⟩)] w fun en w' => en = .returned (.tuple #[]) ∧ But (fun k => k = b) w w' ∧ ∃ v1 ms j bad', XrB w' b s j bad' (.slice a0 n cap0) v1 v2 ∧ TmV w' base v1 ms ∧ ms.length ≤ 3 ∧
   ((bad' = false ∧ sigB s n i bad = .ok (ms, j)) ∨ (bad' = true ∧ sigB s n i bad = .error j)) := by
 obtain ⟨R, hRR⟩ : ∃ R, sigB s n i bad = R := ⟨_, rfl⟩
 rw [hRR]
 have hst : SigC s n R 3 [] i bad := by
  unfold sigB at hRR
  cases bad with
  | true => exact Or.inr ⟨rfl, hRR.symm⟩
  | false => exact Or.inl ⟨rfl, rfl, hRR⟩
 have HST := hid hst
 clear hRR hst
 obtain ⟨i0, hi0, hz0, hz1, hz2⟩ := info_parts info_xmet
 have hbw := hR.lt
 go_enter Tryz.func99, Tryz.ntmps99
 go_wp2_with fail
 go_loopg [] 3 (fun mm wr => ∃ (ao : Option Addr) (cap j : Nat) (bad' : Bool) (ms : List Sig), ms.length ≤ 3 ∧ But (fun k => k = b) w wr ∧ XrB wr b s j bad' (.slice a0 n cap0) (.slice ao ms.length cap) v2 ∧ TmV wr w.heap.size (.slice ao ms.length cap) ms ∧ Hid (SigC s n R mm ms j bad'))
 case atStart => exact ⟨none, 0, i, bad, [], by simp, But.refl _ _, hR, owns_nil _ _ _ _, HST.out⟩
 case round =>
  obtain ⟨ao, cap, j, bad', ms, hcl, hBr, hRr, hMr, HC⟩ := hrel
  have h1 := hRr.c1
  have h0 := hRr.c0
  have hszr := hBr.size
  have hbr := hRr.lt
  have hfin : ∀ (w1 : World), But (fun _ => False) wr w1 → (bad' = true ∨ ¬ ms.length < 3 ∨ pk s j = 59) → ∀ (w2 : World), But (· = b) w1 w2 → XrB w2 b s (tkP s 59 j bad').1 (tkP s 59 j bad').2 (.slice a0 n cap0) (.slice ao ms.length cap) v2 →
    But (fun k => k = b) w w2 ∧ ∃ v1 ms j bad', XrB w2 b s j bad' (.slice a0 n cap0) v1 v2 ∧ TmV w2 base v1 ms ∧ ms.length ≤ 3 ∧ ((bad' = false ∧ R = .ok (ms, j)) ∨ (bad' = true ∧ R = .error j)) := by
   intro w1 h1 h2 w2 h3 h4
   have hB12 : But (· = b) wr w2 := (h1.mono (fun _ _ h => h.elim)).trans h3
   exact ⟨hBr.trans hB12, _, ms, _, _, h4, World.ownsRow.mono (hMr.but hB12 (fun g e cur _ _ hg h => by omega)) hbase, hcl, HC.out.fin h2⟩
  have HF := hid hfin
  clear hfin
  by_cases hlt : ms.length < 3
  ·have hlI : (ms.length : Int) < 3 := by omega
   by_cases hgo : bad' = false ∧ pk s j ≠ 59
   ·obtain ⟨rfl, hne⟩ := hgo
    have hbv : (!false && !decide (pk s j = 59)) = true := by simp [hne]
    have hbef := xbefore_any b s j false _ _ v2 wr 59 hRr
    rw [hbv] at hbef
    have HBF := hid hbef
    obtain ⟨m', hm', hC'⟩ := HC.out.next hlt hne
    have HC' := hid hC'
    clear hbv hbef hne HC HF hC'
    go_wp2_with fail
    refine HBF.out.mono ?_
    rintro en w1 ⟨rfl, m, rfl⟩
    go_wp2_with fail
    refine (xtype_any b s j false _ _ v2 (wr.drewN m) n hn hs (hRr.drewN m)).mono ?_
    rintro en w1 ⟨rfl, hB1, hR1⟩
    revert HC' hR1
    generalize tyX s n j false = Y1
    intro HC' hR1
    obtain ⟨c1, j1, bad1⟩ := Y1
    simp only at hR1
    go_wp2_with fail
    refine (xtype_any b s j1 bad1 _ _ v2 w1 n hn hs hR1).mono ?_
    rintro en w2 ⟨rfl, hB2, hR2⟩
    revert HC' hR2
    dsimp only
    generalize tyX s n j1 bad1 = Y2
    intro HC' hR2
    obtain ⟨c2, j2, bad2⟩ := Y2
    simp only at hR2
    go_wp2_with fail
    refine (xtake_any b s j2 bad2 _ _ v2 w2 46 (by decide) hs hR2).mono ?_
    rintro en W ⟨rfl, hB3, hRW⟩
    revert HC' hRW
    dsimp only
    generalize tkP s 46 j2 bad2 = Y3
    intro HC' hRW
    obtain ⟨j3, bad3⟩ := Y3
    simp only at hRW
    have hBrW : But (· = b) wr W := (((But.drewN _ _ _).trans hB1).trans hB2).trans hB3
    have hBW : But (· = b) w W := hBr.trans hBrW
    have hMW : W.ownsRow w.heap.size 243 2 (.slice ao ms.length cap) ms.length (sigCells ms) := hMr.but hBrW (fun g e cur _ _ hg h => by omega)
    have e1 := hRW.c1
    have g1 := hRW.fz 1
    have bltW := hRW.lt
    have ab : (Value.slice ao ms.length cap).ownBlock ≠ some b := fun h => by have := owns_ge hMW _ h; omega
    have hS0 : But (fun k => (Value.slice ao ms.length cap).ownBlock = some k) W W.drew := But.drew _ _
    have hbW := hBW.size
    clear h0 h1 hR1 hR2 hB1 hB2 hB3
    go_wp2_with (at_builtin; refine wpList_append_lies _ rfl _ _ _ rfl w.heap.size 243 i0 _ 2 2 (by kernel_rfl) hi0 hz0 hz1 hz2 rfl (by omega) _ ms.length (sigCells ms) rfl (hMW.alloc _) ⟨W.heap.size, 0, none⟩ 1 1 [.int .u8 c1.toNat, .int .u8 c2.toNat] rfl rfl (World.news_of_block (cs := #[.int .u8 c1.toNat, .int .u8 c2.toNat]) (t := 243) (fr := (0, 0)) (heap_alloc_new W _)) (by simp [Value.oneCell']) (by omega) (by unfold maxLen; omega) (by omega) (by simp; omega) (W.heap.size + 1) (by simp) ?_)
    intro gg cap2 w3 hown2 hgrow hat hlt2
    have hSW : But (fun k => (Value.slice ao ms.length cap).ownBlock = some k) W w3 := (But.alloc _ _ _).trans (but_grown hgrow)
    have y0 := (hSW.cell (p := ⟨b, 1, none⟩) bltW ab).trans e1
    have y1 := (hSW.frozen (p := ⟨b, 1, none⟩) bltW ab).trans g1
    have hgg := owns_ge hown2 gg rfl
    have hR3 := (hRW.but hSW ab).set1 (.slice (some ⟨gg, 0, none⟩) (ms.length + 1) cap2)
    have hB3 : But (· = b) w (w3.setCell ⟨b, 1, none⟩ (.slice (some ⟨gg, 0, none⟩) (ms.length + 1) cap2)) :=
     (hBW.next hSW (fun k hk h => by have := owns_ge hMW k h; omega)).trans (But.setB _ _ _ _)
    have hO3 := owns_but hown2 (But.setB w3 b 1 (.slice (some ⟨gg, 0, none⟩) (ms.length + 1) cap2)) (fun g hg h => by have := owns_ge hown2 g hg; omega)
    have hM3 : TmV (w3.setCell ⟨b, 1, none⟩ (.slice (some ⟨gg, 0, none⟩) (ms.length + 1) cap2)) w.heap.size (.slice (some ⟨gg, 0, none⟩) (ms ++ [Sig.mk c1 c2]).length cap2) (ms ++ [Sig.mk c1 c2]) := by
     unfold TmV
     rw [sigCells_snoc, List.length_append]
     exact hO3
    have hR4 : XrB (w3.setCell ⟨b, 1, none⟩ (.slice (some ⟨gg, 0, none⟩) (ms.length + 1) cap2)) b s j3 bad3 (.slice a0 n cap0) (.slice (some ⟨gg, 0, none⟩) (ms ++ [Sig.mk c1 c2]).length cap2) v2 := by
     rw [List.length_append]
     exact hR3
    have HR4 := hid hR4
    have HM3 := hid hM3
    have HB3 := hid hB3
    clear hO3 hR3 hR4 hM3 hB3 hSW hgrow hat hown2 e1 g1
    go_wp2_with fail
    go_roundg m'
    case measure => omega
    case rel => exact ⟨_, cap2, j3, bad3, ms ++ [Sig.mk c1 c2], by simp; omega, HB3.out, HR4.out, HM3.out, HC'.out⟩
   ·have hbv : (!bad' && !decide (pk s j = 59)) = false := by
     cases bad' with
     | true => rfl
     | false =>
      by_cases h : pk s j = 59
      ·simp [h]
      ·exact absurd ⟨rfl, h⟩ hgo
    have hx : bad' = true ∨ ¬ ms.length < 3 ∨ pk s j = 59 := by
     cases bad' with
     | true => exact Or.inl rfl
     | false =>
      right; right
      by_cases h : pk s j = 59
      ·exact h
      ·exact absurd ⟨rfl, h⟩ hgo
    have HX := hid hx
    have hbef := xbefore_any b s j bad' _ _ v2 wr 59 hRr
    rw [hbv] at hbef
    have HBF := hid hbef
    clear hbv hbef hx hgo HC
    go_wp2_with fail
    refine HBF.out.mono ?_
    rintro en w1 ⟨rfl, m, rfl⟩
    go_wp2_with fail
    refine (xtake_any b s j bad' _ _ v2 _ 59 (by decide) hs (hRr.drewN m)).mono ?_
    rintro en w2 ⟨rfl, hB2, hR2⟩
    go_wp2_with fail
    go_end0
    exact ⟨rfl, HF.out _ (But.drewN _ _ _) HX.out w2 hB2 hR2⟩
  ·have hlI : ¬ (ms.length : Int) < 3 := by omega
   go_wp2_with fail
   refine (xtake_any b s j bad' _ _ v2 _ 59 (by decide) hs hRr).mono ?_
   rintro en w2 ⟨rfl, hB2, hR2⟩
   go_wp2_with fail
   go_end0
   exact ⟨rfl, HF.out _ (But.refl _ _) (Or.inr (Or.inl hlt)) w2 hB2 hR2⟩
def TxB (w : World) (b : Nat) (bs : List XBod) : Prop :=
 ∃ v2, w.cell? ⟨b, 2, none⟩ = some v2 ∧ b < w.heap.size ∧ TbV w 0 v2 bs
theorem TxB.but {w w' : World} {b : Nat} {bs : List XBod} (h : TxB w b bs) (hb : But (fun _ => False) w w') : TxB w' b bs := by
 obtain ⟨v2, h0, hl, hT⟩ := h
 exact ⟨v2, (hb.cell (p := ⟨b, 2, none⟩) hl (fun h => h)).trans h0, Nat.lt_of_lt_of_le hl hb.size, hT.but hb (fun _ _ _ _ _ _ h => h)⟩
theorem TbV.mono {w : World} {base base' : Nat} {v : Value} {bs : List XBod} (h : TbV w base v bs) (hb : base' ≤ base) : TbV w base' v bs := by
 obtain ⟨l, h1, h2, h3⟩ := h
 exact ⟨l, h1.mono hb, h2, fun x hx => ⟨World.ownsRow.mono (h3 x hx).1 hb, World.ownsRow.mono (h3 x hx).2 hb⟩⟩
theorem TbV.tx {w : World} {base b : Nat} {v : Value} {bs : List XBod} (h : TbV w base v bs) (hc : w.cell? ⟨b, 2, none⟩ = some v) (hb : b < w.heap.size) : TxB w b bs :=
 ⟨v, hc, hb, h.mono (Nat.zero_le _)⟩
def ownF (bs : List XBod) (c : UInt8) (m : Nat) : Nat → Nat → Int
 | 0, _ => -1
 | f + 1, k => match bs[k]? with
  | some x => if x.cls = c ∧ x.meth = m then (k : Int) else ownF bs c m f (k + 1)
  | none => -1
theorem xownBody_any (b : Nat) (bs : List XBod) (c : UInt8) (m : Nat) (w : World) (hn : bs.length ≤ 100) (hT : TxB w b bs) :
  Calls Tryz.prog 221 #[.pointer (some ⟨b, 0, none⟩), .int .u8 c.toNat, .int .i64 m] w fun e w' => e = .returned (.int .i64 (ownF bs c m bs.length 0)) ∧ But (fun _ => False) w w' := by
 obtain ⟨v2, h0, hl, l, hO, hm, hf⟩ := hT
 obtain ⟨ao, cap, rfl⟩ := owns_len hO
 have hln : l.length = bs.length := by rw [← hm]; simp
 obtain ⟨R, hRR⟩ : ∃ R, ownF bs c m bs.length 0 = R := ⟨_, rfl⟩
 rw [hRR]
 rw [← hln] at hRR hn
 have HRR := hid hRR
 have HM := hid hm
 clear hRR hm hln hf
 go_enter Tryz.func221, Tryz.ntmps221
 go_wp2_with fail
 go_loopg [7] l.length (fun mm is wr => ∃ (k : Nat), is = .int .i64 k ∧ k ≤ l.length ∧ k + mm ≤ l.length ∧ l.length ≤ k + mm ∧ But (fun _ => False) w wr ∧ Hid (ownF bs c m mm k = R))
 case atStart => exact ⟨0, rfl, by omega, by omega, by omega, But.refl _ _, HRR.out⟩
 case round =>
  obtain ⟨k, rfl, hk1, hk2, hk3, hB, HA⟩ := hrel
  have hgk : gk = l.length - k := by omega
  rw [hgk] at HA
  clear hgk hk2
  have h2r := (hB.cell (p := ⟨b, 2, none⟩) hl (fun h => h)).trans h0
  by_cases hlt : k < l.length
  ·have hkn : (k : Int) < (l.length : Int) := by omega
   rw [show l.length - k = (l.length - (k + 1)) + 1 from by omega] at HA
   have hx := List.getElem?_eq_getElem hlt
   have hbx : bs[k]? = some l[k].1 := by rw [← HM.out, List.getElem?_map, hx]; rfl
   obtain ⟨g, hg, hg1, hg2, hcell⟩ := owns_two (owns_but hO hB (fun _ _ h => h)) (by omega)
   have q0 : wr.cell? ⟨g, k * 5, none⟩ = some (.int .u8 l[k].1.cls.toNat) := hcell _ _ (xbCells_at (k := 0) hx (by omega))
   have q1 : wr.cell? ⟨g, k * 5 + 1, none⟩ = some (.int .i64 l[k].1.meth) := hcell _ _ (xbCells_at (k := 1) hx (by omega))
   have hA := HA.out
   simp only [ownF, hbx] at hA
   revert q0 q1 hA
   generalize l[k].1 = X
   intro q0 q1 hA
   subst hg
   clear hx hbx hcell HA HRR
   by_cases h1 : X.cls = c
   ·have e1 : ((X.cls.toNat : Int) == (c.toNat : Int)) = true := by rw [h1]; simp
    by_cases h2 : X.meth = m
    ·have e2 : ((X.meth : Int) == (m : Int)) = true := by rw [h2]; simp
     rw [if_pos ⟨h1, h2⟩] at hA
     subst hA
     clear h1 h2
     go_wp2_with fail
     go_ret
     exact ⟨rfl, hB⟩
    ·have e2 : ((X.meth : Int) == (m : Int)) = false := by rw [beq_eq_false_iff_ne]; omega
     rw [if_neg (fun h => h2 h.2)] at hA
     have HA1 := hid hA
     clear h1 h2 hA
     go_wp2_with fail
     go_roundg (l.length - (k + 1))
     case measure => omega
     case rel => exact ⟨k + 1, by simp, by omega, by omega, by omega, hB, HA1.out⟩
   ·have e1 : ((X.cls.toNat : Int) == (c.toNat : Int)) = false := by rw [beq_eq_false_iff_ne]; intro h; exact h1 (UInt8.toNat_inj.1 (by omega))
    rw [if_neg (fun h => h1 h.1)] at hA
    have HA1 := hid hA
    clear h1 hA
    go_wp2_with fail
    go_roundg (l.length - (k + 1))
    case measure => omega
    case rel => exact ⟨k + 1, by simp, by omega, by omega, by omega, hB, HA1.out⟩
  ·have hkn : ¬ (k : Int) < (l.length : Int) := by omega
   rw [show l.length - k = 0 from by omega] at HA
   have hA : -1 = R := HA.out
   subst hA
   clear HA HRR
   go_wp2_with fail
   go_ret
   exact ⟨rfl, hB⟩
def bodyF (cs : List XCls) (bs : List XBod) (m : Nat) : Nat → UInt8 → Int
 | 0, _ => -1
 | f + 1, c => if c.toNat = 45 then -1 else if 0 ≤ ownF bs c m bs.length 0 then ownF bs c m bs.length 0 else bodyF cs bs m f (parX cs c)
theorem xbodyOf_any (b : Nat) (cs : List XCls) (bs : List XBod) (c : UInt8) (m : Nat) (w : World) (hn : cs.length ≤ 100) (hnb : bs.length ≤ 100) (hC : TxC w b cs) (hT : TxB w b bs) :
  Calls Tryz.prog 224 #[.pointer (some ⟨b, 0, none⟩), .int .u8 c.toNat, .int .i64 m] w fun e w' => e = .returned (.int .i64 (bodyF cs bs m cs.length c)) ∧ But (fun _ => False) w w' := by
 obtain ⟨R, hRR⟩ : ∃ R, bodyF cs bs m cs.length c = R := ⟨_, rfl⟩
 rw [hRR]
 have hC' := hC
 obtain ⟨v0, l, h0, hl, hO, hm, hf⟩ := hC'
 obtain ⟨ao, cap, rfl⟩ := owns_len hO
 have hln : l.length = cs.length := by rw [← hm]; simp
 rw [hln] at h0
 clear hm hf hO hln
 have HRR := hid hRR
 clear hRR
 obtain ⟨n, hnn⟩ : ∃ n, cs.length = n := ⟨_, rfl⟩
 have HN := hid hnn
 rw [hnn] at h0 hn
 rw [hnn] at HRR
 clear hnn
 go_enter Tryz.func224, Tryz.ntmps224
 go_wp2_with fail
 go_loopg [7, 8] n (fun mm ls is wr => ∃ (x : UInt8) (k : Nat), ls = .int .u8 x.toNat ∧ is = .int .i64 k ∧ k ≤ n ∧ k + mm ≤ n ∧ n ≤ k + mm ∧ But (fun _ => False) w wr ∧ Hid (bodyF cs bs m mm x = R))
 case atStart => exact ⟨c, 0, rfl, rfl, by omega, by omega, by omega, But.refl _ _, HRR.out⟩
 case round =>
  obtain ⟨x, k, rfl, rfl, hk1, hk2, hk3, hB, HA⟩ := hrel
  have hgk : gk = n - k := by omega
  rw [hgk] at HA
  clear hgk hk2
  have h0r := (hB.cell (p := ⟨b, 0, none⟩) hl (fun h => h)).trans h0
  clear HRR
  by_cases hlt : k < n
  ·have hkn : (k : Int) < (n : Int) := by omega
   rw [show n - k = (n - (k + 1)) + 1 from by omega] at HA
   have hA := HA.out
   simp only [bodyF] at hA
   clear HA
   by_cases h45 : x.toNat = 45
   ·rw [if_pos h45] at hA
    subst hA
    have e : ((x.toNat : Int) == 45) = true := by rw [beq_iff_eq]; omega
    have e' : ((x.toNat : Int) != 45) = false := by simp [bne, e]
    have e2 : (x.toNat : Int) = 45 := by omega
    have E2 := hid e2
    clear h45 e2
    go_wp2_with fail
    go_ret
    exact ⟨rfl, hB⟩
   ·rw [if_neg h45] at hA
    have e : ((x.toNat : Int) == 45) = false := by rw [beq_eq_false_iff_ne]; omega
    have e' : ((x.toNat : Int) != 45) = true := by simp [bne, e]
    have e2 : ¬ (x.toNat : Int) = 45 := by omega
    have how := xownBody_any b bs x m wr hnb (hT.but hB)
    revert how hA
    generalize ownF bs x m bs.length 0 = o
    intro hA how
    have HOW := hid how
    clear how h45
    by_cases ho : 0 ≤ o
    ·rw [if_pos ho] at hA
     subst hA
     go_wp2_with fail
     refine HOW.out.mono ?_
     rintro en w1 ⟨rfl, hB1⟩
     go_wp2_with fail
     go_ret
     exact ⟨rfl, hB.trans hB1⟩
    ·rw [if_neg ho] at hA
     have HA1 := hid hA
     clear hA
     go_wp2_with fail
     refine HOW.out.mono ?_
     rintro en w1 ⟨rfl, hB1⟩
     go_wp2_with fail
     refine (xpar_any b cs x w1 (by rw [HN.out]; exact hn) ((hC.but hB).but hB1)).mono ?_
     rintro en w2 ⟨rfl, hww⟩
     subst hww
     revert HA1
     generalize parX cs x = px
     intro HA1
     go_wp2_with fail
     go_roundg (n - (k + 1))
     case measure => omega
     case rel => exact ⟨px, k + 1, rfl, by simp, by omega, by omega, by omega, hB.trans hB1, HA1.out⟩
  ·have hkn : ¬ (k : Int) < (n : Int) := by omega
   rw [show n - k = 0 from by omega] at HA
   have hA : -1 = R := HA.out
   subst hA
   clear HA
   go_wp2_with fail
   go_ret
   exact ⟨rfl, hB⟩
def brokX (cs : List XCls) (bs : List XBod) (n : Nat) (x : XIt) : Bool :=
 if x.op.toNat = 106 ∨ x.op.toNat = 102 then decide (n ≤ x.num) else if x.op.toNat = 99 then decide (bodyF cs bs x.num cs.length x.cls < 0) else false
def itV (x : XIt) : Value := .agg #[.int .i64 x.place, .int .u8 x.op.toNat, .int .u8 x.cls.toNat, .int .i64 x.num, .slice x.pa x.pn x.pc]
theorem xisBroken_any (b : Nat) (cs : List XCls) (bs : List XBod) (x : XIt) (n : Nat) (w : World) (hn : cs.length ≤ 100) (hnb : bs.length ≤ 100) (hC : TxC w b cs) (hT : TxB w b bs) :
  Calls Tryz.prog 170 #[.pointer (some ⟨b, 0, none⟩), itV x, .int .i64 n] w fun e w' => e = .returned (.bool (brokX cs bs n x)) ∧ But (fun _ => False) w w' := by
 obtain ⟨pl, op, cl, nu, pa, pn, pc⟩ := x
 unfold itV
 by_cases h106 : op.toNat = 106
 ·have hc : op = 106 := UInt8.toNat_inj.1 h106
  subst hc
  rw [show brokX cs bs n ⟨pl, 106, cl, nu, pa, pn, pc⟩ = decide (n ≤ nu) from by simp [brokX]]
  by_cases hle : (n : Int) ≤ (nu : Int)
  ·rw [show decide (n ≤ nu) = true from by simp; omega]
   go_enter Tryz.func170, Tryz.ntmps170
   go_wp2_with fail
   go_ret
   exact ⟨rfl, But.alloc _ _ _⟩
  ·rw [show decide (n ≤ nu) = false from by simp; omega]
   go_enter Tryz.func170, Tryz.ntmps170
   go_wp2_with fail
   go_ret
   exact ⟨rfl, But.alloc _ _ _⟩
 by_cases h102 : op.toNat = 102
 ·have hc : op = 102 := UInt8.toNat_inj.1 h102
  subst hc
  rw [show brokX cs bs n ⟨pl, 102, cl, nu, pa, pn, pc⟩ = decide (n ≤ nu) from by simp [brokX]]
  by_cases hle : (n : Int) ≤ (nu : Int)
  ·rw [show decide (n ≤ nu) = true from by simp; omega]
   go_enter Tryz.func170, Tryz.ntmps170
   go_wp2_with fail
   go_ret
   exact ⟨rfl, But.alloc _ _ _⟩
  ·rw [show decide (n ≤ nu) = false from by simp; omega]
   go_enter Tryz.func170, Tryz.ntmps170
   go_wp2_with fail
   go_ret
   exact ⟨rfl, But.alloc _ _ _⟩
 by_cases h99 : op.toNat = 99
 ·have hc : op = 99 := UInt8.toNat_inj.1 h99
  subst hc
  rw [show brokX cs bs n ⟨pl, 99, cl, nu, pa, pn, pc⟩ = decide (bodyF cs bs nu cs.length cl < 0) from by simp [brokX]]
  have hbo := fun (wx : World) (h : But (fun _ => False) w wx) => xbodyOf_any b cs bs cl nu wx hn hnb (hC.but h) (hT.but h)
  revert hbo
  generalize bodyF cs bs nu cs.length cl = o
  intro hbo
  have HBO := hid hbo
  clear hbo
  go_enter Tryz.func170, Tryz.ntmps170
  go_wp2_with fail
  refine (HBO.out _ (But.alloc _ _ _)).mono ?_
  rintro en w1 ⟨rfl, hB1⟩
  go_wp2_with fail
  go_ret
  exact ⟨rfl, (But.alloc _ _ _).trans hB1⟩
 rw [show brokX cs bs n ⟨pl, op, cl, nu, pa, pn, pc⟩ = false from by simp [brokX, h106, h102, h99]]
 have e106 : ((op.toNat : Int) == 106) = false := by rw [beq_eq_false_iff_ne]; omega
 have e102 : ((op.toNat : Int) == 102) = false := by rw [beq_eq_false_iff_ne]; omega
 have e99 : ((op.toNat : Int) == 99) = false := by rw [beq_eq_false_iff_ne]; omega
 clear h106 h102 h99
 go_enter Tryz.func170, Tryz.ntmps170
 go_wp2_with fail
 go_ret
 exact ⟨rfl, But.alloc _ _ _⟩
def unlX (cs : List XCls) (bs : List XBod) (is : List XIt) : Option Nat := (is.find? (brokX cs bs is.length)).map (·.place)
def placeI : Option Nat → Int
 | some p => p
 | none => -1
theorem xbrokenLink_any (b : Nat) (cs : List XCls) (bs : List XBod) (w : World) (hn : cs.length ≤ 100) (hnb : bs.length ≤ 100) (hlen : ∀ x ∈ bs, x.items.length ≤ 1000) (hC : TxC w b cs) (hT : TxB w b bs) :
  Calls Tryz.prog 104 #[.pointer (some ⟨b, 0, none⟩)] w fun e w' => e = .returned (.int .i64 (placeI (bs.findSome? fun x => unlX cs bs x.items))) ∧ But (fun _ => False) w w' := by
 obtain ⟨R, hRR⟩ : ∃ R, (bs.findSome? fun x => unlX cs bs x.items) = R := ⟨_, rfl⟩
 rw [hRR]
 have HT := hid hT
 obtain ⟨v2, h0, hl, l, hO, hm, hf⟩ := hT
 obtain ⟨ao, cap, rfl⟩ := owns_len hO
 have hln : l.length = bs.length := by rw [← hm]; simp
 have HRR := hid hRR
 have HM := hid hm
 have HLN := hid hln
 have hnl : l.length ≤ 100 := by omega
 clear hRR hm hln
 go_enter Tryz.func104, Tryz.ntmps104
 go_wp2_with fail
 go_loopg [3] l.length (fun mm is wr => ∃ (k : Nat), is = .int .i64 k ∧ k ≤ l.length ∧ k + mm ≤ l.length ∧ l.length ≤ k + mm ∧ But (fun _ => False) w wr ∧ Hid (((bs.drop k).findSome? fun x => unlX cs bs x.items) = R))
 case atStart => exact ⟨0, rfl, by omega, by omega, by omega, But.refl _ _, HRR.out⟩
 case round =>
  obtain ⟨k, rfl, hk1, hk2, hk3, hB, HA⟩ := hrel
  clear hk2 HRR
  have h2r := (hB.cell (p := ⟨b, 2, none⟩) hl (fun h => h)).trans h0
  by_cases hlt : k < l.length
  ·have hkn : (k : Int) < (l.length : Int) := by omega
   have hx := List.getElem?_eq_getElem hlt
   have hbx : bs[k]? = some l[k].1 := by rw [← HM.out, List.getElem?_map, hx]; rfl
   have hdr : bs.drop k = l[k].1 :: bs.drop (k + 1) := by
    obtain ⟨h1, h2⟩ := List.getElem?_eq_some_iff.1 hbx
    rw [List.drop_eq_getElem_cons h1, h2]
   have HA1 : Hid ((unlX cs bs l[k].1.items = none → ((bs.drop (k + 1)).findSome? fun x => unlX cs bs x.items) = R) ∧ ∀ p, unlX cs bs l[k].1.items = some p → R = some p) := by
    have h := HA.out
    rw [hdr, List.findSome?_cons] at h
    refine hid ⟨fun h0 => ?_, fun p h0 => ?_⟩
    ·rw [h0] at h; exact h
    ·rw [h0] at h; exact h.symm
   have hil := hlen l[k].1 (List.mem_of_getElem? hbx)
   have hI := (hf l[k] (List.getElem_mem hlt)).2
   obtain ⟨g, hg, hg1, hg2, hcell⟩ := owns_two (owns_but hO hB (fun _ _ h => h)) (by omega)
   have q4 : wr.cell? ⟨g, k * 5 + 4, none⟩ = some l[k].2.2 := hcell _ _ (xbCells_at (k := 4) hx (by omega))
   clear hbx hdr hcell HA hx
   revert q4 HA1 hI hil
   generalize l[k] = X
   intro HA1 hil hI q4
   obtain ⟨X, vl, vi⟩ := X
   simp only at hI q4
   obtain ⟨ai, capi, hvi⟩ := owns_len hI
   subst hvi hg
   dsimp only at HA1 hil
   go_wp2_with fail
   go_loopg [5] X.items.length (fun mm is wr => ∃ (j : Nat), is = .int .i64 j ∧ j ≤ X.items.length ∧ j + mm ≤ X.items.length ∧ X.items.length ≤ j + mm ∧ But (fun _ => False) w wr ∧ Hid (((X.items.drop j).find? (brokX cs bs X.items.length)).map (·.place) = unlX cs bs X.items))
   case atStart => exact ⟨0, rfl, by omega, by omega, by omega, hB, rfl⟩
   case round =>
    rename_i wr0 _
    obtain ⟨j, rfl, hj1, hj2, hj3, hBj, HJ⟩ := hrel
    clear hj2 q4 h2r
    by_cases hjt : j < X.items.length
    ·have hjn : (j : Int) < (X.items.length : Int) := by omega
     have hy := List.getElem?_eq_getElem hjt
     obtain ⟨gi, hgi, hgi1, hgi2, hcelli⟩ := owns_two (owns_but hI hBj (fun _ _ h => h)) (by omega)
     have p0 := hcelli _ _ (itCells_at (k := 0) hy (by omega))
     have p1 := hcelli _ _ (itCells_at (k := 1) hy (by omega))
     have p2 := hcelli _ _ (itCells_at (k := 2) hy (by omega))
     have p3 := hcelli _ _ (itCells_at (k := 3) hy (by omega))
     have p5 := hcelli _ _ (itCells_at (k := 4) hy (by omega))
     have HJ1 : Hid ((brokX cs bs X.items.length X.items[j] = true → unlX cs bs X.items = some X.items[j].place) ∧ (brokX cs bs X.items.length X.items[j] = false → ((X.items.drop (j + 1)).find? (brokX cs bs X.items.length)).map (·.place) = unlX cs bs X.items)) := by
      have h := HJ.out
      rw [List.drop_eq_getElem_cons hjt, List.find?_cons] at h
      refine hid ⟨fun h0 => ?_, fun h0 => ?_⟩
      ·rw [h0] at h; exact h.symm
      ·rw [h0] at h; exact h
     subst hgi
     clear hcelli HJ hy
     revert p0 p1 p2 p3 p5 HJ1
     generalize X.items[j] = Y
     intro p0 p1 p2 p3 p5 HJ1
     simp only [Nat.add_zero] at p0
     have p0' : _ = some (Value.int .i64 Y.place) := p0
     have p1' : _ = some (Value.int .u8 Y.op.toNat) := p1
     have p2' : _ = some (Value.int .u8 Y.cls.toNat) := p2
     have p3' : _ = some (Value.int .i64 Y.num) := p3
     have p5' : _ = some (Value.slice Y.pa Y.pn Y.pc) := p5
     clear p0 p1 p2 p3 p5
     have hib := fun (wx : World) (h : But (fun _ => False) w wx) => xisBroken_any b cs bs Y X.items.length wx hn hnb (hC.but h) (HT.out.but h)
     unfold itV at hib
     have HIB := hid hib
     clear hib
     go_wp2_with fail
     refine (HIB.out _ hBj).mono ?_
     rintro en w1 ⟨rfl, hB1⟩
     have hBw1 := hBj.trans hB1
     have p4' := (hB1.cell (p := ⟨gi, j * 5, none⟩) hgi1 (fun h => h)).trans p0'
     revert HJ1
     cases brokX cs bs X.items.length Y with
     | true =>
      intro HJ1
      have hR := HA1.out.2 _ (HJ1.out.1 rfl)
      subst hR
      clear HA1 HJ1
      go_wp2_with fail
      go_ret
      exact ⟨rfl, hBw1⟩
     | false =>
      intro HJ1
      have HJ2 := hid (HJ1.out.2 rfl)
      clear HJ1
      go_wp2_with fail
      go_roundg (X.items.length - (j + 1))
      case measure => omega
      case rel => exact ⟨j + 1, by simp, by omega, by omega, by omega, hBw1, HJ2.out⟩
    ·have hjn : ¬ (j : Int) < (X.items.length : Int) := by omega
     have hR := HJ.out
     rw [List.drop_of_length_le (by omega)] at hR
     have HR := hid (HA1.out.1 hR.symm)
     clear hR HA1 HJ
     go_wp2_with fail
     go_roundg (l.length - (k + 1))
     case measure => omega
     case rel => exact ⟨k + 1, by simp, by omega, by omega, by omega, hBj, HR.out⟩
  ·have hkn : ¬ (k : Int) < (l.length : Int) := by omega
   have hA := HA.out
   have hlb := HLN.out
   rw [List.drop_of_length_le (by omega)] at hA
   have hA : none = R := hA
   subst hA
   clear HA
   go_wp2_with fail
   go_ret
   exact ⟨rfl, hB⟩
theorem xrefuse_all (b : Nat) (s : ByteArray) (i : Nat) (bad : Bool) (v0 v1 : Value) (v2 : RdV) (w : World) (j : Nat) (hR : XrB w b s i bad v0 v1 v2) :
  Calls Tryz.prog 201 #[.pointer (some ⟨b, 0, none⟩), .int .i64 j] w fun e w' => e = .returned (.tuple #[]) ∧ But (· = b) w w' ∧ XrB w' b s (if bad = true then i else j) true v0 v1 v2 := by
 cases bad with
 | true => exact xrefuse_bad b s i v0 v1 v2 w j hR
 | false => exact xrefuse_ok b s i v0 v1 v2 w j hR
def put5 (w : World) (g : Nat) (x0 x1 x2 x3 x4 : Value) : World := ((((w.setCell ⟨g, 0, none⟩ x0).setCell ⟨g, 1, none⟩ x1).setCell ⟨g, 2, none⟩ x2).setCell ⟨g, 3, none⟩ x3).setCell ⟨g, 4, none⟩ x4
theorem put5_heap {w : World} {g t : Nat} {a0 a1 a2 a3 a4 : Value} (h : w.heap[g]? = some (.cells #[a0, a1, a2, a3, a4] t)) (x0 x1 x2 x3 x4 : Value) : (put5 w g x0 x1 x2 x3 x4).heap[g]? = some (.cells #[x0, x1, x2, x3, x4] t) := by
 have h1 := heap_setCell_same w g 0 _ _ x0 h
 have h2 := heap_setCell_same _ g 1 _ _ x1 h1
 have h3 := heap_setCell_same _ g 2 _ _ x2 h2
 have h4 := heap_setCell_same _ g 3 _ _ x3 h3
 exact heap_setCell_same _ g 4 _ _ x4 h4
theorem put5_but (w : World) (g : Nat) (x0 x1 x2 x3 x4 : Value) : But (· = g) w (put5 w g x0 x1 x2 x3 x4) :=
 ((((But.setB w g 0 x0).trans (But.setB _ g 1 x1)).trans (But.setB _ g 2 x2)).trans (But.setB _ g 3 x3)).trans (But.setB _ g 4 x4)
theorem row5 {w : World} {g t : Nat} {x0 x1 x2 x3 x4 : Value} (h : w.heap[g]? = some (.cells #[x0, x1, x2, x3, x4] t)) :
  w.cell? ⟨g, 0, none⟩ = some x0 ∧ w.cell? ⟨g, 1, none⟩ = some x1 ∧ w.cell? ⟨g, 2, none⟩ = some x2 ∧ w.cell? ⟨g, 3, none⟩ = some x3 ∧ w.cell? ⟨g, 4, none⟩ = some x4 := by
 refine ⟨?_, ?_, ?_, ?_, ?_⟩
 ·rw [cell_of_row w g 0 _ _ (0, 0) h]; rfl
 ·rw [cell_of_row w g 1 _ _ (0, 0) h]; rfl
 ·rw [cell_of_row w g 2 _ _ (0, 0) h]; rfl
 ·rw [cell_of_row w g 3 _ _ (0, 0) h]; rfl
 ·rw [cell_of_row w g 4 _ _ (0, 0) h]; rfl
def hdV (c : UInt8) (m : Nat) (r : UInt8) (vl vi : Value) : Value := .agg #[.int .u8 c.toNat, .int .i64 m, .int .u8 r.toNat, vl, vi]
theorem xmainHead_any (b : Nat) (s : ByteArray) (i : Nat) (bad : Bool) (a0 : Option Addr) (n cap0 : Nat) (v1 : Value) (v2 : RdV) (w : World) (hn : n ≤ 4) (hs : s.size ≤ 2000) (hR : XrB w b s i bad (.slice a0 n cap0) v1 v2) :
  Calls Tryz.prog 168 #[.pointer (some ⟨b, 0, none⟩)] w fun en w' => But (· = b) w w' ∧ ∃ ao cap l j bad', en = .returned (hdV 45 0 105 (.slice ao (List.length l) cap) (.slice none 0 0)) ∧ XrB w' b s j bad' (.slice a0 n cap0) v1 v2 ∧ BtB w' w.heap.size (.slice ao l.length cap) l ∧ l.length ≤ 3 ∧
   ((bad' = false ∧ tysB s n 58 3 i bad = .ok (l, j)) ∨ (bad' = true ∧ tysB s n 58 3 i bad = .error j)) := by
 have hbw := hR.lt
 go_enter Tryz.func168, Tryz.ntmps168
 have h0 := hR.c0
 go_wp2_with fail
 have hB0 : But (· = b) w (w.alloc (Obj.cells #[Value.int IntKind.u8 0, Value.int IntKind.i64 0, Value.int IntKind.u8 0, Value.slice none 0 0, Value.slice none 0 0] 115)) := But.alloc _ _ _
 have hR0 : XrB (w.alloc (Obj.cells #[Value.int IntKind.u8 0, Value.int IntKind.i64 0, Value.int IntKind.u8 0, Value.slice none 0 0, Value.slice none 0 0] 115)) b s i bad (.slice a0 n cap0) v1 v2 := hR.but (But.alloc (fun _ => False) _ _) (fun h => h)
 have hg0 := heap_alloc_new w (Obj.cells #[Value.int IntKind.u8 0, Value.int IntKind.i64 0, Value.int IntKind.u8 0, Value.slice none 0 0, Value.slice none 0 0] 115)
 clear h0
 revert hB0 hR0 hg0
 generalize (w.alloc (Obj.cells #[Value.int IntKind.u8 0, Value.int IntKind.i64 0, Value.int IntKind.u8 0, Value.slice none 0 0, Value.slice none 0 0] 115)) = W0
 intro hB0 hR0 hg0
 refine (xtypes_all b s i bad _ v1 v2 W0 3 n 58 (by decide) (by omega) hn hs hR0).mono ?_
 rintro en w2 ⟨hB2, ao2, cap2, l, j2, bad2, rfl, hR2, hO2, hl2, hT2⟩
 have HT2 := hid hT2
 have hs0 := hB0.size
 have hgl := lt_of_block hg0
 have hg2 := (hB2.block w.heap.size (by omega) (by omega)).trans hg0
 obtain ⟨q0, q1, q2, q3, q4⟩ := row5 hg2
 have f0 : w2.frozen? ⟨w.heap.size, 0, none⟩ = false := frozen_of_row w2 w.heap.size 0 _ _ hg2
 have f1 : w2.frozen? ⟨w.heap.size, 1, none⟩ = false := frozen_of_row w2 w.heap.size 1 _ _ hg2
 have f2 : w2.frozen? ⟨w.heap.size, 2, none⟩ = false := frozen_of_row w2 w.heap.size 2 _ _ hg2
 have f3 : w2.frozen? ⟨w.heap.size, 3, none⟩ = false := frozen_of_row w2 w.heap.size 3 _ _ hg2
 have f4 : w2.frozen? ⟨w.heap.size, 4, none⟩ = false := frozen_of_row w2 w.heap.size 4 _ _ hg2
 have HG2 := hid hg2
 clear hT2 hg2 hg0
 go_wp2_with fail
 have h6b := put5_heap HG2.out (.int .u8 45) (.int .i64 0) (.int .u8 105) (.slice ao2 l.length cap2) (.slice none 0 0)
 have hB6 := put5_but w2 w.heap.size (.int .u8 45) (.int .i64 0) (.int .u8 105) (.slice ao2 l.length cap2) (.slice none 0 0)
 unfold put5 at h6b hB6
 revert h6b hB6
 generalize ((((w2.setCell ⟨w.heap.size, 0, none⟩ (.int .u8 45)).setCell ⟨w.heap.size, 1, none⟩ (.int .i64 0)).setCell ⟨w.heap.size, 2, none⟩ (.int .u8 105)).setCell ⟨w.heap.size, 3, none⟩ (.slice ao2 l.length cap2)).setCell ⟨w.heap.size, 4, none⟩ (.slice none 0 0) = w6
 intro h6b hB6
 obtain ⟨r0, r1, r2, r3, r4⟩ := row5 h6b
 exact bodyPost_ret (v := hdV 45 0 105 (.slice ao2 l.length cap2) (.slice none 0 0)) (by simp [hdV, results, Tryz.results168, go_sem, r0, r1, r2, r3, r4]) rfl
  ⟨((hB0.trans hB2).next hB6 (fun k hk h => by omega)), ao2, cap2, l, j2, bad2, rfl, hR2.but hB6 (by omega), BtB.but (World.ownsRow.mono hO2 (by omega)) hB6 (fun g hg h => by have := owns_ge hO2 g hg; omega), hl2, HT2.out⟩
end Go.Proofs.YtpfkkmacakjmbaaGreatDoor
