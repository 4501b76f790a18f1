import Derived.Test.YtpfkkmacakjmbaaGreatDoorP01
namespace Go.Proofs.YtpfkkmacakjmbaaGreatDoor
open Go Go.RowKit Sp
set_option linter.unusedSimpArgs false
set_option linter.unusedVariables false
section
variable (b : Nat) (s : ByteArray) (i : Nat) (bad src : Bool) (bi : Nat) (vc vt : Value) (w : World)
set_option maxHeartbeats 400000 in
theorem peek_any (_hs : s.size ≤ 2000) (hR : RdB w b s i bad src bi vc vt) :
  Calls Tryz.prog 127 #[.pointer (some ⟨b, 0, none⟩)] w fun e w' => e = .returned (.int .u8 (pk s i).toNat) ∧ ∃ n, w' = w.drewN n := by
 have h0 := hR.c0
 have h1 := hR.c1
 clear hR
 by_cases hi : (i : Int) < (s.size : Int)
 ·have hp : pk s i = s[i]'(by omega) := by unfold pk; rw [dif_pos (by omega)]
  rw [hp]; clear hp
  go_enter Tryz.func127, Tryz.ntmps127
  go_wp2
  go_quiet (fail)
  go_wp2
  go_quiet (fail)
  go_wp2
  go_ret
  exact ⟨rfl, _, World.drewN_drewN _ _ _⟩
 ·have hp : pk s i = 0 := by unfold pk; rw [dif_neg (by omega)]
  rw [hp]; clear hp
  go_enter Tryz.func127, Tryz.ntmps127
  go_wp2
  go_quiet (fail)
  go_wp2
  go_ret
  exact ⟨rfl, _, rfl⟩
set_option maxHeartbeats 400000 in
theorem eat_ok (c : UInt8) (hs : s.size ≤ 2000) (hR : RdB w b s i bad src bi vc vt) (hc0 : 0 < c.toNat) (hc : pk s i = c) :
  Calls Tryz.prog 130 #[.pointer (some ⟨b, 0, none⟩), .int .u8 c.toNat] w fun e w' => e = .returned (.tuple #[]) ∧ But (· = b) w w' ∧ RdB w' b s (i + 1) bad src bi vc vt := by
 have h1 := hR.c1
 have f1 := hR.fz 1
 have hi : i < s.size := pk_lt (hc ▸ hc0)
 have HC : Hid (pk s i = c) := hc
 clear hc
 go_enter Tryz.func130, Tryz.ntmps130
 go_wp2_with (go_at_call 127; refine (peek_any b s i bad src bi vc vt _ hs hR).mono ?_; rw [HC.out]; rintro e w' ⟨rfl, n, rfl⟩)
 go_end0
 exact ⟨rfl, (But.drewN _ _ _).trans (But.setB _ _ _ _), by simpa using (hR.drewN n).set1 (i + 1)⟩
set_option maxHeartbeats 400000 in
theorem eat_err (c : UInt8) (hs : s.size ≤ 2000) (hR : RdB w b s i bad src bi vc vt) (hc : pk s i ≠ c) :
  Calls Tryz.prog 130 #[.pointer (some ⟨b, 0, none⟩), .int .u8 c.toNat] w fun e w' => e = .returned (.tuple #[]) ∧ But (· = b) w w' ∧ RdB w' b s i true src bi vc vt := by
 have h2 := hR.c2
 have f2 := hR.fz 2
 have hne : (((pk s i).toNat : Int) == (c.toNat : Int)) = false := by
  rw [beq_eq_false_iff_ne]; intro h; exact hc (UInt8.toNat_inj.1 (by omega))
 have hne' : (((pk s i).toNat : Int) != (c.toNat : Int)) = true := by simp [bne, hne]
 have hne2 : ¬ (((pk s i).toNat : Int) = (c.toNat : Int)) := by simpa using hne
 clear hc
 go_enter Tryz.func130, Tryz.ntmps130
 go_wp2_with (go_at_call 127; refine (peek_any b s i bad src bi vc vt _ hs hR).mono ?_; rintro e w' ⟨rfl, n, rfl⟩)
 go_end0
 exact ⟨rfl, (But.drewN _ _ _).trans (But.setB _ _ _ _), (hR.drewN n).set2 true⟩
theorem isDig_iff {n : Nat} {c : UInt8} : isDig n c = true ↔ 48 ≤ c.toNat ∧ c.toNat ≤ 57 ∧ c.toNat < 48 + n := by simp [isDig, and_assoc]
theorem isLet_iff {n : Nat} {c : UInt8} : isLet n c = true ↔ 65 ≤ c.toNat ∧ c.toNat < 65 + n := by simp [isLet]
theorem isTy_iff {n : Nat} {c : UInt8} : isTy n c = true ↔ c.toNat = 105 ∨ (65 ≤ c.toNat ∧ c.toNat < 65 + n) := by simp [isTy, isLet]
set_option maxHeartbeats 400000 in
theorem digit_ok (n : Nat) (hs : s.size ≤ 2000) (hR : RdB w b s i bad src bi vc vt) (hd : isDig n (pk s i) = true) :
  Calls Tryz.prog 131 #[.pointer (some ⟨b, 0, none⟩), .int .i64 n] w fun e w' => e = .returned (.int .i64 (((pk s i).toNat - 48 : Nat) : Int)) ∧ But (· = b) w w' ∧ RdB w' b s (i + 1) bad src bi vc vt := by
 have h1 := hR.c1
 have f1 := hR.fz 1
 obtain ⟨d1, d2, d3⟩ := isDig_iff.1 hd
 have hi : i < s.size := pk_lt (by omega)
 clear hd
 obtain ⟨m, hm⟩ : ∃ m : Nat, (pk s i).toNat = m := ⟨_, rfl⟩
 rw [hm] at d1 d2 d3 ⊢
 have HM : Hid ((pk s i).toNat = m) := hm
 clear hm
 have e1 : (48 : Int) ≤ m := by omega
 have e2 : (m : Int) ≤ 57 := by omega
 have e3 : (m : Int) - 48 < n := by omega
 go_enter Tryz.func131, Tryz.ntmps131
 go_wp2_with (go_at_call 127; refine (peek_any b s i bad src bi vc vt _ hs hR).mono ?_; rw [HM.out]; rintro e w' ⟨rfl, k, rfl⟩)
 go_ret
 exact ⟨ret_int (by omega), (But.drewN _ _ _).trans (But.setB _ _ _ _), by simpa using (hR.drewN k).set1 (i + 1)⟩
set_option maxHeartbeats 400000 in
theorem digit_err (n : Nat) (hs : s.size ≤ 2000) (hR : RdB w b s i bad src bi vc vt) (hd : isDig n (pk s i) = false) :
  Calls Tryz.prog 131 #[.pointer (some ⟨b, 0, none⟩), .int .i64 n] w fun e w' => e = .returned (.int .i64 0) ∧ But (· = b) w w' ∧ RdB w' b s i true src bi vc vt := by
 have h2 := hR.c2
 have f2 := hR.fz 2
 have hd' : ¬ (48 ≤ (pk s i).toNat ∧ (pk s i).toNat ≤ 57 ∧ (pk s i).toNat < 48 + n) := fun h => by rw [isDig_iff.2 h] at hd; cases hd
 clear hd
 have hb := (pk s i).toNat_lt
 obtain ⟨m, hm⟩ : ∃ m : Nat, (pk s i).toNat = m := ⟨_, rfl⟩
 rw [hm] at hd' hb
 have HM : Hid ((pk s i).toNat = m) := hm
 clear hm
 have e0 : (m : Int) < 256 := by omega
 have hcase : (m : Int) < 48 ∨ (48 ≤ (m : Int) ∧ (57 : Int) < m) ∨ (48 ≤ (m : Int) ∧ (m : Int) ≤ 57 ∧ (n : Int) ≤ (m : Int) - 48) := by omega
 clear hd' hb
 rcases hcase with e1 | ⟨e1, e2⟩ | ⟨e1, e2, e3⟩
 all_goals
  go_enter Tryz.func131, Tryz.ntmps131
  go_wp2_with (go_at_call 127; refine (peek_any b s i bad src bi vc vt _ hs hR).mono ?_; rw [HM.out]; rintro e w' ⟨rfl, k, rfl⟩)
  go_ret
  exact ⟨rfl, (But.drewN _ _ _).trans (But.setB _ _ _ _), (hR.drewN k).set2 true⟩
set_option maxHeartbeats 400000 in
theorem class_ok (n : Nat) (hs : s.size ≤ 2000) (hn : n ≤ 4) (hR : RdB w b s i bad src bi vc vt) (hd : isLet n (pk s i) = true) :
  Calls Tryz.prog 128 #[.pointer (some ⟨b, 0, none⟩), .int .i64 n] w fun e w' => e = .returned (.int .i64 (((pk s i).toNat - 65 : Nat) : Int)) ∧ But (· = b) w w' ∧ RdB w' b s (i + 1) bad src bi vc vt := by
 have h1 := hR.c1
 have f1 := hR.fz 1
 obtain ⟨d1, d3⟩ := isLet_iff.1 hd
 have hi : i < s.size := pk_lt (by omega)
 clear hd
 obtain ⟨m, hm⟩ : ∃ m : Nat, (pk s i).toNat = m := ⟨_, rfl⟩
 rw [hm] at d1 d3 ⊢
 have HM : Hid ((pk s i).toNat = m) := hm
 clear hm
 have e1 : (65 : Int) ≤ m := by omega
 have e2 : (m : Int) ≤ 68 := by omega
 have e3 : (m : Int) - 65 < n := by omega
 go_enter Tryz.func128, Tryz.ntmps128
 go_wp2_with (go_at_call 127; refine (peek_any b s i bad src bi vc vt _ hs hR).mono ?_; rw [HM.out]; rintro e w' ⟨rfl, k, rfl⟩)
 go_ret
 exact ⟨ret_int (by omega), (But.drewN _ _ _).trans (But.setB _ _ _ _), by simpa using (hR.drewN k).set1 (i + 1)⟩
set_option maxHeartbeats 400000 in
theorem class_err (n : Nat) (hs : s.size ≤ 2000) (hR : RdB w b s i bad src bi vc vt) (hd : isLet n (pk s i) = false) :
  Calls Tryz.prog 128 #[.pointer (some ⟨b, 0, none⟩), .int .i64 n] w fun e w' => e = .returned (.int .i64 0) ∧ But (· = b) w w' ∧ RdB w' b s i true src bi vc vt := by
 have h2 := hR.c2
 have f2 := hR.fz 2
 have hd' : ¬ (65 ≤ (pk s i).toNat ∧ (pk s i).toNat < 65 + n) := fun h => by rw [isLet_iff.2 h] at hd; cases hd
 clear hd
 have hb := (pk s i).toNat_lt
 obtain ⟨m, hm⟩ : ∃ m : Nat, (pk s i).toNat = m := ⟨_, rfl⟩
 rw [hm] at hd' hb
 have HM : Hid ((pk s i).toNat = m) := hm
 clear hm
 have e0 : (m : Int) < 256 := by omega
 have hcase : (m : Int) < 65 ∨ (65 ≤ (m : Int) ∧ (68 : Int) < m) ∨ (65 ≤ (m : Int) ∧ (m : Int) ≤ 68 ∧ (n : Int) ≤ (m : Int) - 65) := by omega
 clear hd' hb
 rcases hcase with e1 | ⟨e1, e2⟩ | ⟨e1, e2, e3⟩
 all_goals
  go_enter Tryz.func128, Tryz.ntmps128
  go_wp2_with (go_at_call 127; refine (peek_any b s i bad src bi vc vt _ hs hR).mono ?_; rw [HM.out]; rintro e w' ⟨rfl, k, rfl⟩)
  go_ret
  exact ⟨rfl, (But.drewN _ _ _).trans (But.setB _ _ _ _), (hR.drewN k).set2 true⟩
theorem eat_call (cc : Int) (c : UInt8) (hcc : cc = c.toNat) (hs : s.size ≤ 2000) (hR : RdB w b s i false src bi vc vt) (hc0 : 0 < c.toNat) :
  Calls Tryz.prog 130 #[.pointer (some ⟨b, 0, none⟩), .int .u8 cc] w fun e w' => e = .returned (.tuple #[]) ∧ But (· = b) w w' ∧
   ∃ j bad, RdB w' b s j bad src bi vc vt ∧ ((bad = false ∧ byteP s c i = .ok j) ∨ (bad = true ∧ byteP s c i = .error j)) := by
 subst hcc
 by_cases h : pk s i = c
 ·refine (eat_ok b s i false src bi vc vt w c hs hR hc0 h).mono ?_
  rintro e w' ⟨rfl, h1, h2⟩
  exact ⟨rfl, h1, i + 1, false, h2, Or.inl ⟨rfl, by simp [byteP, h]⟩⟩
 ·refine (eat_err b s i false src bi vc vt w c hs hR h).mono ?_
  rintro e w' ⟨rfl, h1, h2⟩
  exact ⟨rfl, h1, i, true, h2, Or.inr ⟨rfl, by simp [byteP, h]⟩⟩
theorem digit_call (nn : Int) (n : Nat) (hnn : nn = n) (hs : s.size ≤ 2000) (hR : RdB w b s i false src bi vc vt) :
  Calls Tryz.prog 131 #[.pointer (some ⟨b, 0, none⟩), .int .i64 nn] w fun e w' => But (· = b) w w' ∧
   ∃ v j bad, e = .returned (.int .i64 v) ∧ RdB w' b s j bad src bi vc vt ∧ ((bad = false ∧ ∃ d : Nat, v = d ∧ d < 10 ∧ digP s n i = .ok (d, j)) ∨ (bad = true ∧ digP s n i = .error j)) := by
 subst hnn
 cases h : isDig n (pk s i) with
 | true =>
  refine (digit_ok b s i false src bi vc vt w n hs hR h).mono ?_
  rintro e w' ⟨rfl, h1, h2⟩
  have := isDig_iff.1 h
  exact ⟨h1, _, i + 1, false, rfl, h2, Or.inl ⟨rfl, _, rfl, by omega, by simp [digP, h]⟩⟩
 | false =>
  refine (digit_err b s i false src bi vc vt w n hs hR h).mono ?_
  rintro e w' ⟨rfl, h1, h2⟩
  exact ⟨h1, _, i, true, rfl, h2, Or.inr ⟨rfl, by simp [digP, h]⟩⟩
theorem class_call (nn : Int) (n : Nat) (hnn : nn = n) (hn : n ≤ 4) (hs : s.size ≤ 2000) (hR : RdB w b s i false src bi vc vt) :
  Calls Tryz.prog 128 #[.pointer (some ⟨b, 0, none⟩), .int .i64 nn] w fun e w' => But (· = b) w w' ∧
   ∃ v j bad, e = .returned (.int .i64 v) ∧ RdB w' b s j bad src bi vc vt ∧ ((bad = false ∧ ∃ d : Nat, v = d ∧ d < n ∧ letP s n i = .ok (d, j)) ∨ (bad = true ∧ letP s n i = .error j)) := by
 subst hnn
 cases h : isLet n (pk s i) with
 | true =>
  refine (class_ok b s i false src bi vc vt w n hs hn hR h).mono ?_
  rintro e w' ⟨rfl, h1, h2⟩
  have := isLet_iff.1 h
  exact ⟨h1, _, i + 1, false, rfl, h2, Or.inl ⟨rfl, _, rfl, by omega, by simp [letP, h]⟩⟩
 | false =>
  refine (class_err b s i false src bi vc vt w n hs hR h).mono ?_
  rintro e w' ⟨rfl, h1, h2⟩
  exact ⟨h1, _, i, true, rfl, h2, Or.inr ⟨rfl, by simp [letP, h]⟩⟩
end
end Go.Proofs.YtpfkkmacakjmbaaGreatDoor
namespace Go.Proofs.YtpfkkmacakjmbaaGreatDoor
open Go Go.RowKit Sp
set_option linter.unusedSimpArgs false
set_option linter.unusedVariables false
theorem u8ne {a c : UInt8} (h : a ≠ c) : (((a.toNat : Int)) != (c.toNat : Int)) = true := by
 rw [bne_iff_ne]; intro h'; exact h (UInt8.toNat_inj.1 (by omega))
theorem u8eq {a c : UInt8} (h : a = c) : (((a.toNat : Int)) != (c.toNat : Int)) = false := by subst h; simp
section
variable (b : Nat) (s : ByteArray) (i : Nat) (src : Bool) (bi : Nat) (vc vt : Value) (w : World)
set_option maxHeartbeats 800000 in
set_option maxRecDepth 100000 in
theorem types_any (k n : Nat) (e : UInt8) (hs : s.size ≤ 2000) (hn : n ≤ 4) (hk : k ≤ 4) (he : 0 < e.toNat) (hR : RdB w b s i false src bi vc vt) :
  Calls Tryz.prog 79 #[.pointer (some ⟨b, 0, none⟩), .int .i64 k, .int .i64 n, .int .u8 e.toNat] w fun en w' => But (· = b) w w' ∧
   match tys s n e k [] i with
   | .ok (t, j) => en = .returned (.string ⟨t.toArray⟩) ∧ RdB w' b s j false src bi vc vt
   | .error j => (∃ t, en = .returned (.string t) ∧ t.size ≤ k + 1) ∧ RdB w' b s j true src bi vc vt := by
 obtain ⟨R, hRR⟩ : ∃ R, tys s n e k [] i = R := ⟨_, rfl⟩
 rw [hRR]
 have HRR : Hid (tys s n e k [] i = R) := hRR
 clear hRR
 go_enter Tryz.func79, Tryz.ntmps79
 go_wp2_with (go_at_call 127; refine (peek_any b s i false src bi vc vt _ hs hR).mono ?_; rintro en w' ⟨rfl, nn, rfl⟩)
 go_loopg [9, 10] (k + 1) (fun m t c wr => ∃ (tl : List UInt8) (i' : Nat) (bad' : Bool), t = .string ⟨tl.toArray⟩ ∧ c = .int .u8 (pk s i').toNat ∧ But (· = b) w wr ∧ RdB wr b s i' bad' src bi vc vt ∧
  ((bad' = false ∧ ∃ f, m = f + 1 ∧ f + tl.length = k ∧ tys s n e f tl i' = R) ∨ (bad' = true ∧ m = 0 ∧ R = .error i' ∧ tl.length ≤ k + 1)))
 case atStart => exact ⟨[], i, false, rfl, rfl, But.drewN _ _ _, hR.drewN _, Or.inl ⟨rfl, k, rfl, by simp, HRR.out⟩⟩
 case round =>
  obtain ⟨tl, i', bad', rfl, rfl, hB, hRr, hcase⟩ := hrel
  have c1 := hRr.c1
  have c2 := hRr.c2
  have f1 := hRr.fz 1
  have f2 := hRr.fz 2
  rcases hcase with ⟨rfl, f, rfl, hfl, hty⟩ | ⟨rfl, rfl, rfl, hlk⟩
  ·have HT : Hid (tys s n e f tl i' = R) := hty
   clear hty
   by_cases hpe : pk s i' = e
   · -- the end
    have hi : i' < s.size := pk_lt (by rw [hpe]; exact he)
    have hne := u8eq hpe
    have hres : R = .ok (tl, i' + 1) := by rw [← HT.out]; cases f <;> simp [tys, hpe]
    subst hres
    clear HT hpe
    go_wp2_with fail
    go_ret
    exact ⟨hB.trans (But.setB _ _ _ _), rfl, hRr.inc⟩
   ·have hne := u8ne hpe
    cases f with
    | zero =>
     have hres : R = .error i' := by rw [← HT.out]; simp [tys, hpe]
     subst hres
     have hlen : (k : Int) ≤ (tl.length : Int) := by omega
     clear HT hpe
     go_wp2_with (go_at_call 127; refine (peek_any b s i' true src bi vc vt _ hs (hRr.set2 true)).mono ?_; rintro en w' ⟨rfl, nn, rfl⟩)
     go_roundg 0
     case measure => omega
     case rel => exact ⟨tl, i', true, rfl, rfl, (hB.trans (But.setB _ _ _ _)).trans (But.drewN _ _ _), (hRr.set2 true).drewN _, Or.inr ⟨rfl, rfl, rfl, by omega⟩⟩
    | succ f =>
     have hlen : ¬ (k : Int) ≤ (tl.length : Int) := by omega
     by_cases h105 : (pk s i').toNat = 105
     ·have hi : i' < s.size := pk_lt (by omega)
      have hres : tys s n e f (tl ++ [pk s i']) (i' + 1) = R := by rw [← HT.out]; simp [tys, hpe, isTy_iff.2 (Or.inl h105)]
      have HS := hres
      have hp105 : pk s i' = 105 := UInt8.toNat_inj.1 (by rw [h105]; rfl)
      have HP : Hid (pk s i' = 105) := hp105
      have HS' : Hid (tys s n e f (tl ++ [pk s i']) (i' + 1) = R) := hres
      have h5 : (((pk s i').toNat : Int) == 105) = true := by rw [beq_iff_eq]; omega
      clear HT hpe hres HS hp105 h105
      go_wp2_with (go_at_call 127; refine (peek_any b s (i' + 1) false src bi vc vt _ hs hRr.inc).mono ?_; rintro en w' ⟨rfl, nn, rfl⟩)
      go_roundg (f + 1)
      case measure => omega
      case rel => exact ⟨tl ++ [pk s i'], i' + 1, false, by rw [HP.out]; exact congrArg Value.string (bytes_snoc _ _), rfl, (hB.trans (But.setB _ _ _ _)).trans (But.drewN _ _ _), hRr.inc.drewN _, Or.inl ⟨rfl, f, rfl, by simp; omega, HS'.out⟩⟩
     ·have h5 : (((pk s i').toNat : Int) == 105) = false := by rw [beq_eq_false_iff_ne]; omega
      by_cases hl : isLet n (pk s i') = true
      ·have hres : tys s n e f (tl ++ [pk s i']) (i' + 1) = R := by rw [← HT.out]; simp [tys, hpe, isTy_iff.2 (Or.inr (isLet_iff.1 hl))]
       have HS' : Hid (tys s n e f (tl ++ [pk s i']) (i' + 1) = R) := hres
       have HL : Hid (isLet n (pk s i') = true) := hl
       clear HT hpe hres hl h105
       have hcv := conv1 (pk s i')
       go_wp2_with (first | (go_at_call 128; refine (class_ok b s i' false src bi vc vt _ n hs hn hRr HL.out).mono ?_; rintro en w1 ⟨rfl, hB1, hR1⟩) | (go_at_call 127; refine (peek_any b s (i' + 1) false src bi vc vt _ hs (hR1.alloc _)).mono ?_; rintro en w' ⟨rfl, nn, rfl⟩))
       go_roundg (f + 1)
       case measure => omega
       case rel => exact ⟨tl ++ [pk s i'], i' + 1, false, congrArg Value.string (bytes_snoc _ _), rfl, ((hB.trans hB1).trans (But.alloc _ _ _)).trans (But.drewN _ _ _), (hR1.alloc _).drewN _, Or.inl ⟨rfl, f, rfl, by simp; omega, HS'.out⟩⟩
      ·have hl' : isLet n (pk s i') = false := by simpa using hl
       have hres : R = .error i' := by
        rw [← HT.out]
        have : ¬ isTy n (pk s i') = true := fun h => by
         rcases isTy_iff.1 h with h | h
         ·exact h105 h
         ·exact hl (isLet_iff.2 h)
        simp [tys, hpe, this]
       have HL : Hid (isLet n (pk s i') = false) := hl'
       subst hres
       clear HT hpe hl hl' h105
       have hcv := conv1 (pk s i')
       go_wp2_with (first | (go_at_call 128; refine (class_err b s i' false src bi vc vt _ n hs hRr HL.out).mono ?_; rintro en w1 ⟨rfl, hB1, hR1⟩) | (go_at_call 127; refine (peek_any b s i' true src bi vc vt _ hs (hR1.alloc _)).mono ?_; rintro en w' ⟨rfl, nn, rfl⟩))
       go_roundg 0
       case measure => omega
       case rel => exact ⟨tl ++ [pk s i'], i', true, congrArg Value.string (bytes_snoc _ _), rfl, ((hB.trans hB1).trans (But.alloc _ _ _)).trans (But.drewN _ _ _), (hR1.alloc _).drewN _, Or.inr ⟨rfl, rfl, rfl, by simp; omega⟩⟩
  ·go_wp2_with fail
   go_ret
   exact ⟨hB, ⟨_, rfl, by simpa [ByteArray.size] using hlk⟩, hRr⟩
theorem types_call (kk nn ee : Int) (k n : Nat) (e : UInt8) (hkk : kk = k) (hnn : nn = n) (hee : ee = e.toNat) (hs : s.size ≤ 2000) (hn : n ≤ 4) (hk : k ≤ 4) (he : 0 < e.toNat) (hR : RdB w b s i false src bi vc vt) :
  Calls Tryz.prog 79 #[.pointer (some ⟨b, 0, none⟩), .int .i64 kk, .int .i64 nn, .int .u8 ee] w fun en w' => But (· = b) w w' ∧
   ∃ t j bad, en = .returned (.string t) ∧ t.size ≤ k + 1 ∧ RdB w' b s j bad src bi vc vt ∧ ((bad = false ∧ ∃ tl : List UInt8, t = ⟨tl.toArray⟩ ∧ tys s n e k [] i = .ok (tl, j)) ∨ (bad = true ∧ tys s n e k [] i = .error j)) := by
 subst hkk hnn hee
 refine (types_any b s i src bi vc vt w k n e hs hn hk he hR).mono ?_
 rintro en w' ⟨hB, h⟩
 refine ⟨hB, ?_⟩
 rcases ht : tys s n e k [] i with j | ⟨t, j⟩
 ·rw [ht] at h
  obtain ⟨⟨t, h1, h2⟩, h3⟩ := h
  exact ⟨t, j, true, h1, h2, h3, Or.inr ⟨rfl, rfl⟩⟩
 ·rw [ht] at h
  obtain ⟨h1, h2⟩ := h
  have := tys_len ht
  exact ⟨_, j, false, h1, by simpa [ByteArray.size] using Nat.le_succ_of_le this, h2, Or.inl ⟨rfl, t, rfl, rfl⟩⟩
set_option maxHeartbeats 800000 in
theorem one_ok (ao : Option Addr) (n cap : Nat) (v1 v2 : Value) (hs : s.size ≤ 2000) (hn : n ≤ 4) (hI : ImB w bi (.slice ao n cap) v1 v2) (hR : RdB w b s i false src bi vc vt) (ht : isTy n (pk s i) = true) :
  Calls Tryz.prog 129 #[.pointer (some ⟨b, 0, none⟩)] w fun en w' => en = .returned (.int .u8 (pk s i).toNat) ∧ But (· = b) w w' ∧ RdB w' b s (i + 1) false src bi vc vt := by
 have hc1 := hR.c1
 have hc4 := hR.c4
 have hf1 := hR.fz 1
 have hi0 := hI.c0
 have h := isTy_iff.1 ht
 have hi : i < s.size := pk_lt (by omega)
 by_cases h105 : (pk s i).toNat = 105
 ·have h5 : (((pk s i).toNat : Int) == 105) = true := by rw [beq_iff_eq]; omega
  clear h h105 ht
  go_enter Tryz.func129, Tryz.ntmps129
  go_wp2_with (go_at_call 127; refine (peek_any b s i false src bi vc vt _ hs hR).mono ?_; rintro en w' ⟨rfl, nn, rfl⟩)
  go_ret
  exact ⟨rfl, (But.drewN _ _ _).trans (But.setB _ _ _ _), (hR.drewN nn).inc⟩
 ·have h5 : (((pk s i).toNat : Int) == 105) = false := by rw [beq_eq_false_iff_ne]; omega
  have HL : Hid (isLet n (pk s i) = true) := isLet_iff.2 (by omega)
  clear h h105 ht
  go_enter Tryz.func129, Tryz.ntmps129
  go_wp2_with (first | (go_at_call 127; refine (peek_any b s i false src bi vc vt _ hs hR).mono ?_; rintro en w' ⟨rfl, nn, rfl⟩) | (go_at_call 128; refine (class_ok b s i false src bi vc vt _ n hs hn (hR.drewN _) HL.out).mono ?_; rintro en w1 ⟨rfl, hB1, hR1⟩))
  go_ret
  exact ⟨rfl, (But.drewN _ _ _).trans hB1, hR1⟩
set_option maxHeartbeats 800000 in
theorem one_err (ao : Option Addr) (n cap : Nat) (v1 v2 : Value) (hs : s.size ≤ 2000) (hI : ImB w bi (.slice ao n cap) v1 v2) (hR : RdB w b s i false src bi vc vt) (ht : isTy n (pk s i) = false) :
  Calls Tryz.prog 129 #[.pointer (some ⟨b, 0, none⟩)] w fun en w' => (∃ c, en = .returned (.int .u8 c)) ∧ But (· = b) w w' ∧ RdB w' b s i true src bi vc vt := by
 have hc4 := hR.c4
 have hi0 := hI.c0
 have h : ¬ ((pk s i).toNat = 105 ∨ (65 ≤ (pk s i).toNat ∧ (pk s i).toNat < 65 + n)) := fun h => by rw [isTy_iff.2 h] at ht; cases ht
 have h5 : (((pk s i).toNat : Int) == 105) = false := by rw [beq_eq_false_iff_ne]; omega
 have hl : isLet n (pk s i) = false := by
  cases hh : isLet n (pk s i) with
  | false => rfl
  | true => exact absurd (Or.inr (isLet_iff.1 hh)) h
 have HL : Hid (isLet n (pk s i) = false) := hl
 clear h hl ht
 go_enter Tryz.func129, Tryz.ntmps129
 go_wp2_with (first | (go_at_call 127; refine (peek_any b s i false src bi vc vt _ hs hR).mono ?_; rintro en w' ⟨rfl, nn, rfl⟩) | (go_at_call 128; refine (class_err b s i false src bi vc vt _ n hs (hR.drewN _) HL.out).mono ?_; rintro en w1 ⟨rfl, hB1, hR1⟩))
 go_ret
 exact ⟨⟨_, rfl⟩, (But.drewN _ _ _).trans hB1, hR1⟩
end
end Go.Proofs.YtpfkkmacakjmbaaGreatDoor
namespace Go.Proofs.YtpfkkmacakjmbaaGreatDoor
open Go Go.RowKit Sp
set_option linter.unusedSimpArgs false
set_option linter.unusedVariables false
attribute [local go_sem ↓] Go.wp_at_zero Go.wp_at_succ
theorem info_cls : (Tryz.prog.info? 203).map (fun i => (i.zero, i.size, i.bytes)) = some (some (.agg #[.int .i64 0, .string ⟨#[]⟩]), 2, 24) := by kernel_rfl
section
variable (b : Nat) (s : ByteArray) (i : Nat) (src : Bool) (bi : Nat) (vc vt : Value) (w : World)
set_option maxHeartbeats 1600000 in
set_option maxRecDepth 100000 in
theorem classes_any (hs : s.size ≤ 2000) (hbi : b ≠ bi) (hR : RdB w b s i false src bi vc vt) (hI : ImB w bi (.slice none 0 0) (.slice none 0 0) (.slice none 0 0)) :
  Calls Tryz.prog 76 #[.pointer (some ⟨b, 0, none⟩)] w fun en w' => en = .returned (.tuple #[]) ∧ But (fun k => k = b ∨ k = bi) w w' ∧
   match clsP s 4 [] i with
   | .ok (cs, j) => RdB w' b s j false src bi vc vt ∧ ∃ v, ImB w' bi v (.slice none 0 0) (.slice none 0 0) ∧ w'.ownsRow w.heap.size 203 2 v cs.length (clsCells cs)
   | .error j => RdB w' b s j true src bi vc vt := by
 obtain ⟨R, hRR⟩ : ∃ R, clsP s 4 [] i = R := ⟨_, rfl⟩
 rw [hRR]
 have HRR : Hid (clsP s 4 [] i = R) := hRR
 clear hRR
 obtain ⟨i0, hi0, hz0, hz1, hz2⟩ := info_parts info_cls
 go_enter Tryz.func76, Tryz.ntmps76
 go_wp2_with (go_at_call 127; refine (peek_any b s i false src bi vc vt _ hs hR).mono ?_; rintro en w' ⟨rfl, nn, rfl⟩)
 go_loopg [2] 5 (fun m c wr => ∃ (i' : Nat) (bad' : Bool), c = .int .u8 (pk s i').toNat ∧ But (fun k => k = b ∨ k = bi) w wr ∧ RdB wr b s i' bad' src bi vc vt ∧
  ((bad' = false ∧ ∃ f cs v, m = f + 1 ∧ f + List.length cs = 4 ∧ WfC cs ∧ clsP s f cs i' = R ∧ ImB wr bi v (.slice none 0 0) (.slice none 0 0) ∧ wr.ownsRow w.heap.size 203 2 v cs.length (clsCells cs)) ∨ (bad' = true ∧ m = 0 ∧ R = .error i')))
 case atStart => exact ⟨i, false, rfl, But.drewN _ _ _, hR.drewN _, Or.inl ⟨rfl, 4, [], _, rfl, rfl, (fun j c h => by simp at h), HRR.out, hI, owns_nil _ _ _ _⟩⟩
 case round =>
  obtain ⟨i', bad', rfl, hB, hRr, hcase⟩ := hrel
  have c1 := hRr.c1
  have c2 := hRr.c2
  have c4 := hRr.c4
  have f1 := hRr.fz 1
  have f2 := hRr.fz 2
  rcases hcase with ⟨rfl, f, cs, v, rfl, hfl, hwf, hty, hIr, hown⟩ | ⟨rfl, rfl, rfl⟩
  ·have HT : Hid (clsP s f cs i' = R) := hty
   have hfl1 : f + cs.length ≤ 4 := by omega
   have hfl2 : 4 ≤ f + cs.length := by omega
   have blt := hRr.lt
   have bilt := hIr.lt
   clear hty hfl
   obtain ⟨ao, cap, rfl⟩ := owns_len hown
   have d0 := hIr.c0
   by_cases hpe : (pk s i').toNat = 59
   · -- the end
    have hi : i' < s.size := pk_lt (by omega)
    have hne : (((pk s i').toNat : Int) != 59) = false := by rw [bne_eq_false_iff_eq]; omega
    have hres : R = .ok (cs, i' + 1) := by rw [← HT.out]; cases f <;> simp [clsP, hpe]
    subst hres
    clear HT hpe
    go_wp2_with fail
    go_end0
    exact ⟨rfl, hB.trans ((But.setB _ _ _ _).mono (fun _ _ h => Or.inl h)), hRr.inc, _, hIr.but (But.setB _ _ _ _) (fun h => hbi h.symm), owns_but hown (But.setB _ _ _ _) (fun g hg h => by have := owns_ge hown g hg; have := hR.lt; omega)⟩
   ·have hne : (((pk s i').toNat : Int) != 59) = true := by rw [bne_iff_ne]; omega
    cases f with
    | zero =>
     have hres : R = .error i' := by rw [← HT.out]; simp [clsP, hpe]
     subst hres
     have hlen : (4 : Int) ≤ (cs.length : Int) := by omega
     clear HT hpe
     go_wp2_with fail
     exact bodyPost_ret (v := .tuple #[]) (by simp [results, Tryz.results76, go_sem]) rfl ⟨rfl, hB.trans ((But.setB _ _ _ _).mono (fun _ _ h => Or.inl h)), hRr.set2 true⟩
    | succ f =>
     have hlen : ¬ (4 : Int) ≤ (cs.length : Int) := by omega
     by_cases h45 : (pk s i').toNat = 45
     ·have hi : i' < s.size := pk_lt (by omega)
      have h5 : (((pk s i').toNat : Int) == 45) = true := by rw [beq_iff_eq]; omega
      have H45 : Hid ((pk s i').toNat = 45) := h45
      have HNE : Hid (¬ (pk s i').toNat = 59) := hpe
      clear h45 hpe
      have hpar : parP s cs.length i' = .ok (-1, i' + 1) := by simp [parP, H45.out]
      have HPAR : Hid (parP s cs.length i' = .ok (-1, i' + 1)) := hpar
      clear hpar
      go_wp2_with fail
      refine (types_call b s (i' + 1) src bi vc vt _ _ _ _ 2 (cs.length + 1) 46 rfl (by omega) rfl hs (by omega) (by omega) (by decide) (hRr.inc.alloc _)).mono ?_
      rintro en w1 ⟨hB1, o, j, bad2, rfl, hol, hR1, hlink⟩
      have HLK : Hid ((bad2 = false ∧ ∃ tl : List UInt8, o = ⟨tl.toArray⟩ ∧ tys s (cs.length + 1) 46 2 [] (i' + 1) = .ok (tl, j)) ∨ (bad2 = true ∧ tys s (cs.length + 1) 46 2 [] (i' + 1) = .error j)) := hlink
      clear hlink
      have hgk : w1.heap[wr.heap.size]? = some (.cells #[.int .i64 (-1), .string ⟨#[]⟩] 203) := by
       rw [hB1.block _ (by simp) (by omega)]; exact heap_alloc_at (size_setCell _ _ _) _
      have hI1 : ImB w1 bi (.slice ao cs.length cap) (.slice none 0 0) (.slice none 0 0) := (hIr.but ((But.setB _ b _ _).trans (But.alloc _ _ _)) (fun h => hbi h.symm)).but hB1 (fun h => hbi h.symm)
      have hO1 := owns_but (owns_but hown ((But.setB _ b _ _).trans (But.alloc _ _ _)) (fun g hg h => by have := owns_ge hown g hg; have := hR.lt; omega)) hB1 (fun g hg h => by have := owns_ge hown g hg; have := hR.lt; omega)
      have hBW : But (fun k => k = b ∨ k = bi) w w1 := hB.trans ((((But.setB _ b _ _).trans (But.alloc _ _ _)).trans hB1).mono (fun _ _ h => Or.inl h))
      have hgs : wr.heap.size < w1.heap.size := lt_of_block hgk
      have hwr := hB.size
      have hbw := hR.lt
      have hbiw := hI.lt
      have k0 : w1.cell? ⟨wr.heap.size, 0, none⟩ = some (.int .i64 (-1)) := by rw [cell_of_row w1 _ 0 _ _ (0, 0) hgk]; rfl
      have k1 : w1.cell? ⟨wr.heap.size, 1, none⟩ = some (.string ⟨#[]⟩) := by rw [cell_of_row w1 _ 1 _ _ (0, 0) hgk]; rfl
      have kf : w1.frozen? ⟨wr.heap.size, 1, none⟩ = false := frozen_of_row w1 _ 1 _ _ hgk
      have e0 := hI1.c0
      have e2 := hR1.c2
      have e4 := hR1.c4
      have hosz : (⟨#[]⟩ : ByteArray).size + o.size ≤ 1000 := by show 0 + o.size ≤ 1000; omega
      clear c1 c2 c4 f1 f2 d0
      go_wp2_with fail
      rw [show (⟨#[]⟩ : ByteArray) = ⟨(inh cs (-1)).toArray⟩ from rfl]
      obtain ⟨pv, hpv⟩ : ∃ pv : Int, pv = -1 := ⟨_, rfl⟩
      rw [← hpv] at hgk HPAR ⊢
      clear hpv k0
      obtain ⟨F, hF⟩ : ∃ F : ByteArray, (⟨(inh cs pv).toArray⟩ : ByteArray) ++ o = F := ⟨_, rfl⟩
      rw [hF]
      have HF : Hid ((⟨(inh cs pv).toArray⟩ : ByteArray) ++ o = F) := hF
      clear hF
      have hgk2 : (w1.setCell ⟨wr.heap.size, 1, none⟩ (.string F)).heap[wr.heap.size]? = some (.cells #[.int .i64 pv, .string F] 203) := heap_setCell_same w1 _ 1 _ _ _ hgk
      have hR2 : RdB (w1.setCell ⟨wr.heap.size, 1, none⟩ (.string F)) b s j bad2 src bi vc vt := hR1.but (But.setB _ _ _ _) (by omega)
      have hI2 : ImB (w1.setCell ⟨wr.heap.size, 1, none⟩ (.string F)) bi (.slice ao cs.length cap) (.slice none 0 0) (.slice none 0 0) := hI1.but (But.setB _ _ _ _) (by omega)
      have hO2 := owns_but hO1 (But.setB w1 wr.heap.size 1 (.string F)) (fun g hg h => by have := owns_lt hown g hg; omega)
      have hBW2 : But (fun k => k = b ∨ k = bi) w (w1.setCell ⟨wr.heap.size, 1, none⟩ (.string F)) := ⟨hBW.os, hBW.tape, hBW.output, by rw [size_setCell]; exact hBW.size, fun k hk hf => ((But.setB w1 wr.heap.size 1 (.string F)).block k (Nat.lt_of_lt_of_le hk hBW.size) (by omega)).trans (hBW.block k hk hf)⟩
      have hgs2 : wr.heap.size < (w1.setCell ⟨wr.heap.size, 1, none⟩ (.string F)).heap.size := lt_of_block hgk2
      clear k1 kf e0 e2 e4 hgk hR1 hI1 hO1 hBW hgs hB1
      generalize (w1.setCell ⟨wr.heap.size, 1, none⟩ (.string F)) = W at *
      have k0 : W.cell? ⟨wr.heap.size, 0, none⟩ = some (.int .i64 pv) := by rw [cell_of_row W _ 0 _ _ (0, 0) hgk2]; rfl
      have k1 : W.cell? ⟨wr.heap.size, 1, none⟩ = some (.string F) := by rw [cell_of_row W _ 1 _ _ (0, 0) hgk2]; rfl
      have e0 := hI2.c0
      have e4 := hR2.c4
      have g0 := hI2.fz 0
      have bltW := hR2.lt
      have biltW := hI2.lt
      have ab : (Value.slice ao cs.length cap).ownBlock ≠ some b := fun h => by have := owns_ge hO2 _ h; omega
      have abi : (Value.slice ao cs.length cap).ownBlock ≠ some bi := fun h => by have := owns_ge hO2 _ h; omega
      have agk : (Value.slice ao cs.length cap).ownBlock ≠ some wr.heap.size := fun h => by have := owns_lt hown _ h; omega
      refine wpTx_begin (But (fun k => (Value.slice ao cs.length cap).ownBlock = some k) W) 14 (by kernel_rfl) ?_
      have hS0 : But (fun k => (Value.slice ao cs.length cap).ownBlock = some k) W W.drew := But.drew _ _
      have fSA := hid (fun wS (h : (But (fun k => (Value.slice ao cs.length cap).ownBlock = some k) W) wS) => (And.intro ((h.cell (p := ⟨b, 4, none⟩) bltW ab).trans e4) (And.intro ((h.cell (p := ⟨bi, 0, none⟩) biltW abi).trans e0) (And.intro ((h.cell (p := ⟨wr.heap.size, 0, none⟩) hgs2 agk).trans k0) ((h.cell (p := ⟨wr.heap.size, 1, none⟩) hgs2 agk).trans k1)))))
      refine wpTx_take (v := ?vA0) rfl (by kernel_rfl) ?qA0 rfl hS0 ?yA0 ?rA0
      case yA0 => intro wS h; obtain ⟨q0, q1, q2, q3⟩ := fSA.out wS h; clear h; go_simp; try rfl
      case qA0 => exact fun _ _ _ h => h
      dsimp only [Act.put]
      try simp only [puts]
      refine wpTx_take (v := ?vA1) rfl (by kernel_rfl) ?qA1 rfl hS0 ?yA1 ?rA1
      case yA1 => intro wS h; obtain ⟨q0, q1, q2, q3⟩ := fSA.out wS h; clear h; go_simp; try rfl
      case qA1 => exact fun _ _ _ h => h
      dsimp only [Act.put]
      try simp only [puts]
      refine wpTx_take (v := ?vA2) rfl (by kernel_rfl) ?qA2 rfl hS0 ?yA2 ?rA2
      case yA2 => intro wS h; obtain ⟨q0, q1, q2, q3⟩ := fSA.out wS h; clear h; go_simp; try rfl
      case qA2 => exact fun _ _ _ h => h
      dsimp only [Act.put]
      try simp only [puts]
      refine wpTx_take (v := ?vA3) rfl (by kernel_rfl) ?qA3 rfl hS0 ?yA3 ?rA3
      case yA3 => intro wS h; obtain ⟨q0, q1, q2, q3⟩ := fSA.out wS h; clear h; go_simp; try rfl
      case qA3 => exact fun _ _ _ h => h
      dsimp only [Act.put]
      try simp only [puts]
      refine wpTx_take (v := ?vA4) rfl (by kernel_rfl) ?qA4 rfl hS0 ?yA4 ?rA4
      case yA4 => intro wS h; obtain ⟨q0, q1, q2, q3⟩ := fSA.out wS h; clear h; go_simp; try rfl
      case qA4 => exact fun _ _ _ h => h
      dsimp only [Act.put]
      try simp only [puts]
      refine wpTx_take (v := ?vA5) rfl (by kernel_rfl) ?qA5 rfl hS0 ?yA5 ?rA5
      case yA5 => intro wS h; obtain ⟨q0, q1, q2, q3⟩ := fSA.out wS h; clear h; go_simp; try rfl
      case qA5 => exact fun _ _ _ h => h
      dsimp only [Act.put]
      try simp only [puts]
      refine wpTx_take (v := ?vA6) rfl (by kernel_rfl) ?qA6 rfl hS0 ?yA6 ?rA6
      case yA6 => intro wS h; obtain ⟨q0, q1, q2, q3⟩ := fSA.out wS h; clear h; go_simp; try rfl
      case qA6 => exact fun _ _ _ h => h
      dsimp only [Act.put]
      try simp only [puts]
      refine wpTx_take (v := ?vA7) rfl (by kernel_rfl) ?qA7 rfl hS0 ?yA7 ?rA7
      case yA7 => intro wS h; obtain ⟨q0, q1, q2, q3⟩ := fSA.out wS h; clear h; go_simp; try rfl
      case qA7 => exact fun _ _ _ h => h
      dsimp only [Act.put]
      try simp only [puts]
      refine wpTx_take (v := ?vA8) rfl (by kernel_rfl) ?qA8 rfl hS0 ?yA8 ?rA8
      case yA8 => intro wS h; obtain ⟨q0, q1, q2, q3⟩ := fSA.out wS h; clear h; go_simp; try rfl
      case qA8 => exact fun _ _ _ h => h
      dsimp only [Act.put]
      try simp only [puts]
      refine wpTx_take (v := ?vA9) rfl (by kernel_rfl) ?qA9 rfl hS0 ?yA9 ?rA9
      case yA9 => intro wS h; obtain ⟨q0, q1, q2, q3⟩ := fSA.out wS h; clear h; go_simp; try rfl
      case qA9 => exact fun _ _ _ h => h
      dsimp only [Act.put]
      try simp only [puts]
      refine wpTx_take (v := ?vA10) rfl (by kernel_rfl) ?qA10 rfl hS0 ?yA10 ?rA10
      case yA10 => intro wS h; obtain ⟨q0, q1, q2, q3⟩ := fSA.out wS h; clear h; go_simp; try rfl
      case qA10 => exact fun _ _ _ h => h
      dsimp only [Act.put]
      try simp only [puts]
      refine wpTx_take (v := ?vA11) rfl (by kernel_rfl) ?qA11 rfl hS0 ?yA11 ?rA11
      case yA11 => intro wS h; obtain ⟨q0, q1, q2, q3⟩ := fSA.out wS h; clear h; go_simp; try rfl
      case qA11 => exact fun _ _ _ h => h
      dsimp only [Act.put]
      try simp only [puts]
      try clear fSA
      refine wpTx_step (o := ?oA12) (rest := ?rsA12) ?hoA12 ?hrA12 ?stA12
      case hoA12 => rfl
      case hrA12 => kernel_rfl
      case' stA12 =>
      intro KS hKS
      go_simp
      refine hKS.out _ _ (fun _ => (But.alloc _ _ _).trans (But.drew _ _)) ?_
      clear hKS KS
      refine wpTx_step (o := ?oA13) (rest := ?rsA13) ?hoA13 ?hrA13 ?stA13
      case hoA13 => rfl
      case hrA13 => kernel_rfl
      case' stA13 =>
      intro KS hKS
      refine step_append_lies _ (by rfl) _ _ _ (by rfl) w.heap.size 203 i0 _ 2 24 Tryz.underlying40 hi0 hz0 hz1 hz2 rfl (by omega) _ cs.length (clsCells cs) (by rfl) ((hO2.alloc _).drew)
         ⟨W.heap.size, 0, none⟩ 1 1 [.int .i64 pv, .string F] (by rfl) (by rfl) (World.news_of_block (cs := #[.int .i64 pv, .string F]) (t := 203) (fr := (0, 0)) (heap_alloc_new W _)) (by simp [Value.oneCell'])
         (by omega) (by unfold maxLen; omega) (by omega) (by simp; omega) (W.heap.size + 1) (by simp) ?_
      intro gg cap2 w2 hown2 hgrow hat hlt2
      have hSW : But (fun k => (Value.slice ao cs.length cap).ownBlock = some k) W w2 := ((But.alloc _ _ _).trans (But.drew _ _)).trans (but_grown hgrow)
      refine hKS.out _ _ (fun _ => hSW) ?_
      clear hKS KS
      have y0 := (hSW.cell (p := ⟨bi, 0, none⟩) biltW abi).trans e0
      have y1 := (hSW.frozen (p := ⟨bi, 0, none⟩) biltW abi).trans g0
      refine wpTx_step (o := ?oA14) (rest := ?rsA14) ?hoA14 ?hrA14 ?stA14
      case hoA14 => rfl
      case hrA14 => kernel_rfl
      case' stA14 =>
      intro KS hKS
      go_simp
      refine hKS.out _ _ (fun h => absurd h (by decide)) ?_
      clear hKS KS
      refine wpTx_step (o := ?oA15) (rest := ?rsA15) ?hoA15 ?hrA15 ?stA15
      case hoA15 => rfl
      case hrA15 => kernel_rfl
      case' stA15 =>
      intro KS hKS
      go_simp
      refine hKS.out _ _ (fun h => absurd h (by decide)) ?_
      clear hKS KS
      refine wpTx_step (o := ?oA16) (rest := ?rsA16) ?hoA16 ?hrA16 ?stA16
      case hoA16 => rfl
      case hrA16 => kernel_rfl
      case' stA16 =>
      intro KS hKS
      go_simp
      refine hKS.out _ _ (fun h => absurd h (by decide)) ?_
      clear hKS KS
      refine wpTx_done rfl (by kernel_rfl) ?_
      have hR3 : RdB (w2.setCell ⟨bi, 0, none⟩ (.slice (some ⟨gg, 0, none⟩) (cs.length + 1) cap2)) b s j bad2 src bi vc vt := (hR2.but hSW ab).but (But.setB _ _ _ _) hbi
      have hI3 : ImB (w2.setCell ⟨bi, 0, none⟩ (.slice (some ⟨gg, 0, none⟩) (cs.length + 1) cap2)) bi (.slice (some ⟨gg, 0, none⟩) (cs.length + 1) cap2) (.slice none 0 0) (.slice none 0 0) := (hI2.but hSW abi).set0 _
      have hgg := owns_ge hown2 gg rfl
      have hO3 := owns_but hown2 (But.setB w2 bi 0 (.slice (some ⟨gg, 0, none⟩) (cs.length + 1) cap2)) (fun g hg h => by have := owns_ge hown2 g hg; omega)
      have hB3 : But (fun k => k = b ∨ k = bi) w (w2.setCell ⟨bi, 0, none⟩ (.slice (some ⟨gg, 0, none⟩) (cs.length + 1) cap2)) :=
       (hBW2.next hSW (fun k hk h => absurd (owns_ge hO2 k h) (by omega))).next (But.setB _ _ _ _) (fun _ _ h => Or.inr h)
      clear y0 y1 e0 e4 g0 k0 k1 hSW hgrow
      generalize (w2.setCell ⟨bi, 0, none⟩ (.slice (some ⟨gg, 0, none⟩) (cs.length + 1) cap2)) = W3 at *
      go_wp2_with (go_at_call 127; refine (peek_any b s j bad2 src bi vc vt _ hs hR3).mono ?_; rintro en w' ⟨rfl, n3, rfl⟩)
      rcases HLK.out with ⟨rfl, tl, rfl, ht⟩ | ⟨rfl, ht⟩
      ·go_roundg (f + 1)
       case measure => omega
       case rel =>
        refine ⟨j, false, rfl, hB3.next (But.drewN (fun _ => False) _ _) (fun _ _ h => h.elim), hR3.drewN _, Or.inl ⟨rfl, f, cs ++ [⟨pv, inh cs pv ++ tl⟩], _, rfl, by simp; omega, wf_snoc hwf HPAR.out ht, ?_, hI3, ?_⟩⟩
        ·rw [← HT.out, clsP, if_neg HNE.out, HPAR.out]
         simp only [ht]
        ·rw [clsCells_snoc, List.length_append]
         have hF := HF.out
         rw [show (⟨(inh cs pv ++ tl).toArray⟩ : ByteArray) = F from by rw [← hF]; exact (bytes_append _ _).symm]
         exact hO3
      ·go_roundg 0
       case measure => omega
       case rel =>
        refine ⟨j, true, rfl, hB3.next (But.drewN (fun _ => False) _ _) (fun _ _ h => h.elim), hR3.drewN _, Or.inr ⟨rfl, rfl, ?_⟩⟩
        rw [← HT.out, clsP, if_neg HNE.out, HPAR.out]
        simp only [ht]
     ·have H45 : Hid (¬ (pk s i').toNat = 45) := h45
      have HNE : Hid (¬ (pk s i').toNat = 59) := hpe
      have h5 : (((pk s i').toNat : Int) == 45) = false := by rw [beq_eq_false_iff_ne]; omega
      cases hl : isLet cs.length (pk s i') with
      | false =>
       have HL : Hid (isLet cs.length (pk s i') = false) := hl
       have hres : R = .error i' := by rw [← HT.out, clsP, if_neg hpe]; simp [parP, letP, h45, hl]
       subst hres
       clear h45 hpe hl HT
       go_wp2_with fail
       refine (class_err b s i' false src bi vc vt _ cs.length hs (hRr.alloc _) HL.out).mono ?_
       rintro en w1 ⟨rfl, hB1, hR1⟩
       have hgk : w1.heap[wr.heap.size]? = some (.cells #[.int .i64 (-1), .string ⟨#[]⟩] 203) := by
        rw [hB1.block _ (by simp) (by omega)]; exact heap_alloc_new _ _
       have k0 : w1.cell? ⟨wr.heap.size, 0, none⟩ = some (.int .i64 (-1)) := by rw [cell_of_row w1 _ 0 _ _ (0, 0) hgk]; rfl
       have kf : w1.frozen? ⟨wr.heap.size, 0, none⟩ = false := frozen_of_row w1 _ 0 _ _ hgk
       have e2 := hR1.c2
       have hbne : b ≠ wr.heap.size := by omega
       clear c1 c2 c4 f1 f2 d0
       go_wp2_with fail
       have hwr := hB.size
       exact bodyPost_ret (v := .tuple #[]) (by simp [results, Tryz.results76, go_sem]) rfl ⟨rfl, ((hB.next (But.alloc (fun _ => False) _ _) (fun _ _ h => h.elim)).next hB1 (fun _ _ h => Or.inl h)).next (But.setB _ _ _ _) (fun k hk h => by omega), hR1.but (But.setB _ _ _ _) hbne⟩
      | true =>
       have HL : Hid (isLet cs.length (pk s i') = true) := hl
       obtain ⟨pn, hpn⟩ : ∃ pn : Nat, (pk s i').toNat - 65 = pn := ⟨_, rfl⟩
       have hpl : pn < cs.length := by have := isLet_iff.1 hl; omega
       obtain ⟨pv, hpv⟩ : ∃ pv : Int, pv = (pn : Int) := ⟨_, rfl⟩
       have HPAR : Hid (parP s cs.length i' = .ok (pv, i' + 1)) := by
        show parP s cs.length i' = .ok (pv, i' + 1)
        simp [parP, letP, h45, hl, hpv, hpn]
       have HPN : Hid ((pk s i').toNat - 65 = pn) := hpn
       have HPV : Hid (pv = (pn : Int)) := hpv
       have hpv0 : (0 : Int) ≤ pv := by omega
       have hpv1 : pv < (cs.length : Int) := by omega
       clear h45 hpe hl hpn hpv
       go_wp2_with fail
       refine (class_ok b s i' false src bi vc vt _ cs.length hs (by omega) (hRr.alloc _) HL.out).mono ?_
       rw [HPN.out, ← HPV.out]
       rintro en wB ⟨rfl, hBB, hRB⟩
       have hgkB : wB.heap[wr.heap.size]? = some (.cells #[.int .i64 (-1), .string ⟨#[]⟩] 203) := by
        rw [hBB.block _ (by simp) (by omega)]; exact heap_alloc_new _ _
       have k0 : wB.cell? ⟨wr.heap.size, 0, none⟩ = some (.int .i64 (-1)) := by rw [cell_of_row wB _ 0 _ _ (0, 0) hgkB]; rfl
       have kf : wB.frozen? ⟨wr.heap.size, 0, none⟩ = false := frozen_of_row wB _ 0 _ _ hgkB
       have e2 := hRB.c2
       have hbne : b ≠ wr.heap.size := by omega
       have hbine : bi ≠ wr.heap.size := by omega
       clear c1 c2 c4 f1 f2 d0
       go_wp2_with fail
       refine (types_call b s (i' + 1) src bi vc vt _ _ _ _ 2 (cs.length + 1) 46 rfl (by omega) rfl hs (by omega) (by omega) (by decide) (hRB.but (But.setB _ _ _ _) hbne)).mono ?_
       rintro en w1 ⟨hB1, o, j, bad2, rfl, hol, hR1, hlink⟩
       have HLK : Hid ((bad2 = false ∧ ∃ tl : List UInt8, o = ⟨tl.toArray⟩ ∧ tys s (cs.length + 1) 46 2 [] (i' + 1) = .ok (tl, j)) ∨ (bad2 = true ∧ tys s (cs.length + 1) 46 2 [] (i' + 1) = .error j)) := hlink
       clear hlink
       have hgk : w1.heap[wr.heap.size]? = some (.cells #[.int .i64 pv, .string ⟨#[]⟩] 203) := by
        rw [hB1.block _ (by rw [size_setCell]; exact lt_of_block hgkB) (by omega)]; exact heap_setCell_same wB _ 0 _ _ _ hgkB
       have hwr := hB.size
       have hbw := hR.lt
       have hbiw := hI.lt
       have hBr : But (· = b) wr w1 := ((((But.alloc _ wr _).trans hBB).next (But.setB wB wr.heap.size 0 _) (fun k hk h => by omega)).trans hB1)
       have hI1 : ImB w1 bi (.slice ao cs.length cap) (.slice none 0 0) (.slice none 0 0) := hIr.but hBr (fun h => hbi h.symm)
       have hO1 := owns_but hown hBr (fun g hg h => by have := owns_ge hown g hg; omega)
       have hBW : But (fun k => k = b ∨ k = bi) w w1 := hB.next hBr (fun _ _ h => Or.inl h)
       have hgs : wr.heap.size < w1.heap.size := lt_of_block hgk
       have ha := List.getElem?_eq_getElem hpl
       have hpc : (clsCells cs)[pn * 2 + 1]? = some (.string ⟨cs[pn].fields.toArray⟩) := clsCells_at1 ha
       obtain ⟨ga, capa, hva, hca, hga1, hga2⟩ := owns_cell hO1 hpc
       have hao : ao = some ⟨ga, 0, none⟩ := by injection hva
       have HINH : Hid (inh cs pv = cs[pn].fields) := by
        show inh cs pv = cs[pn].fields
        rw [HPV.out]
        exact inh_some ha
       have hca' : w1.cell? ⟨ga, pv.toNat * 2 + 1, none⟩ = some (.string ⟨cs[pn].fields.toArray⟩) := by rw [HPV.out, Int.toNat_natCast]; exact hca
       clear hca
       subst hao
       have hgalt : ga < wr.heap.size := owns_lt hown ga rfl
       have kk0 : w1.cell? ⟨wr.heap.size, 0, none⟩ = some (.int .i64 pv) := by rw [cell_of_row w1 _ 0 _ _ (0, 0) hgk]; rfl
       have kk1 : w1.cell? ⟨wr.heap.size, 1, none⟩ = some (.string ⟨#[]⟩) := by rw [cell_of_row w1 _ 1 _ _ (0, 0) hgk]; rfl
       have kkf : w1.frozen? ⟨wr.heap.size, 1, none⟩ = false := frozen_of_row w1 _ 1 _ _ hgk
       have e0 := hI1.c0
       have e2' := hR1.c2
       have e4 := hR1.c4
       have blt1 := hR1.lt
       have bilt1 := hI1.lt
       clear k0 kf e2 hva
       go_wp2_with fail
       have hS1 : But (fun _ => False) w1 w1.drew := But.drew _ _
       refine wpTx_begin (But (fun _ => False) w1) 13 (by kernel_rfl) ?_
       have fSC := hid (fun wS (h : (But (fun _ => False) w1) wS) => (And.intro ((h.cell (p := ⟨b, 4, none⟩) blt1 (fun h => h)).trans e4) (And.intro ((h.cell (p := ⟨bi, 0, none⟩) bilt1 (fun h => h)).trans e0) (And.intro ((h.cell (p := ⟨wr.heap.size, 0, none⟩) hgs (fun h => h)).trans kk0) ((h.cell (p := ⟨ga, pv.toNat * 2 + 1, none⟩) hga1 (fun h => h)).trans hca')))))
       refine wpTx_take (v := ?vC0) rfl (by kernel_rfl) ?qC0 rfl hS1 ?yC0 ?rC0
       case yC0 => intro wS h; obtain ⟨q0, q1, q2, q3⟩ := fSC.out wS h; clear h; go_simp; try rfl
       case qC0 => exact fun _ _ _ h => h
       dsimp only [Act.put]
       try simp only [puts]
       refine wpTx_take (v := ?vC1) rfl (by kernel_rfl) ?qC1 rfl hS1 ?yC1 ?rC1
       case yC1 => intro wS h; obtain ⟨q0, q1, q2, q3⟩ := fSC.out wS h; clear h; go_simp; try rfl
       case qC1 => exact fun _ _ _ h => h
       dsimp only [Act.put]
       try simp only [puts]
       refine wpTx_take (v := ?vC2) rfl (by kernel_rfl) ?qC2 rfl hS1 ?yC2 ?rC2
       case yC2 => intro wS h; obtain ⟨q0, q1, q2, q3⟩ := fSC.out wS h; clear h; go_simp; try rfl
       case qC2 => exact fun _ _ _ h => h
       dsimp only [Act.put]
       try simp only [puts]
       refine wpTx_take (v := ?vC3) rfl (by kernel_rfl) ?qC3 rfl hS1 ?yC3 ?rC3
       case yC3 => intro wS h; obtain ⟨q0, q1, q2, q3⟩ := fSC.out wS h; clear h; go_simp; try rfl
       case qC3 => exact fun _ _ _ h => h
       dsimp only [Act.put]
       try simp only [puts]
       refine wpTx_take (v := ?vC4) rfl (by kernel_rfl) ?qC4 rfl hS1 ?yC4 ?rC4
       case yC4 => intro wS h; obtain ⟨q0, q1, q2, q3⟩ := fSC.out wS h; clear h; go_simp; try rfl
       case qC4 => exact fun _ _ _ h => h
       dsimp only [Act.put]
       try simp only [puts]
       refine wpTx_take (v := ?vC5) rfl (by kernel_rfl) ?qC5 rfl hS1 ?yC5 ?rC5
       case yC5 => intro wS h; obtain ⟨q0, q1, q2, q3⟩ := fSC.out wS h; clear h; go_simp; try rfl
       case qC5 => exact fun _ _ _ h => h
       dsimp only [Act.put]
       try simp only [puts]
       refine wpTx_take (v := ?vC6) rfl (by kernel_rfl) ?qC6 rfl hS1 ?yC6 ?rC6
       case yC6 => intro wS h; obtain ⟨q0, q1, q2, q3⟩ := fSC.out wS h; clear h; go_simp; try rfl
       case qC6 => exact fun _ _ _ h => h
       dsimp only [Act.put]
       try simp only [puts]
       refine wpTx_take (v := ?vC7) rfl (by kernel_rfl) ?qC7 rfl hS1 ?yC7 ?rC7
       case yC7 => intro wS h; obtain ⟨q0, q1, q2, q3⟩ := fSC.out wS h; clear h; go_simp; try rfl
       case qC7 => exact fun _ _ _ h => h
       dsimp only [Act.put]
       try simp only [puts]
       refine wpTx_take (v := ?vC8) rfl (by kernel_rfl) ?qC8 rfl hS1 ?yC8 ?rC8
       case yC8 => intro wS h; obtain ⟨q0, q1, q2, q3⟩ := fSC.out wS h; clear h; go_simp; try rfl
       case qC8 => exact fun _ _ _ h => h
       dsimp only [Act.put]
       try simp only [puts]
       refine wpTx_take (v := ?vC9) rfl (by kernel_rfl) ?qC9 rfl hS1 ?yC9 ?rC9
       case yC9 => intro wS h; obtain ⟨q0, q1, q2, q3⟩ := fSC.out wS h; clear h; go_simp; try rfl
       case qC9 => exact fun _ _ _ h => h
       dsimp only [Act.put]
       try simp only [puts]
       refine wpTx_take (v := ?vC10) rfl (by kernel_rfl) ?qC10 rfl hS1 ?yC10 ?rC10
       case yC10 => intro wS h; obtain ⟨q0, q1, q2, q3⟩ := fSC.out wS h; clear h; go_simp; try rfl
       case qC10 => exact fun _ _ _ h => h
       dsimp only [Act.put]
       try simp only [puts]
       refine wpTx_take (v := ?vC11) rfl (by kernel_rfl) ?qC11 rfl hS1 ?yC11 ?rC11
       case yC11 => intro wS h; obtain ⟨q0, q1, q2, q3⟩ := fSC.out wS h; clear h; go_simp; try rfl
       case qC11 => exact fun _ _ _ h => h
       dsimp only [Act.put]
       try simp only [puts]
       refine wpTx_take (v := ?vC12) rfl (by kernel_rfl) ?qC12 rfl hS1 ?yC12 ?rC12
       case yC12 => intro wS h; obtain ⟨q0, q1, q2, q3⟩ := fSC.out wS h; clear h; go_simp; try rfl
       case qC12 => exact fun _ _ _ h => h
       dsimp only [Act.put]
       try simp only [puts]
       try clear fSC
       refine wpTx_step (o := ?oC13) (rest := ?rsC13) ?hoC13 ?hrC13 ?stC13
       case hoC13 => rfl
       case hrC13 => kernel_rfl
       case' stC13 =>
       intro KS hKS
       go_simp
       refine hKS.out _ _ (fun h => absurd h (by decide)) ?_
       clear hKS KS
       refine wpTx_done rfl (by kernel_rfl) ?_
       have hgkF : (w1.setCell ⟨wr.heap.size, 1, none⟩ (.string ⟨cs[pn].fields.toArray⟩)).drew.heap[wr.heap.size]? = some (.cells #[.int .i64 pv, .string ⟨cs[pn].fields.toArray⟩] 203) := heap_setCell_same w1 _ 1 _ _ _ hgk
       have hRF : RdB (w1.setCell ⟨wr.heap.size, 1, none⟩ (.string ⟨cs[pn].fields.toArray⟩)).drew b s j bad2 src bi vc vt := hR1.but (w' := w1.setCell ⟨wr.heap.size, 1, none⟩ (.string ⟨cs[pn].fields.toArray⟩)) (But.setB _ _ _ _) hbne
       have hIF : ImB (w1.setCell ⟨wr.heap.size, 1, none⟩ (.string ⟨cs[pn].fields.toArray⟩)).drew bi (.slice (some ⟨ga, 0, none⟩) cs.length cap) (.slice none 0 0) (.slice none 0 0) := hI1.but (w' := w1.setCell ⟨wr.heap.size, 1, none⟩ (.string ⟨cs[pn].fields.toArray⟩)) (But.setB _ _ _ _) hbine
       have hOF := owns_but (owns_but hO1 (But.setB w1 wr.heap.size 1 (.string ⟨cs[pn].fields.toArray⟩)) (fun g hg h => by have := owns_lt hown g hg; omega)) (But.drew (fun _ => False) _) (fun _ _ h => h)
       have hBWF : But (fun k => k = b ∨ k = bi) w (w1.setCell ⟨wr.heap.size, 1, none⟩ (.string ⟨cs[pn].fields.toArray⟩)).drew := (hBW.next (But.setB w1 wr.heap.size 1 _) (fun k hk h => by omega)).next (But.drew (fun _ => False) _) (fun _ _ h => h.elim)
       have hfl : cs[pn].fields.length ≤ 8 := by have := (hwf pn _ ha).2.2.1; omega
       have hosz : (⟨cs[pn].fields.toArray⟩ : ByteArray).size + o.size ≤ 1000 := by show cs[pn].fields.toArray.size + o.size ≤ 1000; simp; omega
       have hosz' : cs[pn].fields.length + o.size ≤ 1000 := by omega
       clear kk0 kk1 kkf e0 e2' e4 hca' hgk hR1 hI1 hO1 hBW hB1 hBr hBB hRB hgkB hgs blt1 bilt1 hga1 hS1
       generalize (w1.setCell ⟨wr.heap.size, 1, none⟩ (.string ⟨cs[pn].fields.toArray⟩)).drew = w2' at *
       have k0 : w2'.cell? ⟨wr.heap.size, 0, none⟩ = some (.int .i64 pv) := by rw [cell_of_row w2' _ 0 _ _ (0, 0) hgkF]; rfl
       have k1 : w2'.cell? ⟨wr.heap.size, 1, none⟩ = some (.string ⟨cs[pn].fields.toArray⟩) := by rw [cell_of_row w2' _ 1 _ _ (0, 0) hgkF]; rfl
       have kf : w2'.frozen? ⟨wr.heap.size, 1, none⟩ = false := frozen_of_row w2' _ 1 _ _ hgkF
       have e0 := hIF.c0
       have e4 := hRF.c4
       go_wp2_with fail
       rw [show (⟨cs[pn].fields.toArray⟩ : ByteArray) = ⟨(inh cs pv).toArray⟩ from by rw [HINH.out]]
       obtain ⟨F, hF⟩ : ∃ F : ByteArray, (⟨(inh cs pv).toArray⟩ : ByteArray) ++ o = F := ⟨_, rfl⟩
       rw [hF]
       have HF : Hid ((⟨(inh cs pv).toArray⟩ : ByteArray) ++ o = F) := hF
       clear hF
       have hgk2 : (w2'.setCell ⟨wr.heap.size, 1, none⟩ (.string F)).heap[wr.heap.size]? = some (.cells #[.int .i64 pv, .string F] 203) := heap_setCell_same w2' _ 1 _ _ _ hgkF
       have hR2 : RdB (w2'.setCell ⟨wr.heap.size, 1, none⟩ (.string F)) b s j bad2 src bi vc vt := hRF.but (But.setB _ _ _ _) (by omega)
       have hI2 : ImB (w2'.setCell ⟨wr.heap.size, 1, none⟩ (.string F)) bi (.slice (some ⟨ga, 0, none⟩) cs.length cap) (.slice none 0 0) (.slice none 0 0) := hIF.but (But.setB _ _ _ _) (by omega)
       have hO2 := owns_but hOF (But.setB w2' wr.heap.size 1 (.string F)) (fun g hg h => by have := owns_lt hown g hg; omega)
       have hBW2 : But (fun k => k = b ∨ k = bi) w (w2'.setCell ⟨wr.heap.size, 1, none⟩ (.string F)) := ⟨hBWF.os, hBWF.tape, hBWF.output, by rw [size_setCell]; exact hBWF.size, fun k hk hf => ((But.setB w2' wr.heap.size 1 (.string F)).block k (Nat.lt_of_lt_of_le hk hBWF.size) (by omega)).trans (hBWF.block k hk hf)⟩
       have hgs2 : wr.heap.size < (w2'.setCell ⟨wr.heap.size, 1, none⟩ (.string F)).heap.size := lt_of_block hgk2
       clear k0 k1 kf e0 e4 hgkF hRF hIF hOF hBWF
       generalize (w2'.setCell ⟨wr.heap.size, 1, none⟩ (.string F)) = W at *
       have k0 : W.cell? ⟨wr.heap.size, 0, none⟩ = some (.int .i64 pv) := by rw [cell_of_row W _ 0 _ _ (0, 0) hgk2]; rfl
       have k1 : W.cell? ⟨wr.heap.size, 1, none⟩ = some (.string F) := by rw [cell_of_row W _ 1 _ _ (0, 0) hgk2]; rfl
       have e0 := hI2.c0
       have e4 := hR2.c4
       have g0 := hI2.fz 0
       have bltW := hR2.lt
       have biltW := hI2.lt
       have ab : (Value.slice (some ⟨ga, 0, none⟩) cs.length cap).ownBlock ≠ some b := fun h => by have := owns_ge hO2 _ h; omega
       have abi : (Value.slice (some ⟨ga, 0, none⟩) cs.length cap).ownBlock ≠ some bi := fun h => by have := owns_ge hO2 _ h; omega
       have agk : (Value.slice (some ⟨ga, 0, none⟩) cs.length cap).ownBlock ≠ some wr.heap.size := fun h => by have := owns_lt hown _ h; omega
       refine wpTx_begin (But (fun k => (Value.slice (some ⟨ga, 0, none⟩) cs.length cap).ownBlock = some k) W) 14 (by kernel_rfl) ?_
       have hS0 : But (fun k => (Value.slice (some ⟨ga, 0, none⟩) cs.length cap).ownBlock = some k) W W.drew := But.drew _ _
       have fSB := hid (fun wS (h : (But (fun k => (Value.slice (some ⟨ga, 0, none⟩) cs.length cap).ownBlock = some k) W) wS) => (And.intro ((h.cell (p := ⟨b, 4, none⟩) bltW ab).trans e4) (And.intro ((h.cell (p := ⟨bi, 0, none⟩) biltW abi).trans e0) (And.intro ((h.cell (p := ⟨wr.heap.size, 0, none⟩) hgs2 agk).trans k0) ((h.cell (p := ⟨wr.heap.size, 1, none⟩) hgs2 agk).trans k1)))))
       refine wpTx_take (v := ?vB0) rfl (by kernel_rfl) ?qB0 rfl hS0 ?yB0 ?rB0
       case yB0 => intro wS h; obtain ⟨q0, q1, q2, q3⟩ := fSB.out wS h; clear h; go_simp; try rfl
       case qB0 => exact fun _ _ _ h => h
       dsimp only [Act.put]
       try simp only [puts]
       refine wpTx_take (v := ?vB1) rfl (by kernel_rfl) ?qB1 rfl hS0 ?yB1 ?rB1
       case yB1 => intro wS h; obtain ⟨q0, q1, q2, q3⟩ := fSB.out wS h; clear h; go_simp; try rfl
       case qB1 => exact fun _ _ _ h => h
       dsimp only [Act.put]
       try simp only [puts]
       refine wpTx_take (v := ?vB2) rfl (by kernel_rfl) ?qB2 rfl hS0 ?yB2 ?rB2
       case yB2 => intro wS h; obtain ⟨q0, q1, q2, q3⟩ := fSB.out wS h; clear h; go_simp; try rfl
       case qB2 => exact fun _ _ _ h => h
       dsimp only [Act.put]
       try simp only [puts]
       refine wpTx_take (v := ?vB3) rfl (by kernel_rfl) ?qB3 rfl hS0 ?yB3 ?rB3
       case yB3 => intro wS h; obtain ⟨q0, q1, q2, q3⟩ := fSB.out wS h; clear h; go_simp; try rfl
       case qB3 => exact fun _ _ _ h => h
       dsimp only [Act.put]
       try simp only [puts]
       refine wpTx_take (v := ?vB4) rfl (by kernel_rfl) ?qB4 rfl hS0 ?yB4 ?rB4
       case yB4 => intro wS h; obtain ⟨q0, q1, q2, q3⟩ := fSB.out wS h; clear h; go_simp; try rfl
       case qB4 => exact fun _ _ _ h => h
       dsimp only [Act.put]
       try simp only [puts]
       refine wpTx_take (v := ?vB5) rfl (by kernel_rfl) ?qB5 rfl hS0 ?yB5 ?rB5
       case yB5 => intro wS h; obtain ⟨q0, q1, q2, q3⟩ := fSB.out wS h; clear h; go_simp; try rfl
       case qB5 => exact fun _ _ _ h => h
       dsimp only [Act.put]
       try simp only [puts]
       refine wpTx_take (v := ?vB6) rfl (by kernel_rfl) ?qB6 rfl hS0 ?yB6 ?rB6
       case yB6 => intro wS h; obtain ⟨q0, q1, q2, q3⟩ := fSB.out wS h; clear h; go_simp; try rfl
       case qB6 => exact fun _ _ _ h => h
       dsimp only [Act.put]
       try simp only [puts]
       refine wpTx_take (v := ?vB7) rfl (by kernel_rfl) ?qB7 rfl hS0 ?yB7 ?rB7
       case yB7 => intro wS h; obtain ⟨q0, q1, q2, q3⟩ := fSB.out wS h; clear h; go_simp; try rfl
       case qB7 => exact fun _ _ _ h => h
       dsimp only [Act.put]
       try simp only [puts]
       refine wpTx_take (v := ?vB8) rfl (by kernel_rfl) ?qB8 rfl hS0 ?yB8 ?rB8
       case yB8 => intro wS h; obtain ⟨q0, q1, q2, q3⟩ := fSB.out wS h; clear h; go_simp; try rfl
       case qB8 => exact fun _ _ _ h => h
       dsimp only [Act.put]
       try simp only [puts]
       refine wpTx_take (v := ?vB9) rfl (by kernel_rfl) ?qB9 rfl hS0 ?yB9 ?rB9
       case yB9 => intro wS h; obtain ⟨q0, q1, q2, q3⟩ := fSB.out wS h; clear h; go_simp; try rfl
       case qB9 => exact fun _ _ _ h => h
       dsimp only [Act.put]
       try simp only [puts]
       refine wpTx_take (v := ?vB10) rfl (by kernel_rfl) ?qB10 rfl hS0 ?yB10 ?rB10
       case yB10 => intro wS h; obtain ⟨q0, q1, q2, q3⟩ := fSB.out wS h; clear h; go_simp; try rfl
       case qB10 => exact fun _ _ _ h => h
       dsimp only [Act.put]
       try simp only [puts]
       refine wpTx_take (v := ?vB11) rfl (by kernel_rfl) ?qB11 rfl hS0 ?yB11 ?rB11
       case yB11 => intro wS h; obtain ⟨q0, q1, q2, q3⟩ := fSB.out wS h; clear h; go_simp; try rfl
       case qB11 => exact fun _ _ _ h => h
       dsimp only [Act.put]
       try simp only [puts]
       try clear fSB
       refine wpTx_step (o := ?oB12) (rest := ?rsB12) ?hoB12 ?hrB12 ?stB12
       case hoB12 => rfl
       case hrB12 => kernel_rfl
       case' stB12 =>
       intro KS hKS
       go_simp
       refine hKS.out _ _ (fun _ => (But.alloc _ _ _).trans (But.drew _ _)) ?_
       clear hKS KS
       refine wpTx_step (o := ?oB13) (rest := ?rsB13) ?hoB13 ?hrB13 ?stB13
       case hoB13 => rfl
       case hrB13 => kernel_rfl
       case' stB13 =>
       intro KS hKS
       refine step_append_lies _ (by rfl) _ _ _ (by rfl) w.heap.size 203 i0 _ 2 24 Tryz.underlying40 hi0 hz0 hz1 hz2 rfl (by omega) _ cs.length (clsCells cs) (by rfl) ((hO2.alloc _).drew)
          ⟨W.heap.size, 0, none⟩ 1 1 [.int .i64 pv, .string F] (by rfl) (by rfl) (World.news_of_block (cs := #[.int .i64 pv, .string F]) (t := 203) (fr := (0, 0)) (heap_alloc_new W _)) (by simp [Value.oneCell'])
          (by omega) (by unfold maxLen; omega) (by omega) (by simp; omega) (W.heap.size + 1) (by simp) ?_
       intro gg cap2 w2 hown2 hgrow hat hlt2
       have hSW : But (fun k => (Value.slice (some ⟨ga, 0, none⟩) cs.length cap).ownBlock = some k) W w2 := ((But.alloc _ _ _).trans (But.drew _ _)).trans (but_grown hgrow)
       refine hKS.out _ _ (fun _ => hSW) ?_
       clear hKS KS
       have y0 := (hSW.cell (p := ⟨bi, 0, none⟩) biltW abi).trans e0
       have y1 := (hSW.frozen (p := ⟨bi, 0, none⟩) biltW abi).trans g0
       refine wpTx_step (o := ?oB14) (rest := ?rsB14) ?hoB14 ?hrB14 ?stB14
       case hoB14 => rfl
       case hrB14 => kernel_rfl
       case' stB14 =>
       intro KS hKS
       go_simp
       refine hKS.out _ _ (fun h => absurd h (by decide)) ?_
       clear hKS KS
       refine wpTx_step (o := ?oB15) (rest := ?rsB15) ?hoB15 ?hrB15 ?stB15
       case hoB15 => rfl
       case hrB15 => kernel_rfl
       case' stB15 =>
       intro KS hKS
       go_simp
       refine hKS.out _ _ (fun h => absurd h (by decide)) ?_
       clear hKS KS
       refine wpTx_step (o := ?oB16) (rest := ?rsB16) ?hoB16 ?hrB16 ?stB16
       case hoB16 => rfl
       case hrB16 => kernel_rfl
       case' stB16 =>
       intro KS hKS
       go_simp
       refine hKS.out _ _ (fun h => absurd h (by decide)) ?_
       clear hKS KS
       refine wpTx_done rfl (by kernel_rfl) ?_
       have hR3 : RdB (w2.setCell ⟨bi, 0, none⟩ (.slice (some ⟨gg, 0, none⟩) (cs.length + 1) cap2)) b s j bad2 src bi vc vt := (hR2.but hSW ab).but (But.setB _ _ _ _) hbi
       have hI3 : ImB (w2.setCell ⟨bi, 0, none⟩ (.slice (some ⟨gg, 0, none⟩) (cs.length + 1) cap2)) bi (.slice (some ⟨gg, 0, none⟩) (cs.length + 1) cap2) (.slice none 0 0) (.slice none 0 0) := (hI2.but hSW abi).set0 _
       have hgg := owns_ge hown2 gg rfl
       have hO3 := owns_but hown2 (But.setB w2 bi 0 (.slice (some ⟨gg, 0, none⟩) (cs.length + 1) cap2)) (fun g hg h => by have := owns_ge hown2 g hg; omega)
       have hB3 : But (fun k => k = b ∨ k = bi) w (w2.setCell ⟨bi, 0, none⟩ (.slice (some ⟨gg, 0, none⟩) (cs.length + 1) cap2)) :=
        (hBW2.next hSW (fun k hk h => absurd (owns_ge hO2 k h) (by omega))).next (But.setB _ _ _ _) (fun _ _ h => Or.inr h)
       clear y0 y1 e0 e4 g0 k0 k1 hSW hgrow
       generalize (w2.setCell ⟨bi, 0, none⟩ (.slice (some ⟨gg, 0, none⟩) (cs.length + 1) cap2)) = W3 at *
       go_wp2_with (go_at_call 127; refine (peek_any b s j bad2 src bi vc vt _ hs hR3).mono ?_; rintro en w' ⟨rfl, n3, rfl⟩)
       rcases HLK.out with ⟨rfl, tl, rfl, ht⟩ | ⟨rfl, ht⟩
       ·go_roundg (f + 1)
        case measure => omega
        case rel =>
         refine ⟨j, false, rfl, hB3.next (But.drewN (fun _ => False) _ _) (fun _ _ h => h.elim), hR3.drewN _, Or.inl ⟨rfl, f, cs ++ [⟨pv, inh cs pv ++ tl⟩], _, rfl, by simp; omega, wf_snoc hwf HPAR.out ht, ?_, hI3, ?_⟩⟩
         ·rw [← HT.out, clsP, if_neg HNE.out, HPAR.out]
          simp only [ht]
         ·rw [clsCells_snoc, List.length_append]
          have hF := HF.out
          rw [show (⟨(inh cs pv ++ tl).toArray⟩ : ByteArray) = F from by rw [← hF]; exact (bytes_append _ _).symm]
          exact hO3
       ·go_roundg 0
        case measure => omega
        case rel =>
         refine ⟨j, true, rfl, hB3.next (But.drewN (fun _ => False) _ _) (fun _ _ h => h.elim), hR3.drewN _, Or.inr ⟨rfl, rfl, ?_⟩⟩
         rw [← HT.out, clsP, if_neg HNE.out, HPAR.out]
         simp only [ht]
  ·go_wp2_with fail
   go_end0
   exact ⟨rfl, hB, hRr⟩
end
end Go.Proofs.YtpfkkmacakjmbaaGreatDoor
