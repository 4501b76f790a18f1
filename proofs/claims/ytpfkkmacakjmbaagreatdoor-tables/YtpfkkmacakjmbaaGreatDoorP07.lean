import Derived.Test.YtpfkkmacakjmbaaGreatDoorP06
namespace Go.Proofs.YtpfkkmacakjmbaaGreatDoor
open Go Go.RowKit Sp
set_option linter.unusedSimpArgs false
set_option linter.unusedVariables false
theorem any_take_succ (l : List UInt8) (k : Nat) (p : UInt8 → Bool) (h : k < l.length) : (l.take (k + 1)).any p = ((l.take k).any p || p l[k]) := by
 rw [List.take_succ_eq_append_getElem h, List.any_append]; simp
theorem bget (s : ByteArray) (k : Nat) (h : k < s.size) (h' : k < s.data.toList.length) : s.data.toList[k] = s[k] := Array.getElem_toList (xs := s.data) (i := k) h
theorem blen (s : ByteArray) : s.data.toList.length = s.size := Array.length_toList
set_option maxHeartbeats 400000 in
theorem among_any (s : ByteArray) (c : Nat) (w : World) (hs : s.size ≤ 2000) :
  Calls Tryz.prog 186 #[.int .u8 c, .string s] w fun en w' => en = .returned (.bool (s.data.toList.any fun x => x.toNat == c)) ∧ w' = w := by
 obtain ⟨bb, hbb⟩ : ∃ bb, (s.data.toList.any fun x => x.toNat == c) = bb := ⟨_, rfl⟩
 rw [hbb]
 have HB : Hid ((s.data.toList.any fun x => x.toNat == c) = bb) := hbb
 clear hbb
 go_enter Tryz.func186, Tryz.ntmps186
 go_wp2
 go_loop [5] (fun t => ∃ k : Nat, k ≤ s.size ∧ t = .int .i64 k ∧ Hid ((s.data.toList.take k).any (fun x => x.toNat == c) = false)) (fun t => s.size - (intOf t).toNat)
 case atStart => exact ⟨0, Nat.zero_le _, rfl, by show _ = _; simp⟩
 case round =>
  obtain ⟨k, hk, rfl, HA⟩ := hrel
  by_cases hlt : k < s.size
  ·by_cases he : s[k].toNat = c
   ·have hb : ((s[k].toNat : Int) == (c : Int)) = true := by rw [beq_iff_eq]; omega
    have hfin : bb = true := by
     rw [← HB.out, List.any_eq_true]
     exact ⟨s[k], by rw [← bget s k hlt (by rw [blen]; exact hlt)]; exact List.getElem_mem _, by simp [he]⟩
    subst hfin
    clear he
    go_wp2
    go_ret
    exact ⟨rfl, rfl⟩
   ·have hb : ((s[k].toNat : Int) == (c : Int)) = false := by rw [beq_eq_false_iff_ne]; omega
    have HN : Hid ((s.data.toList.take (k + 1)).any (fun x => x.toNat == c) = false) := by
     show _ = _
     rw [any_take_succ _ _ _ (by rw [blen]; exact hlt), HA.out, bget s k hlt]; simp [he]
    clear he
    go_wp2
    go_round
    case rel => exact ⟨k + 1, by omega, by go_num, HN⟩
    case measure => simp [intOf]; omega
  ·have hfin : bb = false := by
    have := HA.out
    rw [List.take_of_length_le (by rw [blen]; omega)] at this
    rw [← HB.out, this]
   subst hfin
   go_wp2
   go_ret
   exact ⟨rfl, rfl⟩
def codeLetters : List UInt8 := [107, 114, 119, 108, 115, 43, 45, 42, 47, 60, 61, 101, 110, 122, 103, 112, 99, 120, 100, 106, 102, 116]
theorem codeLetters_map : codeLetters.map (fun x => x.toNat) = letters := by decide
theorem codeLetters_any (c : Nat) : (codeLetters.any fun x => x.toNat == c) = letters.contains c := by
 rw [← codeLetters_map, List.contains_eq_any_beq, List.any_map]
 congr 1
 funext x
 exact Bool.beq_comm
theorem among_code (c : Nat) (w : World) :
  Calls Tryz.prog 186 #[.int .u8 c, .string ⟨#[107, 114, 119, 108, 115, 43, 45, 42, 47, 60, 61, 101, 110, 122, 103, 112, 99, 120, 100, 106, 102, 116]⟩] w fun en w' => en = .returned (.bool (letters.contains c)) ∧ w' = w := by
 rw [← codeLetters_any]
 exact among_any ⟨codeLetters.toArray⟩ c w (by decide)
end Go.Proofs.YtpfkkmacakjmbaaGreatDoor
namespace Go.Proofs.YtpfkkmacakjmbaaGreatDoor
open Go Go.RowKit Sp
set_option linter.unusedSimpArgs false
set_option linter.unusedVariables false
theorem info_ins : (Tryz.prog.info? 144).map (fun i => (i.zero, i.size, i.bytes)) = some (some (.agg #[.int .u8 0, .int .i64 0, .int .i64 0, .int .i64 0]), 4, 32) := by kernel_rfl
theorem Heads.but {F : Nat → Prop} {w w' : World} {base top bi : Nat} {cs : List Cls} {gs : List Sig} {v2 : Value} (h : Heads w base top bi cs gs v2) (hb : But F w w') (hbi : ¬ F bi) (hF : ∀ k, F k → k < base ∨ top ≤ k) : Heads w' base top bi cs gs v2 := by
 obtain ⟨h1, h2, h3, v0, v1, hI, hO, hO', ht⟩ := h
 exact ⟨h1, h2, h3, v0, v1, hI.but hb hbi, owns_but hO hb (fun g hg h => by have := owns_ge hO g hg; have := hF g h; have := ht g (Or.inl hg); omega), owns_but hO' hb (fun g hg h => by have := owns_ge hO' g hg; have := hF g h; have := ht g (Or.inr hg); omega), ht⟩
section
variable (b : Nat) (s : ByteArray) (i : Nat) (src : Bool) (bi : Nat) (vt : Value) (w : World)
set_option maxHeartbeats 1600000 in
set_option maxRecDepth 100000 in
theorem code_any (base top : Nat) (cs : List Cls) (gs : List Sig) (v2 : Value) (nl : Nat) (hnl : nl ≤ 5) (hs : s.size ≤ 2000) (hbi : b ≠ bi) (hbb : b < base) (hR : RdB w b s i false src bi (.slice none 0 0) vt) (hH : Heads w base top bi cs gs v2) :
  Calls Tryz.prog 134 #[.pointer (some ⟨b, 0, none⟩), .int .i64 nl] w fun en w' => en = .returned (.tuple #[]) ∧ But (· = b) w w' ∧
   ∃ j bad vc, RdB w' b s j bad src bi vc vt ∧ ((bad = false ∧ ∃ is : List Ins, codeP s cs gs.length nl 100 [] i = .ok (is, j + 1) ∧ (pk s j).toNat = 46 ∧ is.length ≤ 100 ∧ w'.ownsRow w.heap.size 144 4 vc is.length (insCells is)) ∨ (bad = true ∧ codeP s cs gs.length nl 100 [] i = .error j)) := by
 obtain ⟨R, hRR⟩ : ∃ R, codeP s cs gs.length nl 100 [] i = R := ⟨_, rfl⟩
 rw [hRR]
 have HRR : Hid (codeP s cs gs.length nl 100 [] i = R) := hRR
 clear hRR
 obtain ⟨i0, hi0, hz0, hz1, hz2⟩ := info_parts info_ins
 go_enter Tryz.func134, Tryz.ntmps134
 go_wp2_with (go_at_call 127; refine (peek_any b s i false src bi _ vt _ hs hR).mono ?_; rintro en w' ⟨rfl, nn, rfl⟩)
 go_loopg [4] 101 (fun m c wr => ∃ (i' : Nat) (bad' : Bool) (vc : Value), c = .int .u8 (pk s i').toNat ∧ But (· = b) w wr ∧ RdB wr b s i' bad' src bi vc vt ∧
  ((bad' = false ∧ ∃ f is, m = f + 1 ∧ f + List.length is = 100 ∧ codeP s cs gs.length nl f is i' = R ∧ wr.ownsRow w.heap.size 144 4 vc is.length (insCells is)) ∨ (bad' = true ∧ m = 0 ∧ R = .error i')))
 case atStart => exact ⟨i, false, _, rfl, But.drewN _ _ _, hR.drewN _, Or.inl ⟨rfl, 100, [], rfl, rfl, HRR.out, owns_nil _ _ _ _⟩⟩
 case round =>
  obtain ⟨i', bad', vc, rfl, hB, hRr, hcase⟩ := hrel
  have c1 := hRr.c1
  have c2 := hRr.c2
  have c5 := hRr.c5
  have f1 := hRr.fz 1
  have f2 := hRr.fz 2
  rcases hcase with ⟨rfl, f, is, rfl, hfl, hty, hown⟩ | ⟨rfl, rfl, rfl⟩
  ·have HT : Hid (codeP s cs gs.length nl f is i' = R) := hty
   have hfl1 : f + is.length ≤ 100 := by omega
   have hfl2 : 100 ≤ f + is.length := by omega
   have blt := hRr.lt
   clear hty hfl
   obtain ⟨ao, cap, rfl⟩ := owns_len hown
   by_cases hpe : (pk s i').toNat = 46 ∧ is ≠ []
   · -- the end
    have hne : (((pk s i').toNat : Int) != 46) = false := by rw [bne_eq_false_iff_eq]; omega
    have hil : 0 < is.length := List.length_pos_iff.2 hpe.2
    have hil' : ((is.length : Int) == 0) = false := by rw [beq_eq_false_iff_ne]; omega
    have hres : R = .ok (is, i' + 1) := by rw [← HT.out]; cases f <;> simp [codeP, hpe]
    have HP : Hid ((pk s i').toNat = 46) := hpe.1
    subst hres
    clear HT hpe
    go_wp2_with fail
    go_end0
    exact ⟨rfl, hB, i', false, _, hRr, Or.inl ⟨rfl, is, rfl, HP.out, by omega, hown⟩⟩
   ·have HNE : Hid (¬ ((pk s i').toNat = 46 ∧ is ≠ [])) := hpe
    clear hpe
    cases f with
    | zero =>
     have hres : R = .error i' := by rw [← HT.out]; simp only [codeP, if_neg HNE.out]
     subst hres
     have hlen : (100 : Int) ≤ (is.length : Int) := by omega
     have hil : is ≠ [] := List.length_pos_iff.1 (by omega)
     have hne : (((pk s i').toNat : Int) != 46) = true := by
      rw [bne_iff_ne]; intro h; exact HNE.out ⟨by omega, hil⟩
     clear HT hil
     cases hk : letters.contains (pk s i').toNat with
     | true =>
      go_wp2_with (go_at_call 186; refine (among_code (pk s i').toNat _).mono ?_; rw [hk]; rintro en wx ⟨rfl, hwx⟩; rw [hwx]; clear hwx wx)
      exact bodyPost_ret (v := .tuple #[]) (by simp [results, Tryz.results134, go_sem]) rfl ⟨rfl, hB.trans (But.setB _ _ _ _), i', true, _, hRr.set2 true, Or.inr ⟨rfl, rfl⟩⟩
     | false =>
      go_wp2_with (go_at_call 186; refine (among_code (pk s i').toNat _).mono ?_; rw [hk]; rintro en wx ⟨rfl, hwx⟩; rw [hwx]; clear hwx wx)
      exact bodyPost_ret (v := .tuple #[]) (by simp [results, Tryz.results134, go_sem]) rfl ⟨rfl, hB.trans (But.setB _ _ _ _), i', true, _, hRr.set2 true, Or.inr ⟨rfl, rfl⟩⟩
    | succ f =>
     have hlen : ¬ (100 : Int) ≤ (is.length : Int) := by omega
     cases hk : letters.contains (pk s i').toNat with
     | false =>
      have hres : R = .error i' := by rw [← HT.out]; simp only [codeP, if_neg HNE.out, insP, hk]; rfl
      subst hres
      have hcase : (((pk s i').toNat : Int) != 46) = true ∨ ((((pk s i').toNat : Int) != 46) = false ∧ ((is.length : Int) == 0) = true) := by
       by_cases h : (pk s i').toNat = 46
       ·right
        refine ⟨by rw [bne_eq_false_iff_eq]; omega, ?_⟩
        have : is = [] := Classical.byContradiction fun h' => HNE.out ⟨h, h'⟩
        rw [this]; rfl
       ·left; rw [bne_iff_ne]; omega
      clear HT
      rcases hcase with hne | ⟨hne, hil⟩
      ·go_wp2_with (go_at_call 186; refine (among_code (pk s i').toNat _).mono ?_; rw [hk]; rintro en wx ⟨rfl, hwx⟩; rw [hwx]; clear hwx wx)
       exact bodyPost_ret (v := .tuple #[]) (by simp [results, Tryz.results134, go_sem]) rfl ⟨rfl, hB.trans (But.setB _ _ _ _), i', true, _, hRr.set2 true, Or.inr ⟨rfl, rfl⟩⟩
      ·have hil2 : ((0 : Int) == 0) = true := rfl
       go_wp2_with (go_at_call 186; refine (among_code (pk s i').toNat _).mono ?_; rw [hk]; rintro en wx ⟨rfl, hwx⟩; rw [hwx]; clear hwx wx)
       exact bodyPost_ret (v := .tuple #[]) (by simp [results, Tryz.results134, go_sem]) rfl ⟨rfl, hB.trans (But.setB _ _ _ _), i', true, _, hRr.set2 true, Or.inr ⟨rfl, rfl⟩⟩
     | true =>
      have h46 : (pk s i').toNat ≠ 46 := by intro h; rw [h] at hk; exact absurd hk (by decide)
      have h0 : 0 < (pk s i').toNat := by
       rcases Nat.eq_zero_or_pos (pk s i').toNat with h | h
       ·rw [h] at hk; exact absurd hk (by decide)
       ·exact h
      have hi : i' < s.size := pk_lt h0
      have hne : (((pk s i').toNat : Int) != 46) = true := by rw [bne_iff_ne]; omega
      have hHr : Heads wr base top bi cs gs v2 := hH.but hB (fun h => hbi h.symm) (fun k h => by omega)
      have hcl := (pk s i').toNat_lt
      have HK : Hid (letters.contains (pk s i').toNat = true) := hk
      have hwr := hB.size
      have hbw := hR.lt
      clear h46 h0
      clear hk
      go_wp2_with fail
      refine (among_code (pk s i').toNat _).mono ?_
      rw [HK.out]
      rintro en wx ⟨rfl, hwx⟩
      rw [hwx]
      clear hwx wx
      go_wp2_with fail
      refine (oper_any b s (i' + 1) src bi _ vt _ base top cs gs v2 (pk s i').toNat nl (by omega) hnl hs hbi hbb hRr.inc (hHr.but (But.setB _ _ _ _) (fun h => hbi h.symm) (fun k h => by omega))).mono ?_
      rintro en w1 ⟨hB1, x, y, j, bad2, rfl, hR1, hlink⟩
      have HLK : Hid ((bad2 = false ∧ ∃ a d : Nat, x = a ∧ y = d ∧ operP s cs gs.length nl (pk s i').toNat (i' + 1) = .ok (a, d, j)) ∨ (bad2 = true ∧ operP s cs gs.length nl (pk s i').toNat (i' + 1) = .error j)) := hlink
      clear hlink
      have hBr : But (· = b) wr w1 := (But.setB _ _ _ _).trans hB1
      have hBW : But (· = b) w w1 := hB.trans hBr
      have hO1 := owns_but hown hBr (fun g hg h => by have := owns_ge hown g hg; omega)
      have hw1 := hBW.size
      have e5 := hR1.c5
      have q5 := hR1.fz 5
      have ab : (Value.slice ao is.length cap).ownBlock ≠ some b := fun h => by have := owns_ge hO1 _ h; omega
      have blt1 := hR1.lt
      clear c1 c2 c5 f1 f2
      go_wp2_with (at_builtin; refine wpList_append_lies _ rfl _ _ _ rfl w.heap.size 144 i0 _ 4 32 Tryz.underlying49 hi0 hz0 hz1 hz2 rfl (by omega) _ is.length (insCells is) rfl (hO1.alloc _) ⟨w1.heap.size, 0, none⟩ 1 1 [.int .u8 (pk s i').toNat, .int .i64 x, .int .i64 y, .int .i64 i'] rfl rfl (World.news_of_block (cs := #[.int .u8 (pk s i').toNat, .int .i64 x, .int .i64 y, .int .i64 i']) (t := 144) (fr := (0, 0)) (heap_alloc_new w1 _)) (by simp [Value.oneCell']) (by omega) (by unfold maxLen; omega) (by omega) (by simp; omega) (w1.heap.size + 1) (by simp) ?_)
      intro gg cap2 w2 hown2 hgrow hat hlt2
      have hSW : But (fun k => (Value.slice ao is.length cap).ownBlock = some k) w1 w2 := (But.alloc _ _ _).trans (but_grown hgrow)
      have y0 := (hSW.cell (p := ⟨b, 5, none⟩) blt1 ab).trans e5
      have y1 := (hSW.frozen (p := ⟨b, 5, none⟩) blt1 ab).trans q5
      have hR2 := hR1.but hSW ab
      have hB2 : But (· = b) w w2 := hBW.next hSW (fun k hk h => absurd (owns_ge hO1 k h) (by omega))
      have hgg := owns_ge hown2 gg rfl
      have hO3 := owns_but hown2 (But.setB w2 b 5 (.slice (some ⟨gg, 0, none⟩) (is.length + 1) cap2)) (fun g hg h => by have := owns_ge hown2 g hg; omega)
      clear e5 q5 hSW hgrow
      go_wp2_with (go_at_call 127; refine (peek_any b s j bad2 src bi _ vt _ hs (hR2.set5 _)).mono ?_; rintro en w' ⟨rfl, n3, rfl⟩)
      rcases HLK.out with ⟨rfl, a, d, rfl, rfl, ht⟩ | ⟨rfl, ht⟩
      ·go_roundg (f + 1)
       case measure => omega
       case rel =>
        refine ⟨j, false, _, rfl, (hB2.trans (But.setB _ _ _ _)).trans (But.drewN _ _ _), (hR2.set5 _).drewN _, Or.inl ⟨rfl, f, is ++ [⟨pk s i', a, d, i'⟩], rfl, by simp; omega, ?_, ?_⟩⟩
        ·rw [← HT.out]; simp only [codeP, if_neg HNE.out, insP, if_pos HK.out, ht]
        ·rw [insCells_snoc, List.length_append]; exact hO3
      ·go_roundg 0
       case measure => omega
       case rel =>
        refine ⟨j, true, _, rfl, (hB2.trans (But.setB _ _ _ _)).trans (But.drewN _ _ _), (hR2.set5 _).drewN _, Or.inr ⟨rfl, rfl, ?_⟩⟩
        rw [← HT.out]; simp only [codeP, if_neg HNE.out, insP, if_pos HK.out, ht]
  ·go_wp2_with fail
   go_end0
   exact ⟨rfl, hB, i', true, _, hRr, Or.inr ⟨rfl, rfl⟩⟩
end
end Go.Proofs.YtpfkkmacakjmbaaGreatDoor
namespace Go.Proofs.YtpfkkmacakjmbaaGreatDoor
open Go Go.RowKit Sp
set_option linter.unusedSimpArgs false
set_option linter.unusedVariables false
theorem ownI_some {bs : List Bod} {x m : Int} {k : Nat} (hk : k < bs.length) (h : bs[k].cls = x ∧ bs[k].meth = m) (hno : ∀ j (hj : j < bs.length), j < k → ¬ (bs[j].cls = x ∧ bs[j].meth = m)) : ownI bs x m = k := by
 have : ownB bs x m = some k := by
  unfold ownB
  rw [List.findIdx?_eq_some_iff_getElem]
  refine ⟨hk, by simp [h.1, h.2], fun j hj => ?_⟩
  have := hno j (by omega) hj
  simpa using this
 simp [ownI, this]
theorem ownI_none {bs : List Bod} {x m : Int} (hno : ∀ j (hj : j < bs.length), ¬ (bs[j].cls = x ∧ bs[j].meth = m)) : ownI bs x m = -1 := by
 have : ownB bs x m = none := by
  unfold ownB
  rw [List.findIdx?_eq_none_iff]
  intro b hb
  obtain ⟨j, hj, rfl⟩ := List.getElem_of_mem hb
  simpa using hno j hj
 simp [ownI, this]
set_option maxHeartbeats 800000 in
set_option maxRecDepth 100000 in
theorem own_any (base bi : Nat) (v0 v1 v2 : Value) (l : List (Bod × Value × Value)) (x m : Int) (w : World) (hl : l.length ≤ 100) (hI : ImB w bi v0 v1 v2) (hO : w.ownsRow base 52 5 v2 l.length (bodCells l)) :
  Calls Tryz.prog 132 #[.pointer (some ⟨bi, 0, none⟩), .int .i64 x, .int .i64 m] w fun en w' => en = .returned (.int .i64 (ownI (l.map (·.1)) x m)) ∧ w' = w := by
 obtain ⟨R, hRR⟩ : ∃ R, ownI (l.map (·.1)) x m = R := ⟨_, rfl⟩
 rw [hRR]
 have HRR : Hid (ownI (l.map (·.1)) x m = R) := hRR
 clear hRR
 obtain ⟨ao, cap, rfl⟩ := owns_len hO
 have d2 := hI.c2
 go_enter Tryz.func132, Tryz.ntmps132
 go_wp2
 go_loop [7] (fun t => ∃ k : Nat, k ≤ l.length ∧ t = .int .i64 k ∧ Hid (∀ j (hj : j < l.length), j < k → ¬ (l[j].1.cls = x ∧ l[j].1.meth = m))) (fun t => l.length - (intOf t).toNat)
 case atStart => exact ⟨0, Nat.zero_le _, rfl, fun j hj h => absurd h (by omega)⟩
 case round =>
  obtain ⟨k, hk, rfl, HA⟩ := hrel
  by_cases hlt : k < l.length
  ·have hgl := List.getElem?_eq_getElem hlt
   obtain ⟨g, rfl, hg1, hg2, hcell⟩ := owns_two hO (by omega)
   have hc0 := hcell _ _ (bodCells_at0 hgl)
   have hc1 := hcell _ _ (bodCells_at1 hgl)
   clear hcell
   have hlt' : (k : Int) < (l.length : Int) := by omega
   clear hgl
   by_cases h1 : l[k].1.cls = x
   ·by_cases h2 : l[k].1.meth = m
    ·have hres : R = k := by
      rw [← HRR.out]
      refine ownI_some (by simpa using hlt) (by simp [h1, h2]) (fun j hj hjk => ?_)
      have := HA.out j (by simpa using hj) hjk
      simpa using this
     subst hres
     have b1 : (l[k].1.cls == x) = true := by simpa using h1
     have b2 : (l[k].1.meth == m) = true := by simpa using h2
     clear h1 h2
     go_wp2
     go_ret
     exact ⟨rfl, rfl⟩
    ·have b1 : (l[k].1.cls == x) = true := by simpa using h1
     have b2 : (l[k].1.meth == m) = false := by simpa using h2
     have HN : Hid (∀ j (hj : j < l.length), j < k + 1 → ¬ (l[j].1.cls = x ∧ l[j].1.meth = m)) := by
      intro j hj hjk
      rcases Nat.lt_or_ge j k with h | h
      ·exact HA.out j hj h
      ·have : j = k := by omega
       subst this
       exact fun h => h2 h.2
     clear h1 h2
     go_wp2
     go_round
     case rel => exact ⟨k + 1, by omega, by go_num, HN⟩
     case measure => simp [intOf]; omega
   ·have b1 : (l[k].1.cls == x) = false := by simpa using h1
    have HN : Hid (∀ j (hj : j < l.length), j < k + 1 → ¬ (l[j].1.cls = x ∧ l[j].1.meth = m)) := by
     intro j hj hjk
     rcases Nat.lt_or_ge j k with h | h
     ·exact HA.out j hj h
     ·have : j = k := by omega
      subst this
      exact fun h => h1 h.1
    clear h1
    go_wp2
    go_round
    case rel => exact ⟨k + 1, by omega, by go_num, HN⟩
    case measure => simp [intOf]; omega
  ·have hres : R = -1 := by
    rw [← HRR.out]
    refine ownI_none (fun j hj => ?_)
    have := HA.out j (by simpa using hj) (by simp at hj; omega)
    simpa using this
   subst hres
   go_wp2
   go_ret
   exact ⟨rfl, rfl⟩
end Go.Proofs.YtpfkkmacakjmbaaGreatDoor
namespace Go.Proofs.YtpfkkmacakjmbaaGreatDoor
open Go Go.RowKit Sp
set_option linter.unusedSimpArgs false
set_option linter.unusedVariables false
attribute [local go_sem ↓] Go.wp_at_zero Go.wp_at_succ
theorem info_bod : (Tryz.prog.info? 52).map (fun i => (i.zero, i.size, i.bytes)) = some (some (.agg #[.int .i64 0, .int .i64 0, .string ⟨#[]⟩, .slice none 0 0, .slice none 0 0]), 5, 80) := by kernel_rfl
/-- The bodies that have been read. -/
structure Bods (w : World) (top : Nat) (v2 : Value) (l : List (Bod × Value × Value)) : Prop where
 own : w.ownsRow top 52 5 v2 l.length (bodCells l)
 code : ∀ x ∈ l, w.ownsRow top 144 4 x.2.1 x.1.code.length (insCells x.1.code) ∧ x.2.2 = .slice none 0 0 ∧ (∀ g, x.2.1.ownBlock = some g → v2.ownBlock ≠ some g)
theorem Bods.but {F : Nat → Prop} {w w' : World} {top : Nat} {v2 : Value} {l : List (Bod × Value × Value)} (h : Bods w top v2 l) (hb : But F w w') (hF : ∀ k, F k → k < top) : Bods w' top v2 l :=
 ⟨owns_but h.own hb (fun g hg hf => by have := owns_ge h.own g hg; have := hF g hf; omega), fun x hx => ⟨owns_but (h.code x hx).1 hb (fun g hg hf => by have := owns_ge (h.code x hx).1 g hg; have := hF g hf; omega), (h.code x hx).2⟩⟩
section
variable (b : Nat) (s : ByteArray) (i : Nat) (bi : Nat) (vc vt : Value) (w : World)
set_option maxHeartbeats 1600000 in
set_option maxRecDepth 100000 in
theorem inner_any (base top : Nat) (cs : List Cls) (gs : List Sig) (v2 : Value) (l : List (Bod × Value × Value)) (cl me : Int) (loc : List UInt8) (hll : l.length ≤ 7) (hloc : loc.length ≤ 5) (hs : s.size ≤ 2000) (hbi : b ≠ bi) (hbb : b < base) (hbib : bi < base) (hbt : base ≤ top) (hR : RdB w b s i false false bi vc vt) (hH : Heads w base top bi cs gs v2) (hBd : Bods w top v2 l) (htw : top ≤ w.heap.size) :
  Calls Tryz.prog 80 #[.pointer (some ⟨b, 0, none⟩), .agg #[.int .i64 cl, .int .i64 me, .string ⟨loc.toArray⟩, .slice none 0 0, .slice none 0 0]] w fun en w' => en = .returned (.tuple #[]) ∧ But (fun k => k = b ∨ k = bi ∨ top ≤ k) w w' ∧
   ∃ j bad vc' vt', RdB w' b s j bad false bi vc' vt' ∧
    ((bad = false ∧ ∃ is vk v2', codeP s cs gs.length loc.length 100 [] i = .ok (is, j) ∧ Heads w' base top bi cs gs v2' ∧ Bods w' top v2' (l ++ [(⟨cl, me, loc, is⟩, vk, .slice none 0 0)])) ∨ (bad = true ∧ codeP s cs gs.length loc.length 100 [] i = .error j)) := by
 obtain ⟨i0, hi0, hz0, hz1, hz2⟩ := info_parts info_bod
 have c3 := hR.c3
 have c5 := hR.c5
 have c6 := hR.c6
 have f5 := hR.fz 5
 have f6 := hR.fz 6
 have blt := hR.lt
 go_enter Tryz.func80, Tryz.ntmps80
 go_wp2_with fail
 have hRw : RdB ((w.setCell ⟨b, 5, none⟩ (.slice none 0 0)).setCell ⟨b, 6, none⟩ (.slice none 0 0)) b s i false false bi (.slice none 0 0) (.slice none 0 0) := (hR.set5 _).set6 _
 have hBw : But (· = b) w ((w.setCell ⟨b, 5, none⟩ (.slice none 0 0)).setCell ⟨b, 6, none⟩ (.slice none 0 0)) := (But.setB _ _ _ _).trans (But.setB _ _ _ _)
 have hsz : ((w.setCell ⟨b, 5, none⟩ (.slice none 0 0)).setCell ⟨b, 6, none⟩ (.slice none 0 0)).heap.size = w.heap.size := by rw [size_setCell, size_setCell]
 generalize ((w.setCell ⟨b, 5, none⟩ (.slice none 0 0)).setCell ⟨b, 6, none⟩ (.slice none 0 0)) = w0 at *
 have hB0 : But (· = b) w (w0.alloc (.cells #[.int .i64 cl, .int .i64 me, .string ⟨loc.toArray⟩, .slice none 0 0, .slice none 0 0] 52)) := hBw.trans (But.alloc _ _ _)
 have hbile : bi < base := hbib
 refine (code_any b s i false bi _ _ base top cs gs v2 loc.length hloc hs hbi hbb (hRw.alloc _) (hH.but hB0 (fun h => hbi h.symm) (fun k h => by omega))).mono ?_
 rintro en w1 ⟨rfl, hB1, j, bad, vc1, hR1, hlink⟩
 have hgk1 : w1.heap[w.heap.size]? = some (.cells #[.int .i64 cl, .int .i64 me, .string ⟨loc.toArray⟩, .slice none 0 0, .slice none 0 0] 52) := by
  rw [hB1.block _ (by simp; omega) (by omega)]; exact heap_alloc_at hsz _
 have hBw1 : But (· = b) w w1 := hB0.trans hB1
 have e2 := hR1.c2
 clear c3 c5 c6 f5 f6
 rcases hlink with ⟨rfl, is, hcode, hdot, hisl, hown⟩ | ⟨rfl, hcode⟩
 ·have HC : Hid (codeP s cs gs.length loc.length 100 [] i = .ok (is, j + 1)) := hcode
  obtain ⟨ak, capk, rfl⟩ := owns_len hown
  have HD : Hid (pk s j = 46) := UInt8.toNat_inj.1 (by rw [hdot]; rfl)
  clear hcode hdot
  go_wp2_with fail
  refine (eat_ok b s j false false bi _ _ _ 46 hs hR1 (by decide) HD.out).mono ?_
  rintro en w2 ⟨rfl, hB2, hR2⟩
  have hgk2 : w2.heap[w.heap.size]? = some (.cells #[.int .i64 cl, .int .i64 me, .string ⟨loc.toArray⟩, .slice none 0 0, .slice none 0 0] 52) := by
   rw [hB2.block _ (lt_of_block hgk1) (by omega)]; exact hgk1
  have hBw2 : But (· = b) w w2 := hBw1.trans hB2
  have hOk : w2.ownsRow top 144 4 (.slice ak is.length capk) is.length (insCells is) := by
   have := owns_but hown hB2 (fun g hg h => by have := owns_ge hown g hg; simp at this; omega)
   refine ⟨this.1, ?_⟩
   rcases this.2 with h | ⟨g, cp, cur, h1, h2, h3⟩
   ·exact Or.inl h
   ·exact Or.inr ⟨g, cp, cur, h1, by simp at h2; omega, h3⟩
  have hkge : ∀ g, (Value.slice ak is.length capk).ownBlock = some g → w.heap.size < g := fun g hg => by have := owns_ge hown g hg; simp at this; omega
  have hklt := owns_lt hOk
  have e5 := hR2.c5
  have e6 := hR2.c6
  have k3 : w2.cell? ⟨w.heap.size, 3, none⟩ = some (.slice none 0 0) := by rw [cell_of_row w2 _ 3 _ _ (0, 0) hgk2]; rfl
  have k4 : w2.cell? ⟨w.heap.size, 4, none⟩ = some (.slice none 0 0) := by rw [cell_of_row w2 _ 4 _ _ (0, 0) hgk2]; rfl
  have kf3 : w2.frozen? ⟨w.heap.size, 3, none⟩ = false := frozen_of_row w2 _ 3 _ _ hgk2
  have kf4 : w2.frozen? ⟨w.heap.size, 4, none⟩ = false := frozen_of_row w2 _ 4 _ _ hgk2
  have hbne : b ≠ w.heap.size := by omega
  have hbne' : w.heap.size ≠ b := by omega
  clear e2
  go_wp2_with fail
  have hgkW : ((w2.setCell ⟨w.heap.size, 3, none⟩ (.slice ak is.length capk)).setCell ⟨w.heap.size, 4, none⟩ (.slice none 0 0)).heap[w.heap.size]? = some (.cells #[.int .i64 cl, .int .i64 me, .string ⟨loc.toArray⟩, .slice ak is.length capk, .slice none 0 0] 52) := heap_setCell_same _ _ 4 _ _ _ (heap_setCell_same w2 _ 3 _ _ _ hgk2)
  have hB3 : But (· = w.heap.size) w2 ((w2.setCell ⟨w.heap.size, 3, none⟩ (.slice ak is.length capk)).setCell ⟨w.heap.size, 4, none⟩ (.slice none 0 0)) := (But.setB _ _ _ _).trans (But.setB _ _ _ _)
  generalize ((w2.setCell ⟨w.heap.size, 3, none⟩ (.slice ak is.length capk)).setCell ⟨w.heap.size, 4, none⟩ (.slice none 0 0)) = W at *
  have hRW : RdB W b s (j + 1) false false bi (.slice ak is.length capk) (.slice none 0 0) := hR2.but hB3 hbne
  have hBW : But (· = b) w W := hBw2.next hB3 (fun k hk h => by omega)
  have hHW : Heads W base top bi cs gs v2 := hH.but hBW (fun h => hbi h.symm) (fun k h => by omega)
  have hDW : Bods W top v2 l := hBd.but hBW (fun k h => by omega)
  have hOkW := owns_but hOk hB3 (fun g hg h => by have := hkge g hg; omega)
  obtain ⟨hwf, hnc, hns, v0, v1, hIW, hO0, hO1, hvt⟩ := hHW
  obtain ⟨a2, cap2, rfl⟩ := owns_len hBd.own
  have hOW := hDW.own
  have hlt2 := owns_lt hBd.own
  have e4 := hRW.c4
  have i2 := hIW.c2
  have iz := hIW.fz 2
  have bltW := hRW.lt
  have biltW := hIW.lt
  have gltW := lt_of_block hgkW
  have k0 : W.cell? ⟨w.heap.size, 0, none⟩ = some (.int .i64 cl) := by rw [cell_of_row W _ 0 _ _ (0, 0) hgkW]; rfl
  have k1 : W.cell? ⟨w.heap.size, 1, none⟩ = some (.int .i64 me) := by rw [cell_of_row W _ 1 _ _ (0, 0) hgkW]; rfl
  have k2 : W.cell? ⟨w.heap.size, 2, none⟩ = some (.string ⟨loc.toArray⟩) := by rw [cell_of_row W _ 2 _ _ (0, 0) hgkW]; rfl
  have k3' : W.cell? ⟨w.heap.size, 3, none⟩ = some (.slice ak is.length capk) := by rw [cell_of_row W _ 3 _ _ (0, 0) hgkW]; rfl
  have k4' : W.cell? ⟨w.heap.size, 4, none⟩ = some (.slice none 0 0) := by rw [cell_of_row W _ 4 _ _ (0, 0) hgkW]; rfl
  have ab : (Value.slice a2 l.length cap2).ownBlock ≠ some b := fun h => by have := owns_ge hOW _ h; omega
  have abi : (Value.slice a2 l.length cap2).ownBlock ≠ some bi := fun h => by have := owns_ge hOW _ h; omega
  have agk : (Value.slice a2 l.length cap2).ownBlock ≠ some w.heap.size := fun h => by have := hlt2 _ h; omega
  have hS0 : But (fun k => (Value.slice a2 l.length cap2).ownBlock = some k) W W.drew := But.drew _ _
  refine wpTx_begin (But (fun k => (Value.slice a2 l.length cap2).ownBlock = some k) W) 14 (by kernel_rfl) ?_
  have fSA := hid (fun wS (h : (But (fun k => (Value.slice a2 l.length cap2).ownBlock = some k) W) wS) => (And.intro ((h.cell (p := ⟨b, 4, none⟩) bltW ab).trans e4) (And.intro ((h.cell (p := ⟨bi, 2, none⟩) biltW abi).trans i2) (And.intro ((h.cell (p := ⟨w.heap.size, 0, none⟩) gltW agk).trans k0) (And.intro ((h.cell (p := ⟨w.heap.size, 1, none⟩) gltW agk).trans k1) (And.intro ((h.cell (p := ⟨w.heap.size, 2, none⟩) gltW agk).trans k2) (And.intro ((h.cell (p := ⟨w.heap.size, 3, none⟩) gltW agk).trans k3') ((h.cell (p := ⟨w.heap.size, 4, none⟩) gltW agk).trans k4'))))))))
  refine wpTx_take (v := ?vA0) rfl (by kernel_rfl) ?qA0 rfl hS0 ?yA0 ?rA0
  case yA0 => intro wS h; obtain ⟨q0, q1, q2, q3, q4, q5, q6⟩ := fSA.out wS h; clear h; go_simp; try rfl
  case qA0 => exact fun _ _ _ h => h
  dsimp only [Act.put]
  try simp only [puts]
  refine wpTx_take (v := ?vA1) rfl (by kernel_rfl) ?qA1 rfl hS0 ?yA1 ?rA1
  case yA1 => intro wS h; obtain ⟨q0, q1, q2, q3, q4, q5, q6⟩ := fSA.out wS h; clear h; go_simp; try rfl
  case qA1 => exact fun _ _ _ h => h
  dsimp only [Act.put]
  try simp only [puts]
  refine wpTx_take (v := ?vA2) rfl (by kernel_rfl) ?qA2 rfl hS0 ?yA2 ?rA2
  case yA2 => intro wS h; obtain ⟨q0, q1, q2, q3, q4, q5, q6⟩ := fSA.out wS h; clear h; go_simp; try rfl
  case qA2 => exact fun _ _ _ h => h
  dsimp only [Act.put]
  try simp only [puts]
  refine wpTx_take (v := ?vA3) rfl (by kernel_rfl) ?qA3 rfl hS0 ?yA3 ?rA3
  case yA3 => intro wS h; obtain ⟨q0, q1, q2, q3, q4, q5, q6⟩ := fSA.out wS h; clear h; go_simp; try rfl
  case qA3 => exact fun _ _ _ h => h
  dsimp only [Act.put]
  try simp only [puts]
  refine wpTx_take (v := ?vA4) rfl (by kernel_rfl) ?qA4 rfl hS0 ?yA4 ?rA4
  case yA4 => intro wS h; obtain ⟨q0, q1, q2, q3, q4, q5, q6⟩ := fSA.out wS h; clear h; go_simp; try rfl
  case qA4 => exact fun _ _ _ h => h
  dsimp only [Act.put]
  try simp only [puts]
  refine wpTx_take (v := ?vA5) rfl (by kernel_rfl) ?qA5 rfl hS0 ?yA5 ?rA5
  case yA5 => intro wS h; obtain ⟨q0, q1, q2, q3, q4, q5, q6⟩ := fSA.out wS h; clear h; go_simp; try rfl
  case qA5 => exact fun _ _ _ h => h
  dsimp only [Act.put]
  try simp only [puts]
  refine wpTx_take (v := ?vA6) rfl (by kernel_rfl) ?qA6 rfl hS0 ?yA6 ?rA6
  case yA6 => intro wS h; obtain ⟨q0, q1, q2, q3, q4, q5, q6⟩ := fSA.out wS h; clear h; go_simp; try rfl
  case qA6 => exact fun _ _ _ h => h
  dsimp only [Act.put]
  try simp only [puts]
  refine wpTx_take (v := ?vA7) rfl (by kernel_rfl) ?qA7 rfl hS0 ?yA7 ?rA7
  case yA7 => intro wS h; obtain ⟨q0, q1, q2, q3, q4, q5, q6⟩ := fSA.out wS h; clear h; go_simp; try rfl
  case qA7 => exact fun _ _ _ h => h
  dsimp only [Act.put]
  try simp only [puts]
  refine wpTx_take (v := ?vA8) rfl (by kernel_rfl) ?qA8 rfl hS0 ?yA8 ?rA8
  case yA8 => intro wS h; obtain ⟨q0, q1, q2, q3, q4, q5, q6⟩ := fSA.out wS h; clear h; go_simp; try rfl
  case qA8 => exact fun _ _ _ h => h
  dsimp only [Act.put]
  try simp only [puts]
  refine wpTx_take (v := ?vA9) rfl (by kernel_rfl) ?qA9 rfl hS0 ?yA9 ?rA9
  case yA9 => intro wS h; obtain ⟨q0, q1, q2, q3, q4, q5, q6⟩ := fSA.out wS h; clear h; go_simp; try rfl
  case qA9 => exact fun _ _ _ h => h
  dsimp only [Act.put]
  try simp only [puts]
  refine wpTx_take (v := ?vA10) rfl (by kernel_rfl) ?qA10 rfl hS0 ?yA10 ?rA10
  case yA10 => intro wS h; obtain ⟨q0, q1, q2, q3, q4, q5, q6⟩ := fSA.out wS h; clear h; go_simp; try rfl
  case qA10 => exact fun _ _ _ h => h
  dsimp only [Act.put]
  try simp only [puts]
  refine wpTx_take (v := ?vA11) rfl (by kernel_rfl) ?qA11 rfl hS0 ?yA11 ?rA11
  case yA11 => intro wS h; obtain ⟨q0, q1, q2, q3, q4, q5, q6⟩ := fSA.out wS h; clear h; go_simp; try rfl
  case qA11 => exact fun _ _ _ h => h
  dsimp only [Act.put]
  try simp only [puts]
  try clear fSA
  refine wpTx_step (o := ?oA12) (rest := ?rsA12) ?hoA12 ?hrA12 ?stA12
  case hoA12 => rfl
  case hrA12 => kernel_rfl
  case' stA12 =>
  intro KS hKS
  go_simp
  refine hKS.out _ _ (fun _ => (But.alloc _ _ _).trans (But.drew _ _)) ?_
  clear hKS KS
  refine wpTx_step (o := ?oA13) (rest := ?rsA13) ?hoA13 ?hrA13 ?stA13
  case hoA13 => rfl
  case hrA13 => kernel_rfl
  case' stA13 =>
  intro KS hKS
  refine step_append_lies _ (by rfl) _ _ _ (by rfl) top 52 i0 _ 5 80 Tryz.underlying42 hi0 hz0 hz1 hz2 rfl (by omega) _ l.length (bodCells l) (by rfl) ((hOW.alloc _).drew)
     ⟨W.heap.size, 0, none⟩ 1 1 [.int .i64 cl, .int .i64 me, .string ⟨loc.toArray⟩, .slice ak is.length capk, .slice none 0 0] (by rfl) (by rfl) (World.news_of_block (cs := #[.int .i64 cl, .int .i64 me, .string ⟨loc.toArray⟩, .slice ak is.length capk, .slice none 0 0]) (t := 52) (fr := (0, 0)) (heap_alloc_new W _)) (by simp [Value.oneCell'])
     (by omega) (by unfold maxLen; omega) (by omega) (by simp; omega) (W.heap.size + 1) (by simp) ?_
  intro gg cap3 w3 hown3 hgrow hat hlt3
  have hSW : But (fun k => (Value.slice a2 l.length cap2).ownBlock = some k) W w3 := ((But.alloc _ _ _).trans (But.drew _ _)).trans (but_grown hgrow)
  refine hKS.out _ _ (fun _ => hSW) ?_
  clear hKS KS
  have y0 := (hSW.cell (p := ⟨bi, 2, none⟩) biltW abi).trans i2
  have y1 := (hSW.frozen (p := ⟨bi, 2, none⟩) biltW abi).trans iz
  refine wpTx_step (o := ?oA14) (rest := ?rsA14) ?hoA14 ?hrA14 ?stA14
  case hoA14 => rfl
  case hrA14 => kernel_rfl
  case' stA14 =>
  intro KS hKS
  go_simp
  refine hKS.out _ _ (fun h => absurd h (by decide)) ?_
  clear hKS KS
  refine wpTx_step (o := ?oA15) (rest := ?rsA15) ?hoA15 ?hrA15 ?stA15
  case hoA15 => rfl
  case hrA15 => kernel_rfl
  case' stA15 =>
  intro KS hKS
  go_simp
  refine hKS.out _ _ (fun h => absurd h (by decide)) ?_
  clear hKS KS
  refine wpTx_step (o := ?oA16) (rest := ?rsA16) ?hoA16 ?hrA16 ?stA16
  case hoA16 => rfl
  case hrA16 => kernel_rfl
  case' stA16 =>
  intro KS hKS
  go_simp
  refine hKS.out _ _ (fun h => absurd h (by decide)) ?_
  clear hKS KS
  refine wpTx_done rfl (by kernel_rfl) ?_
  have hgg := owns_ge hown3 gg rfl
  have hR4 : RdB (w3.setCell ⟨bi, 2, none⟩ (.slice (some ⟨gg, 0, none⟩) (l.length + 1) cap3)) b s (j + 1) false false bi (.slice ak is.length capk) (.slice none 0 0) := (hRW.but hSW ab).but (But.setB _ _ _ _) hbi
  have hI4 : ImB (w3.setCell ⟨bi, 2, none⟩ (.slice (some ⟨gg, 0, none⟩) (l.length + 1) cap3)) bi v0 v1 (.slice (some ⟨gg, 0, none⟩) (l.length + 1) cap3) := (hIW.but hSW abi).set2 _
  have hB4 : But (fun k => k = bi ∨ (Value.slice a2 l.length cap2).ownBlock = some k) W (w3.setCell ⟨bi, 2, none⟩ (.slice (some ⟨gg, 0, none⟩) (l.length + 1) cap3)) := (hSW.mono (fun _ _ h => Or.inr h)).next (But.setB _ _ _ _) (fun _ _ h => Or.inl h)
  have hO4 := owns_but hown3 (But.setB w3 bi 2 (.slice (some ⟨gg, 0, none⟩) (l.length + 1) cap3)) (fun g hg h => by have := owns_ge hown3 g hg; omega)
  generalize (w3.setCell ⟨bi, 2, none⟩ (.slice (some ⟨gg, 0, none⟩) (l.length + 1) cap3)) = w4 at *
  have hne2 : ∀ g, g < W.heap.size → (Value.slice a2 l.length cap2).ownBlock ≠ some g → gg ≠ g := fun g hg hn h => by
   rcases hat with h' | h'
   ·exact hn (by rw [← h]; exact h')
   ·omega
  go_wp2_with fail
  go_end0
  refine ⟨rfl, (hBW.mono (fun _ _ h => Or.inl h)).next hB4 (fun k hk h => ?_), j + 1, false, _, _, hR4, Or.inl ⟨rfl, is, .slice ak is.length capk, .slice (some ⟨gg, 0, none⟩) (l.length + 1) cap3, HC.out, ⟨hwf, hnc, hns, v0, v1, hI4, ?_, ?_, hvt⟩, ⟨?_, ?_⟩⟩⟩
  ·rcases h with h | h
   ·exact Or.inr (Or.inl h)
   ·exact Or.inr (Or.inr (owns_ge hOW _ h))
  ·exact owns_but hO0 hB4 (fun g hg h => by
    have h1 := owns_ge hO0 g hg
    have h2 := hvt g (Or.inl hg)
    rcases h with h | h
    ·omega
    ·have := owns_ge hOW _ h; omega)
  ·exact owns_but hO1 hB4 (fun g hg h => by
    have h1 := owns_ge hO1 g hg
    have h2 := hvt g (Or.inr hg)
    rcases h with h | h
    ·omega
    ·have := owns_ge hOW _ h; omega)
  ·rw [bodCells_snoc, List.length_append]; exact hO4
  ·intro x hx
   rcases List.mem_append.1 hx with hx | hx
   ·obtain ⟨h1, h2, h3⟩ := hDW.code x hx
    refine ⟨owns_but h1 hB4 (fun g hg h => ?_), h2, fun g hg h => ?_⟩
    ·have := owns_ge h1 g hg
     rcases h with h | h
     ·omega
     ·exact h3 g hg h
    ·have h5 : gg = g := by simpa [Value.ownBlock] using h
     exact hne2 g (owns_lt h1 g hg) (h3 g hg) h5
   ·simp at hx
    subst hx
    refine ⟨owns_but hOkW hB4 (fun g hg h => ?_), rfl, fun g hg h => ?_⟩
    ·have := hkge g hg
     rcases h with h | h
     ·omega
     ·have := hlt2 _ h; omega
    ·have h5 : gg = g := by simpa [Value.ownBlock] using h
     refine hne2 g (owns_lt hOkW g hg) (fun h => ?_) h5
     have := hlt2 _ h
     have := hkge g hg
     omega
 ·go_wp2_with fail
  exact bodyPost_ret (v := .tuple #[]) (by simp [results, Tryz.results80, go_sem]) rfl ⟨rfl, hBw1.mono (fun _ _ h => Or.inl h), j, true, _, _, hR1, Or.inr ⟨rfl, hcode⟩⟩
end
end Go.Proofs.YtpfkkmacakjmbaaGreatDoor
