import Derived.Test.YtpfkkmacakjmbaaGreatDoorP05
namespace Go.Proofs.YtpfkkmacakjmbaaGreatDoor
open Go Go.RowKit Sp
set_option linter.unusedSimpArgs false
set_option linter.unusedVariables false
attribute [local go_sem ↓] Go.wp_at_zero Go.wp_at_succ
theorem info_sig : (Tryz.prog.info? 129).map (fun i => (i.zero, i.size, i.bytes)) = some (some (.agg #[.int .u8 0, .int .u8 0]), 2, 2) := by kernel_rfl
section
variable (b : Nat) (s : ByteArray) (i : Nat) (src : Bool) (bi : Nat) (vc vt : Value) (w : World)
set_option maxHeartbeats 1600000 in
set_option maxRecDepth 100000 in
theorem sigs_any (aC : Option Addr) (n capC : Nat) (hn : n ≤ 4) (hs : s.size ≤ 2000) (hbi : b ≠ bi) (hR : RdB w b s i false src bi vc vt) (hI : ImB w bi (.slice aC n capC) (.slice none 0 0) (.slice none 0 0)) :
  Calls Tryz.prog 77 #[.pointer (some ⟨b, 0, none⟩)] w fun en w' => en = .returned (.tuple #[]) ∧ But (fun k => k = b ∨ k = bi) w w' ∧
   match sigP s n 3 [] i with
   | .ok (gs, j) => RdB w' b s j false src bi vc vt ∧ ∃ v, ImB w' bi (.slice aC n capC) v (.slice none 0 0) ∧ w'.ownsRow w.heap.size 129 2 v gs.length (sigCells gs)
   | .error j => RdB w' b s j true src bi vc vt := by
 obtain ⟨R, hRR⟩ : ∃ R, sigP s n 3 [] i = R := ⟨_, rfl⟩
 rw [hRR]
 have HRR : Hid (sigP s n 3 [] i = R) := hRR
 clear hRR
 obtain ⟨i0, hi0, hz0, hz1, hz2⟩ := info_parts info_sig
 go_enter Tryz.func77, Tryz.ntmps77
 go_wp2_with (go_at_call 127; refine (peek_any b s i false src bi vc vt _ hs hR).mono ?_; rintro en w' ⟨rfl, nn, rfl⟩)
 go_loopg [2] 4 (fun m c wr => ∃ (i' : Nat) (bad' : Bool), c = .int .u8 (pk s i').toNat ∧ But (fun k => k = b ∨ k = bi) w wr ∧ RdB wr b s i' bad' src bi vc vt ∧
  ((bad' = false ∧ ∃ f gs v, m = f + 1 ∧ f + List.length gs = 3 ∧ sigP s n f gs i' = R ∧ ImB wr bi (.slice aC n capC) v (.slice none 0 0) ∧ wr.ownsRow w.heap.size 129 2 v gs.length (sigCells gs)) ∨ (bad' = true ∧ m = 0 ∧ R = .error i')))
 case atStart => exact ⟨i, false, rfl, But.drewN _ _ _, hR.drewN _, Or.inl ⟨rfl, 3, [], _, rfl, rfl, HRR.out, hI, owns_nil _ _ _ _⟩⟩
 case round =>
  obtain ⟨i', bad', rfl, hB, hRr, hcase⟩ := hrel
  have c1 := hRr.c1
  have c2 := hRr.c2
  have c4 := hRr.c4
  have f1 := hRr.fz 1
  have f2 := hRr.fz 2
  rcases hcase with ⟨rfl, f, gs, v, rfl, hfl, hty, hIr, hown⟩ | ⟨rfl, rfl, rfl⟩
  ·have HT : Hid (sigP s n f gs i' = R) := hty
   have hfl1 : f + gs.length ≤ 3 := by omega
   have hfl2 : 3 ≤ f + gs.length := by omega
   have blt := hRr.lt
   have bilt := hIr.lt
   clear hty hfl
   obtain ⟨ao, cap, rfl⟩ := owns_len hown
   have d1 := hIr.c1
   by_cases hpe : (pk s i').toNat = 59
   · -- the end
    have hi : i' < s.size := pk_lt (by omega)
    have hne : (((pk s i').toNat : Int) != 59) = false := by rw [bne_eq_false_iff_eq]; omega
    have hres : R = .ok (gs, i' + 1) := by rw [← HT.out]; cases f <;> simp [sigP, hpe]
    subst hres
    clear HT hpe
    go_wp2_with fail
    go_end0
    exact ⟨rfl, hB.trans ((But.setB _ _ _ _).mono (fun _ _ h => Or.inl h)), hRr.inc, _, hIr.but (But.setB _ _ _ _) (fun h => hbi h.symm), owns_but hown (But.setB _ _ _ _) (fun g hg h => by have := owns_ge hown g hg; have := hR.lt; omega)⟩
   ·have hne : (((pk s i').toNat : Int) != 59) = true := by rw [bne_iff_ne]; omega
    have HNE : Hid (¬ (pk s i').toNat = 59) := hpe
    clear hpe
    cases f with
    | zero =>
     have hres : R = .error i' := by rw [← HT.out]; simp [sigP, HNE.out]
     subst hres
     have hlen : (3 : Int) ≤ (gs.length : Int) := by omega
     clear HT
     go_wp2_with fail
     exact bodyPost_ret (v := .tuple #[]) (by simp [results, Tryz.results77, go_sem]) rfl ⟨rfl, hB.trans ((But.setB _ _ _ _).mono (fun _ _ h => Or.inl h)), hRr.set2 true⟩
    | succ f =>
     have hlen : ¬ (3 : Int) ≤ (gs.length : Int) := by omega
     cases ht1 : isTy n (pk s i') with
     | false =>
      have hres : R = .error i' := by rw [← HT.out]; simp [sigP, HNE.out, tyP, ht1]
      subst hres
      have H1 : Hid (isTy n (pk s i') = false) := ht1
      clear HT ht1
      go_wp2_with fail
      refine (one_err b s i' src bi vc vt _ aC n capC _ _ hs hIr hRr H1.out).mono ?_
      rintro en w1 ⟨⟨c, rfl⟩, hB1, hR1⟩
      have e2 := hR1.c2
      clear c1 c2 c4 f1 f2 d1
      go_wp2_with fail
      exact bodyPost_ret (v := .tuple #[]) (by simp [results, Tryz.results77, go_sem]) rfl ⟨rfl, hB.next hB1 (fun _ _ h => Or.inl h), hR1⟩
     | true =>
      have H1 : Hid (isTy n (pk s i') = true) := ht1
      clear ht1
      go_wp2_with fail
      refine (one_ok b s i' src bi vc vt _ aC n capC _ _ hs hn hIr hRr H1.out).mono ?_
      rintro en w1 ⟨rfl, hB1, hR1⟩
      have hI1 := hIr.but hB1 (fun h => hbi h.symm)
      have e2 := hR1.c2
      clear c1 c2 c4 f1 f2 d1
      cases ht2 : isTy n (pk s (i' + 1)) with
      | false =>
       have hres : R = .error (i' + 1) := by rw [← HT.out]; simp [sigP, HNE.out, tyP, H1.out, ht2]
       subst hres
       have H2 : Hid (isTy n (pk s (i' + 1)) = false) := ht2
       clear HT ht2
       go_wp2_with fail
       refine (one_err b s (i' + 1) src bi vc vt _ aC n capC _ _ hs hI1 hR1 H2.out).mono ?_
       rintro en w2 ⟨⟨c, rfl⟩, hB2, hR2⟩
       have e2 := hR2.c2
       go_wp2_with fail
       exact bodyPost_ret (v := .tuple #[]) (by simp [results, Tryz.results77, go_sem]) rfl ⟨rfl, (hB.next hB1 (fun _ _ h => Or.inl h)).next hB2 (fun _ _ h => Or.inl h), hR2⟩
      | true =>
       have H2 : Hid (isTy n (pk s (i' + 1)) = true) := ht2
       clear ht2
       go_wp2_with fail
       refine (one_ok b s (i' + 1) src bi vc vt _ aC n capC _ _ hs hn hI1 hR1 H2.out).mono ?_
       rintro en w2 ⟨rfl, hB2, hR2⟩
       have hI2 := hI1.but hB2 (fun h => hbi h.symm)
       clear e2
       have e2 := hR2.c2
       go_wp2_with fail
       refine (eat_call b s (i' + 1 + 1) src bi vc vt _ _ 46 rfl hs hR2 (by decide)).mono ?_
       rintro en W ⟨rfl, hB3, j, bad2, hRW, hlink⟩
       have HLK : Hid ((bad2 = false ∧ byteP s 46 (i' + 1 + 1) = .ok j) ∨ (bad2 = true ∧ byteP s 46 (i' + 1 + 1) = .error j)) := hlink
       clear hlink
       have hwr := hB.size
       have hbw := hR.lt
       have hbiw := hI.lt
       have hBr : But (· = b) wr W := (hB1.trans hB2).trans hB3
       have hBW : But (fun k => k = b ∨ k = bi) w W := hB.next hBr (fun _ _ h => Or.inl h)
       have hIW : ImB W bi (.slice aC n capC) (.slice ao gs.length cap) (.slice none 0 0) := hIr.but hBr (fun h => hbi h.symm)
       have hOW := owns_but hown hBr (fun g hg h => by have := owns_ge hown g hg; omega)
       have hwW := hBW.size
       have e1 := hIW.c1
       have e4 := hRW.c4
       have g1 := hIW.fz 1
       have bltW := hRW.lt
       have biltW := hIW.lt
       have ab : (Value.slice ao gs.length cap).ownBlock ≠ some b := fun h => by have := owns_ge hOW _ h; omega
       have abi : (Value.slice ao gs.length cap).ownBlock ≠ some bi := fun h => by have := owns_ge hOW _ h; omega
       clear e2 hB1 hB2 hB3 hR1 hR2 hI1 hI2
       go_wp2_with fail
       have hS0 : But (fun k => (Value.slice ao gs.length cap).ownBlock = some k) W W.drew := But.drew _ _
       refine wpTx_begin (But (fun k => (Value.slice ao gs.length cap).ownBlock = some k) W) 16 (by kernel_rfl) ?_
       have fSA := hid (fun wS (h : (But (fun k => (Value.slice ao gs.length cap).ownBlock = some k) W) wS) => (And.intro ((h.cell (p := ⟨b, 4, none⟩) bltW ab).trans e4) ((h.cell (p := ⟨bi, 1, none⟩) biltW abi).trans e1)))
       refine wpTx_take (v := ?vA0) rfl (by kernel_rfl) ?qA0 rfl hS0 ?yA0 ?rA0
       case yA0 => intro wS h; obtain ⟨q0, q1⟩ := fSA.out wS h; clear h; go_simp; try rfl
       case qA0 => exact fun _ _ _ h => h
       dsimp only [Act.put]
       try simp only [puts]
       refine wpTx_take (v := ?vA1) rfl (by kernel_rfl) ?qA1 rfl hS0 ?yA1 ?rA1
       case yA1 => intro wS h; obtain ⟨q0, q1⟩ := fSA.out wS h; clear h; go_simp; try rfl
       case qA1 => exact fun _ _ _ h => h
       dsimp only [Act.put]
       try simp only [puts]
       refine wpTx_take (v := ?vA2) rfl (by kernel_rfl) ?qA2 rfl hS0 ?yA2 ?rA2
       case yA2 => intro wS h; obtain ⟨q0, q1⟩ := fSA.out wS h; clear h; go_simp; try rfl
       case qA2 => exact fun _ _ _ h => h
       dsimp only [Act.put]
       try simp only [puts]
       refine wpTx_take (v := ?vA3) rfl (by kernel_rfl) ?qA3 rfl hS0 ?yA3 ?rA3
       case yA3 => intro wS h; obtain ⟨q0, q1⟩ := fSA.out wS h; clear h; go_simp; try rfl
       case qA3 => exact fun _ _ _ h => h
       dsimp only [Act.put]
       try simp only [puts]
       refine wpTx_take (v := ?vA4) rfl (by kernel_rfl) ?qA4 rfl hS0 ?yA4 ?rA4
       case yA4 => intro wS h; obtain ⟨q0, q1⟩ := fSA.out wS h; clear h; go_simp; try rfl
       case qA4 => exact fun _ _ _ h => h
       dsimp only [Act.put]
       try simp only [puts]
       refine wpTx_take (v := ?vA5) rfl (by kernel_rfl) ?qA5 rfl hS0 ?yA5 ?rA5
       case yA5 => intro wS h; obtain ⟨q0, q1⟩ := fSA.out wS h; clear h; go_simp; try rfl
       case qA5 => exact fun _ _ _ h => h
       dsimp only [Act.put]
       try simp only [puts]
       refine wpTx_take (v := ?vA6) rfl (by kernel_rfl) ?qA6 rfl hS0 ?yA6 ?rA6
       case yA6 => intro wS h; obtain ⟨q0, q1⟩ := fSA.out wS h; clear h; go_simp; try rfl
       case qA6 => exact fun _ _ _ h => h
       dsimp only [Act.put]
       try simp only [puts]
       refine wpTx_take (v := ?vA7) rfl (by kernel_rfl) ?qA7 rfl hS0 ?yA7 ?rA7
       case yA7 => intro wS h; obtain ⟨q0, q1⟩ := fSA.out wS h; clear h; go_simp; try rfl
       case qA7 => exact fun _ _ _ h => h
       dsimp only [Act.put]
       try simp only [puts]
       refine wpTx_take (v := ?vA8) rfl (by kernel_rfl) ?qA8 rfl hS0 ?yA8 ?rA8
       case yA8 => intro wS h; obtain ⟨q0, q1⟩ := fSA.out wS h; clear h; go_simp; try rfl
       case qA8 => exact fun _ _ _ h => h
       dsimp only [Act.put]
       try simp only [puts]
       refine wpTx_take (v := ?vA9) rfl (by kernel_rfl) ?qA9 rfl hS0 ?yA9 ?rA9
       case yA9 => intro wS h; obtain ⟨q0, q1⟩ := fSA.out wS h; clear h; go_simp; try rfl
       case qA9 => exact fun _ _ _ h => h
       dsimp only [Act.put]
       try simp only [puts]
       refine wpTx_take (v := ?vA10) rfl (by kernel_rfl) ?qA10 rfl hS0 ?yA10 ?rA10
       case yA10 => intro wS h; obtain ⟨q0, q1⟩ := fSA.out wS h; clear h; go_simp; try rfl
       case qA10 => exact fun _ _ _ h => h
       dsimp only [Act.put]
       try simp only [puts]
       refine wpTx_take (v := ?vA11) rfl (by kernel_rfl) ?qA11 rfl hS0 ?yA11 ?rA11
       case yA11 => intro wS h; obtain ⟨q0, q1⟩ := fSA.out wS h; clear h; go_simp; try rfl
       case qA11 => exact fun _ _ _ h => h
       dsimp only [Act.put]
       try simp only [puts]
       refine wpTx_take (v := ?vA12) rfl (by kernel_rfl) ?qA12 rfl hS0 ?yA12 ?rA12
       case yA12 => intro wS h; obtain ⟨q0, q1⟩ := fSA.out wS h; clear h; go_simp; try rfl
       case qA12 => exact fun _ _ _ h => h
       dsimp only [Act.put]
       try simp only [puts]
       refine wpTx_take (v := ?vA13) rfl (by kernel_rfl) ?qA13 rfl hS0 ?yA13 ?rA13
       case yA13 => intro wS h; obtain ⟨q0, q1⟩ := fSA.out wS h; clear h; go_simp; try rfl
       case qA13 => exact fun _ _ _ h => h
       dsimp only [Act.put]
       try simp only [puts]
       try clear fSA
       refine wpTx_step (o := ?oA14) (rest := ?rsA14) ?hoA14 ?hrA14 ?stA14
       case hoA14 => rfl
       case hrA14 => kernel_rfl
       case' stA14 =>
       intro KS hKS
       go_simp
       refine hKS.out _ _ (fun _ => (But.alloc _ _ _).trans (But.drew _ _)) ?_
       clear hKS KS
       refine wpTx_step (o := ?oA15) (rest := ?rsA15) ?hoA15 ?hrA15 ?stA15
       case hoA15 => rfl
       case hrA15 => kernel_rfl
       case' stA15 =>
       intro KS hKS
       refine step_append_lies _ (by rfl) _ _ _ (by rfl) w.heap.size 129 i0 _ 2 2 Tryz.underlying41 hi0 hz0 hz1 hz2 rfl (by omega) _ gs.length (sigCells gs) (by rfl) ((hOW.alloc _).drew)
          ⟨W.heap.size, 0, none⟩ 1 1 [.int .u8 (pk s i').toNat, .int .u8 (pk s (i' + 1)).toNat] (by rfl) (by rfl) (World.news_of_block (cs := #[.int .u8 (pk s i').toNat, .int .u8 (pk s (i' + 1)).toNat]) (t := 129) (fr := (0, 0)) (heap_alloc_new W _)) (by simp [Value.oneCell'])
          (by omega) (by unfold maxLen; omega) (by omega) (by simp; omega) (W.heap.size + 1) (by simp) ?_
       intro gg cap2 w2 hown2 hgrow hat hlt2
       have hSW : But (fun k => (Value.slice ao gs.length cap).ownBlock = some k) W w2 := ((But.alloc _ _ _).trans (But.drew _ _)).trans (but_grown hgrow)
       refine hKS.out _ _ (fun _ => hSW) ?_
       clear hKS KS
       have y0 := (hSW.cell (p := ⟨bi, 1, none⟩) biltW abi).trans e1
       have y1 := (hSW.frozen (p := ⟨bi, 1, none⟩) biltW abi).trans g1
       refine wpTx_step (o := ?oA16) (rest := ?rsA16) ?hoA16 ?hrA16 ?stA16
       case hoA16 => rfl
       case hrA16 => kernel_rfl
       case' stA16 =>
       intro KS hKS
       go_simp
       refine hKS.out _ _ (fun h => absurd h (by decide)) ?_
       clear hKS KS
       refine wpTx_step (o := ?oA17) (rest := ?rsA17) ?hoA17 ?hrA17 ?stA17
       case hoA17 => rfl
       case hrA17 => kernel_rfl
       case' stA17 =>
       intro KS hKS
       go_simp
       refine hKS.out _ _ (fun h => absurd h (by decide)) ?_
       clear hKS KS
       refine wpTx_step (o := ?oA18) (rest := ?rsA18) ?hoA18 ?hrA18 ?stA18
       case hoA18 => rfl
       case hrA18 => kernel_rfl
       case' stA18 =>
       intro KS hKS
       go_simp
       refine hKS.out _ _ (fun h => absurd h (by decide)) ?_
       clear hKS KS
       refine wpTx_done rfl (by kernel_rfl) ?_
       have hR3 : RdB (w2.setCell ⟨bi, 1, none⟩ (.slice (some ⟨gg, 0, none⟩) (gs.length + 1) cap2)) b s j bad2 src bi vc vt := (hRW.but hSW ab).but (But.setB _ _ _ _) hbi
       have hI3 : ImB (w2.setCell ⟨bi, 1, none⟩ (.slice (some ⟨gg, 0, none⟩) (gs.length + 1) cap2)) bi (.slice aC n capC) (.slice (some ⟨gg, 0, none⟩) (gs.length + 1) cap2) (.slice none 0 0) := (hIW.but hSW abi).set1 _
       have hgg := owns_ge hown2 gg rfl
       have hO3 := owns_but hown2 (But.setB w2 bi 1 (.slice (some ⟨gg, 0, none⟩) (gs.length + 1) cap2)) (fun g hg h => by have := owns_ge hown2 g hg; omega)
       have hB4 : But (fun k => k = b ∨ k = bi) w (w2.setCell ⟨bi, 1, none⟩ (.slice (some ⟨gg, 0, none⟩) (gs.length + 1) cap2)) :=
        (hBW.next hSW (fun k hk h => absurd (owns_ge hOW k h) (by omega))).next (But.setB _ _ _ _) (fun _ _ h => Or.inr h)
       clear y0 y1 e1 e4 g1 hSW hgrow
       generalize (w2.setCell ⟨bi, 1, none⟩ (.slice (some ⟨gg, 0, none⟩) (gs.length + 1) cap2)) = W3 at *
       go_wp2_with (go_at_call 127; refine (peek_any b s j bad2 src bi vc vt _ hs hR3).mono ?_; rintro en w' ⟨rfl, n3, rfl⟩)
       rcases HLK.out with ⟨rfl, ht⟩ | ⟨rfl, ht⟩
       ·go_roundg (f + 1)
        case measure => omega
        case rel =>
         refine ⟨j, false, rfl, hB4.next (But.drewN (fun _ => False) _ _) (fun _ _ h => h.elim), hR3.drewN _, Or.inl ⟨rfl, f, gs ++ [⟨pk s i', pk s (i' + 1)⟩], _, rfl, by simp; omega, ?_, hI3, ?_⟩⟩
         ·rw [← HT.out]; simp [sigP, HNE.out, tyP, H1.out, H2.out, ht]
         ·rw [sigCells_snoc, List.length_append]; exact hO3
       ·go_roundg 0
        case measure => omega
        case rel =>
         refine ⟨j, true, rfl, hB4.next (But.drewN (fun _ => False) _ _) (fun _ _ h => h.elim), hR3.drewN _, Or.inr ⟨rfl, rfl, ?_⟩⟩
         rw [← HT.out]; simp [sigP, HNE.out, tyP, H1.out, H2.out, ht]
  ·go_wp2_with fail
   go_end0
   exact ⟨rfl, hB, hRr⟩
end
end Go.Proofs.YtpfkkmacakjmbaaGreatDoor
namespace Go.Proofs.YtpfkkmacakjmbaaGreatDoor
open Go Go.RowKit Sp
set_option linter.unusedSimpArgs false
set_option linter.unusedVariables false
section
variable (b : Nat) (s : ByteArray) (i : Nat) (src : Bool) (bi : Nat) (vc vt : Value) (w : World)
/-- What the reader has of an image when it reads bodies. -/
structure Heads (w : World) (base top bi : Nat) (cs : List Cls) (gs : List Sig) (v2 : Value) : Prop where
 wf : WfC cs
 nc : cs.length ≤ 4
 ns : gs.length ≤ 3
 im : ∃ v0 v1, ImB w bi v0 v1 v2 ∧ w.ownsRow base 203 2 v0 cs.length (clsCells cs) ∧ w.ownsRow base 129 2 v1 gs.length (sigCells gs) ∧ (∀ g, v0.ownBlock = some g ∨ v1.ownBlock = some g → g < top)
set_option maxHeartbeats 1600000 in
set_option maxRecDepth 100000 in
theorem oper_ls (base top : Nat) (cs : List Cls) (gs : List Sig) (v2 : Value) (c nl : Nat) (hc : c < 256) (hnl : nl ≤ 5) (hs : s.size ≤ 2000) (hbi : b ≠ bi) (hbb : b < base) (hR : RdB w b s i false src bi vc vt) (hH : Heads w base top bi cs gs v2) (hv : c = 108 ∨ c = 115) :
  Calls Tryz.prog 189 #[.pointer (some ⟨b, 0, none⟩), .int .u8 c, .int .i64 nl] w fun en w' => But (· = b) w w' ∧ ∃ (x y : Int) (j : Nat) (bad : Bool), en = .returned (.tuple #[.int .i64 x, .int .i64 y]) ∧ RdB w' b s j bad src bi vc vt ∧ ((bad = false ∧ ∃ a d : Nat, x = a ∧ y = d ∧ operP s cs gs.length nl c i = .ok (a, d, j)) ∨ (bad = true ∧ operP s cs gs.length nl c i = .error j)) := by
 obtain ⟨hwf, hnc, hns, v0, v1, hI, hO, hO', _⟩ := hH
 obtain ⟨a0, cap0, rfl⟩ := owns_len hO
 obtain ⟨a1, cap1, rfl⟩ := owns_len hO'
 have c2 := hR.c2
 have c4 := hR.c4
 have d0 := hI.c0
 have d1 := hI.c1
 rcases hv with hv | hv
 ·have k108 : ((c : Int) == 108) = true := by rw [beq_iff_eq]; omega
  have HV : Hid (c = 108) := hv
  clear hv
  go_enter Tryz.func189, Tryz.ntmps189
  go_wp2_with fail
  refine (digit_call b s i src bi vc vt _ _ nl rfl hs hR).mono ?_
  rintro en w1 ⟨hB1, v, j, bad, rfl, hR1, hlink⟩
  go_wp2_with fail
  go_ret2
  refine ⟨hB1, 0, v, j, bad, rfl, hR1, ?_⟩
  rcases hlink with ⟨rfl, d, rfl, _, hd⟩ | ⟨rfl, hd⟩
  ·exact Or.inl ⟨rfl, 0, d, rfl, rfl, by simp [operP, HV.out, hd]⟩
  ·exact Or.inr ⟨rfl, by simp [operP, HV.out, hd]⟩
 ·have k108 : ((c : Int) == 108) = false := by rw [beq_eq_false_iff_ne]; omega
  have k115 : ((c : Int) == 115) = true := by rw [beq_iff_eq]; omega
  have HV : Hid (c = 115) := hv
  clear hv
  go_enter Tryz.func189, Tryz.ntmps189
  go_wp2_with fail
  refine (digit_call b s i src bi vc vt _ _ nl rfl hs hR).mono ?_
  rintro en w1 ⟨hB1, v, j, bad, rfl, hR1, hlink⟩
  go_wp2_with fail
  go_ret2
  refine ⟨hB1, 0, v, j, bad, rfl, hR1, ?_⟩
  rcases hlink with ⟨rfl, d, rfl, _, hd⟩ | ⟨rfl, hd⟩
  ·exact Or.inl ⟨rfl, 0, d, rfl, rfl, by simp [operP, HV.out, hd]⟩
  ·exact Or.inr ⟨rfl, by simp [operP, HV.out, hd]⟩
set_option maxHeartbeats 1600000 in
set_option maxRecDepth 100000 in
theorem oper_k (base top : Nat) (cs : List Cls) (gs : List Sig) (v2 : Value) (c nl : Nat) (hc : c < 256) (hnl : nl ≤ 5) (hs : s.size ≤ 2000) (hbi : b ≠ bi) (hbb : b < base) (hR : RdB w b s i false src bi vc vt) (hH : Heads w base top bi cs gs v2) (hv : c = 107) :
  Calls Tryz.prog 189 #[.pointer (some ⟨b, 0, none⟩), .int .u8 c, .int .i64 nl] w fun en w' => But (· = b) w w' ∧ ∃ (x y : Int) (j : Nat) (bad : Bool), en = .returned (.tuple #[.int .i64 x, .int .i64 y]) ∧ RdB w' b s j bad src bi vc vt ∧ ((bad = false ∧ ∃ a d : Nat, x = a ∧ y = d ∧ operP s cs gs.length nl c i = .ok (a, d, j)) ∨ (bad = true ∧ operP s cs gs.length nl c i = .error j)) := by
 obtain ⟨hwf, hnc, hns, v0, v1, hI, hO, hO', _⟩ := hH
 obtain ⟨a0, cap0, rfl⟩ := owns_len hO
 obtain ⟨a1, cap1, rfl⟩ := owns_len hO'
 have c2 := hR.c2
 have c4 := hR.c4
 have d0 := hI.c0
 have d1 := hI.c1
 have k108 : ((c : Int) == 108) = false := by rw [beq_eq_false_iff_ne]; omega
 have k115 : ((c : Int) == 115) = false := by rw [beq_eq_false_iff_ne]; omega
 have k107 : ((c : Int) == 107) = true := by rw [beq_iff_eq]; omega
 have HV : Hid (c = 107) := hv
 clear hv
 go_enter Tryz.func189, Tryz.ntmps189
 go_wp2_with fail
 refine (digit_call b s i src bi vc vt _ _ 10 rfl hs hR).mono ?_
 rintro en w1 ⟨hB1, v, j, bad, rfl, hR1, hlink⟩
 go_wp2_with fail
 go_ret2
 refine ⟨hB1, 0, v, j, bad, rfl, hR1, ?_⟩
 rcases hlink with ⟨rfl, d, rfl, _, hd⟩ | ⟨rfl, hd⟩
 ·exact Or.inl ⟨rfl, 0, d, rfl, rfl, by simp [operP, HV.out, hd]⟩
 ·exact Or.inr ⟨rfl, by simp [operP, HV.out, hd]⟩
set_option maxHeartbeats 1600000 in
set_option maxRecDepth 100000 in
theorem oper_nx (base top : Nat) (cs : List Cls) (gs : List Sig) (v2 : Value) (c nl : Nat) (hc : c < 256) (hnl : nl ≤ 5) (hs : s.size ≤ 2000) (hbi : b ≠ bi) (hbb : b < base) (hR : RdB w b s i false src bi vc vt) (hH : Heads w base top bi cs gs v2) (hv : c = 110 ∨ c = 120) :
  Calls Tryz.prog 189 #[.pointer (some ⟨b, 0, none⟩), .int .u8 c, .int .i64 nl] w fun en w' => But (· = b) w w' ∧ ∃ (x y : Int) (j : Nat) (bad : Bool), en = .returned (.tuple #[.int .i64 x, .int .i64 y]) ∧ RdB w' b s j bad src bi vc vt ∧ ((bad = false ∧ ∃ a d : Nat, x = a ∧ y = d ∧ operP s cs gs.length nl c i = .ok (a, d, j)) ∨ (bad = true ∧ operP s cs gs.length nl c i = .error j)) := by
 obtain ⟨hwf, hnc, hns, v0, v1, hI, hO, hO', _⟩ := hH
 obtain ⟨a0, cap0, rfl⟩ := owns_len hO
 obtain ⟨a1, cap1, rfl⟩ := owns_len hO'
 have c2 := hR.c2
 have c4 := hR.c4
 have d0 := hI.c0
 have d1 := hI.c1
 rcases hv with hv | hv
 ·have k108 : ((c : Int) == 108) = false := by rw [beq_eq_false_iff_ne]; omega
  have k115 : ((c : Int) == 115) = false := by rw [beq_eq_false_iff_ne]; omega
  have k107 : ((c : Int) == 107) = false := by rw [beq_eq_false_iff_ne]; omega
  have k110 : ((c : Int) == 110) = true := by rw [beq_iff_eq]; omega
  have HV : Hid (c = 110) := hv
  clear hv
  go_enter Tryz.func189, Tryz.ntmps189
  go_wp2_with fail
  refine (class_call b s i src bi vc vt _ _ cs.length rfl hnc hs hR).mono ?_
  rintro en w1 ⟨hB1, v, j, bad, rfl, hR1, hlink⟩
  go_wp2_with fail
  go_ret2
  refine ⟨hB1, v, 0, j, bad, rfl, hR1, ?_⟩
  rcases hlink with ⟨rfl, d, rfl, _, hd⟩ | ⟨rfl, hd⟩
  ·exact Or.inl ⟨rfl, d, 0, rfl, rfl, by simp [operP, HV.out, hd]⟩
  ·exact Or.inr ⟨rfl, by simp [operP, HV.out, hd]⟩
 ·have k108 : ((c : Int) == 108) = false := by rw [beq_eq_false_iff_ne]; omega
  have k115 : ((c : Int) == 115) = false := by rw [beq_eq_false_iff_ne]; omega
  have k107 : ((c : Int) == 107) = false := by rw [beq_eq_false_iff_ne]; omega
  have k110 : ((c : Int) == 110) = false := by rw [beq_eq_false_iff_ne]; omega
  have k120 : ((c : Int) == 120) = true := by rw [beq_iff_eq]; omega
  have HV : Hid (c = 120) := hv
  clear hv
  go_enter Tryz.func189, Tryz.ntmps189
  go_wp2_with fail
  refine (class_call b s i src bi vc vt _ _ cs.length rfl hnc hs hR).mono ?_
  rintro en w1 ⟨hB1, v, j, bad, rfl, hR1, hlink⟩
  go_wp2_with fail
  go_ret2
  refine ⟨hB1, v, 0, j, bad, rfl, hR1, ?_⟩
  rcases hlink with ⟨rfl, d, rfl, _, hd⟩ | ⟨rfl, hd⟩
  ·exact Or.inl ⟨rfl, d, 0, rfl, rfl, by simp [operP, HV.out, hd]⟩
  ·exact Or.inr ⟨rfl, by simp [operP, HV.out, hd]⟩
set_option maxHeartbeats 1600000 in
set_option maxRecDepth 100000 in
theorem oper_gp (base top : Nat) (cs : List Cls) (gs : List Sig) (v2 : Value) (c nl : Nat) (hc : c < 256) (hnl : nl ≤ 5) (hs : s.size ≤ 2000) (hbi : b ≠ bi) (hbb : b < base) (hR : RdB w b s i false src bi vc vt) (hH : Heads w base top bi cs gs v2) (hv : c = 103 ∨ c = 112) :
  Calls Tryz.prog 189 #[.pointer (some ⟨b, 0, none⟩), .int .u8 c, .int .i64 nl] w fun en w' => But (· = b) w w' ∧ ∃ (x y : Int) (j : Nat) (bad : Bool), en = .returned (.tuple #[.int .i64 x, .int .i64 y]) ∧ RdB w' b s j bad src bi vc vt ∧ ((bad = false ∧ ∃ a d : Nat, x = a ∧ y = d ∧ operP s cs gs.length nl c i = .ok (a, d, j)) ∨ (bad = true ∧ operP s cs gs.length nl c i = .error j)) := by
 obtain ⟨hwf, hnc, hns, v0, v1, hI, hO, hO', _⟩ := hH
 obtain ⟨a0, cap0, rfl⟩ := owns_len hO
 obtain ⟨a1, cap1, rfl⟩ := owns_len hO'
 have c2 := hR.c2
 have c4 := hR.c4
 have d0 := hI.c0
 have d1 := hI.c1
 rcases hv with hv | hv
 ·have k108 : ((c : Int) == 108) = false := by rw [beq_eq_false_iff_ne]; omega
  have k115 : ((c : Int) == 115) = false := by rw [beq_eq_false_iff_ne]; omega
  have k107 : ((c : Int) == 107) = false := by rw [beq_eq_false_iff_ne]; omega
  have k110 : ((c : Int) == 110) = false := by rw [beq_eq_false_iff_ne]; omega
  have k120 : ((c : Int) == 120) = false := by rw [beq_eq_false_iff_ne]; omega
  have k103 : ((c : Int) == 103) = true := by rw [beq_iff_eq]; omega
  have HV : Hid (c = 103) := hv
  clear hv
  go_enter Tryz.func189, Tryz.ntmps189
  go_wp2_with fail
  refine (class_call b s i src bi vc vt _ _ cs.length rfl hnc hs hR).mono ?_
  rintro en w1 ⟨hB1, v, j, bad, rfl, hR1, hlink⟩
  have e2 := hR1.c2
  have e4 := hR1.c4
  have hI1 := hI.but hB1 (fun h => hbi h.symm)
  have g0 := hI1.c0
  have g1 := hI1.c1
  clear c2 c4 d0 d1
  rcases hlink with ⟨rfl, d, rfl, hdn, hd⟩ | ⟨rfl, hd⟩
  ·have HD : Hid (letP s cs.length i = .ok (d, j)) := hd
   clear hd
   have ha := List.getElem?_eq_getElem hdn
   obtain ⟨ga, capa, hva, hca, hga1, hga2⟩ := owns_cell (owns_but hO hB1 (fun g hg h => by have := owns_ge hO g hg; omega)) (clsCells_at1 ha)
   have hao : a0 = some ⟨ga, 0, none⟩ := by injection hva
   subst hao
   have hdl : (d : Int) < (cs.length : Int) := by omega
   have hnf : nFields cs d = cs[d].fields.length := by simp [nFields, ha]
   clear hva
   go_wp2_with fail
   refine (digit_call b s j src bi vc vt _ _ (nFields cs d) (by rw [hnf]) hs hR1).mono ?_
   rintro en w2 ⟨hB2, v, l, bad, rfl, hR2, hlink⟩
   go_wp2_with fail
   go_ret2
   refine ⟨hB1.trans hB2, d, v, l, bad, rfl, hR2, ?_⟩
   rcases hlink with ⟨rfl, d2, rfl, _, hd2⟩ | ⟨rfl, hd2⟩
   ·exact Or.inl ⟨rfl, d, d2, rfl, rfl, by simp [operP, HV.out, HD.out, hd2]⟩
   ·exact Or.inr ⟨rfl, by simp [operP, HV.out, HD.out, hd2]⟩
  ·have HD : Hid (letP s cs.length i = .error j) := hd
   clear hd
   go_wp2_with fail
   go_ret2
   exact ⟨hB1, _, _, j, true, rfl, hR1, Or.inr ⟨rfl, by simp [operP, HV.out, HD.out]⟩⟩
 ·have k108 : ((c : Int) == 108) = false := by rw [beq_eq_false_iff_ne]; omega
  have k115 : ((c : Int) == 115) = false := by rw [beq_eq_false_iff_ne]; omega
  have k107 : ((c : Int) == 107) = false := by rw [beq_eq_false_iff_ne]; omega
  have k110 : ((c : Int) == 110) = false := by rw [beq_eq_false_iff_ne]; omega
  have k120 : ((c : Int) == 120) = false := by rw [beq_eq_false_iff_ne]; omega
  have k103 : ((c : Int) == 103) = false := by rw [beq_eq_false_iff_ne]; omega
  have k112 : ((c : Int) == 112) = true := by rw [beq_iff_eq]; omega
  have HV : Hid (c = 112) := hv
  clear hv
  go_enter Tryz.func189, Tryz.ntmps189
  go_wp2_with fail
  refine (class_call b s i src bi vc vt _ _ cs.length rfl hnc hs hR).mono ?_
  rintro en w1 ⟨hB1, v, j, bad, rfl, hR1, hlink⟩
  have e2 := hR1.c2
  have e4 := hR1.c4
  have hI1 := hI.but hB1 (fun h => hbi h.symm)
  have g0 := hI1.c0
  have g1 := hI1.c1
  clear c2 c4 d0 d1
  rcases hlink with ⟨rfl, d, rfl, hdn, hd⟩ | ⟨rfl, hd⟩
  ·have HD : Hid (letP s cs.length i = .ok (d, j)) := hd
   clear hd
   have ha := List.getElem?_eq_getElem hdn
   obtain ⟨ga, capa, hva, hca, hga1, hga2⟩ := owns_cell (owns_but hO hB1 (fun g hg h => by have := owns_ge hO g hg; omega)) (clsCells_at1 ha)
   have hao : a0 = some ⟨ga, 0, none⟩ := by injection hva
   subst hao
   have hdl : (d : Int) < (cs.length : Int) := by omega
   have hnf : nFields cs d = cs[d].fields.length := by simp [nFields, ha]
   clear hva
   go_wp2_with fail
   refine (digit_call b s j src bi vc vt _ _ (nFields cs d) (by rw [hnf]) hs hR1).mono ?_
   rintro en w2 ⟨hB2, v, l, bad, rfl, hR2, hlink⟩
   go_wp2_with fail
   go_ret2
   refine ⟨hB1.trans hB2, d, v, l, bad, rfl, hR2, ?_⟩
   rcases hlink with ⟨rfl, d2, rfl, _, hd2⟩ | ⟨rfl, hd2⟩
   ·exact Or.inl ⟨rfl, d, d2, rfl, rfl, by simp [operP, HV.out, HD.out, hd2]⟩
   ·exact Or.inr ⟨rfl, by simp [operP, HV.out, HD.out, hd2]⟩
  ·have HD : Hid (letP s cs.length i = .error j) := hd
   clear hd
   go_wp2_with fail
   go_ret2
   exact ⟨hB1, _, _, j, true, rfl, hR1, Or.inr ⟨rfl, by simp [operP, HV.out, HD.out]⟩⟩
set_option maxHeartbeats 1600000 in
set_option maxRecDepth 100000 in
theorem oper_c (base top : Nat) (cs : List Cls) (gs : List Sig) (v2 : Value) (c nl : Nat) (hc : c < 256) (hnl : nl ≤ 5) (hs : s.size ≤ 2000) (hbi : b ≠ bi) (hbb : b < base) (hR : RdB w b s i false src bi vc vt) (hH : Heads w base top bi cs gs v2) (hv : c = 99) :
  Calls Tryz.prog 189 #[.pointer (some ⟨b, 0, none⟩), .int .u8 c, .int .i64 nl] w fun en w' => But (· = b) w w' ∧ ∃ (x y : Int) (j : Nat) (bad : Bool), en = .returned (.tuple #[.int .i64 x, .int .i64 y]) ∧ RdB w' b s j bad src bi vc vt ∧ ((bad = false ∧ ∃ a d : Nat, x = a ∧ y = d ∧ operP s cs gs.length nl c i = .ok (a, d, j)) ∨ (bad = true ∧ operP s cs gs.length nl c i = .error j)) := by
 obtain ⟨hwf, hnc, hns, v0, v1, hI, hO, hO', _⟩ := hH
 obtain ⟨a0, cap0, rfl⟩ := owns_len hO
 obtain ⟨a1, cap1, rfl⟩ := owns_len hO'
 have c2 := hR.c2
 have c4 := hR.c4
 have d0 := hI.c0
 have d1 := hI.c1
 have k108 : ((c : Int) == 108) = false := by rw [beq_eq_false_iff_ne]; omega
 have k115 : ((c : Int) == 115) = false := by rw [beq_eq_false_iff_ne]; omega
 have k107 : ((c : Int) == 107) = false := by rw [beq_eq_false_iff_ne]; omega
 have k110 : ((c : Int) == 110) = false := by rw [beq_eq_false_iff_ne]; omega
 have k120 : ((c : Int) == 120) = false := by rw [beq_eq_false_iff_ne]; omega
 have k103 : ((c : Int) == 103) = false := by rw [beq_eq_false_iff_ne]; omega
 have k112 : ((c : Int) == 112) = false := by rw [beq_eq_false_iff_ne]; omega
 have k99 : ((c : Int) == 99) = true := by rw [beq_iff_eq]; omega
 have HV : Hid (c = 99) := hv
 clear hv
 go_enter Tryz.func189, Tryz.ntmps189
 go_wp2_with fail
 refine (class_call b s i src bi vc vt _ _ cs.length rfl hnc hs hR).mono ?_
 rintro en w1 ⟨hB1, v, j, bad, rfl, hR1, hlink⟩
 have e2 := hR1.c2
 have e4 := hR1.c4
 have hI1 := hI.but hB1 (fun h => hbi h.symm)
 have g0 := hI1.c0
 have g1 := hI1.c1
 clear c2 c4 d0 d1
 rcases hlink with ⟨rfl, d, rfl, hdn, hd⟩ | ⟨rfl, hd⟩
 ·have HD : Hid (letP s cs.length i = .ok (d, j)) := hd
  clear hd
  go_wp2_with fail
  refine (digit_call b s j src bi vc vt _ _ gs.length rfl hs hR1).mono ?_
  rintro en w2 ⟨hB2, v, l, bad, rfl, hR2, hlink⟩
  go_wp2_with fail
  go_ret2
  refine ⟨hB1.trans hB2, d, v, l, bad, rfl, hR2, ?_⟩
  rcases hlink with ⟨rfl, d2, rfl, _, hd2⟩ | ⟨rfl, hd2⟩
  ·exact Or.inl ⟨rfl, d, d2, rfl, rfl, by simp [operP, HV.out, HD.out, hd2]⟩
  ·exact Or.inr ⟨rfl, by simp [operP, HV.out, HD.out, hd2]⟩
 ·have HD : Hid (letP s cs.length i = .error j) := hd
  clear hd
  go_wp2_with fail
  go_ret2
  exact ⟨hB1, _, _, j, true, rfl, hR1, Or.inr ⟨rfl, by simp [operP, HV.out, HD.out]⟩⟩
set_option maxHeartbeats 1600000 in
set_option maxRecDepth 100000 in
theorem oper_jf (base top : Nat) (cs : List Cls) (gs : List Sig) (v2 : Value) (c nl : Nat) (hc : c < 256) (hnl : nl ≤ 5) (hs : s.size ≤ 2000) (hbi : b ≠ bi) (hbb : b < base) (hR : RdB w b s i false src bi vc vt) (hH : Heads w base top bi cs gs v2) (hv : c = 106 ∨ c = 102) :
  Calls Tryz.prog 189 #[.pointer (some ⟨b, 0, none⟩), .int .u8 c, .int .i64 nl] w fun en w' => But (· = b) w w' ∧ ∃ (x y : Int) (j : Nat) (bad : Bool), en = .returned (.tuple #[.int .i64 x, .int .i64 y]) ∧ RdB w' b s j bad src bi vc vt ∧ ((bad = false ∧ ∃ a d : Nat, x = a ∧ y = d ∧ operP s cs gs.length nl c i = .ok (a, d, j)) ∨ (bad = true ∧ operP s cs gs.length nl c i = .error j)) := by
 obtain ⟨hwf, hnc, hns, v0, v1, hI, hO, hO', _⟩ := hH
 obtain ⟨a0, cap0, rfl⟩ := owns_len hO
 obtain ⟨a1, cap1, rfl⟩ := owns_len hO'
 have c2 := hR.c2
 have c4 := hR.c4
 have d0 := hI.c0
 have d1 := hI.c1
 rcases hv with hv | hv
 ·have k108 : ((c : Int) == 108) = false := by rw [beq_eq_false_iff_ne]; omega
  have k115 : ((c : Int) == 115) = false := by rw [beq_eq_false_iff_ne]; omega
  have k107 : ((c : Int) == 107) = false := by rw [beq_eq_false_iff_ne]; omega
  have k110 : ((c : Int) == 110) = false := by rw [beq_eq_false_iff_ne]; omega
  have k120 : ((c : Int) == 120) = false := by rw [beq_eq_false_iff_ne]; omega
  have k103 : ((c : Int) == 103) = false := by rw [beq_eq_false_iff_ne]; omega
  have k112 : ((c : Int) == 112) = false := by rw [beq_eq_false_iff_ne]; omega
  have k99 : ((c : Int) == 99) = false := by rw [beq_eq_false_iff_ne]; omega
  have k106 : ((c : Int) == 106) = true := by rw [beq_iff_eq]; omega
  have HV : Hid (c = 106) := hv
  clear hv
  go_enter Tryz.func189, Tryz.ntmps189
  go_wp2_with fail
  refine (digit_call b s i src bi vc vt _ _ 10 rfl hs hR).mono ?_
  rintro en w1 ⟨hB1, v, j, bad, rfl, hR1, hlink⟩
  have e2 := hR1.c2
  have e4 := hR1.c4
  have hI1 := hI.but hB1 (fun h => hbi h.symm)
  have g0 := hI1.c0
  have g1 := hI1.c1
  clear c2 c4 d0 d1
  rcases hlink with ⟨rfl, d, rfl, hdn, hd⟩ | ⟨rfl, hd⟩
  ·have HD : Hid (digP s 10 i = .ok (d, j)) := hd
   clear hd
   go_wp2_with fail
   refine (digit_call b s j src bi vc vt _ _ 10 rfl hs hR1).mono ?_
   rintro en w2 ⟨hB2, v, l, bad, rfl, hR2, hlink⟩
   rcases hlink with ⟨rfl, d2, rfl, hdn2, hd2⟩ | ⟨rfl, hd2⟩
   ·have HD2 : Hid (digP s 10 j = .ok (d2, l)) := hd2
    clear hd2
    go_wp2_with fail
    go_ret2
    exact ⟨hB1.trans hB2, 0, 10 * (d : Int) + d2, l, false, rfl, hR2, Or.inl ⟨rfl, 0, 10 * d + d2, rfl, by simp, by simp [operP, HV.out, HD.out, HD2.out]⟩⟩
   ·have HD2 : Hid (digP s 10 j = .error l) := hd2
    clear hd2
    go_wp2_with fail
    go_ret2
    exact ⟨hB1.trans hB2, 0, _, l, true, rfl, hR2, Or.inr ⟨rfl, by simp [operP, HV.out, HD.out, HD2.out]⟩⟩
  ·have HD : Hid (digP s 10 i = .error j) := hd
   clear hd
   go_wp2_with fail
   go_ret2
   exact ⟨hB1, _, _, j, true, rfl, hR1, Or.inr ⟨rfl, by simp [operP, HV.out, HD.out]⟩⟩
 ·have k108 : ((c : Int) == 108) = false := by rw [beq_eq_false_iff_ne]; omega
  have k115 : ((c : Int) == 115) = false := by rw [beq_eq_false_iff_ne]; omega
  have k107 : ((c : Int) == 107) = false := by rw [beq_eq_false_iff_ne]; omega
  have k110 : ((c : Int) == 110) = false := by rw [beq_eq_false_iff_ne]; omega
  have k120 : ((c : Int) == 120) = false := by rw [beq_eq_false_iff_ne]; omega
  have k103 : ((c : Int) == 103) = false := by rw [beq_eq_false_iff_ne]; omega
  have k112 : ((c : Int) == 112) = false := by rw [beq_eq_false_iff_ne]; omega
  have k99 : ((c : Int) == 99) = false := by rw [beq_eq_false_iff_ne]; omega
  have k106 : ((c : Int) == 106) = false := by rw [beq_eq_false_iff_ne]; omega
  have k102 : ((c : Int) == 102) = true := by rw [beq_iff_eq]; omega
  have HV : Hid (c = 102) := hv
  clear hv
  go_enter Tryz.func189, Tryz.ntmps189
  go_wp2_with fail
  refine (digit_call b s i src bi vc vt _ _ 10 rfl hs hR).mono ?_
  rintro en w1 ⟨hB1, v, j, bad, rfl, hR1, hlink⟩
  have e2 := hR1.c2
  have e4 := hR1.c4
  have hI1 := hI.but hB1 (fun h => hbi h.symm)
  have g0 := hI1.c0
  have g1 := hI1.c1
  clear c2 c4 d0 d1
  rcases hlink with ⟨rfl, d, rfl, hdn, hd⟩ | ⟨rfl, hd⟩
  ·have HD : Hid (digP s 10 i = .ok (d, j)) := hd
   clear hd
   go_wp2_with fail
   refine (digit_call b s j src bi vc vt _ _ 10 rfl hs hR1).mono ?_
   rintro en w2 ⟨hB2, v, l, bad, rfl, hR2, hlink⟩
   rcases hlink with ⟨rfl, d2, rfl, hdn2, hd2⟩ | ⟨rfl, hd2⟩
   ·have HD2 : Hid (digP s 10 j = .ok (d2, l)) := hd2
    clear hd2
    go_wp2_with fail
    go_ret2
    exact ⟨hB1.trans hB2, 0, 10 * (d : Int) + d2, l, false, rfl, hR2, Or.inl ⟨rfl, 0, 10 * d + d2, rfl, by simp, by simp [operP, HV.out, HD.out, HD2.out]⟩⟩
   ·have HD2 : Hid (digP s 10 j = .error l) := hd2
    clear hd2
    go_wp2_with fail
    go_ret2
    exact ⟨hB1.trans hB2, 0, _, l, true, rfl, hR2, Or.inr ⟨rfl, by simp [operP, HV.out, HD.out, HD2.out]⟩⟩
  ·have HD : Hid (digP s 10 i = .error j) := hd
   clear hd
   go_wp2_with fail
   go_ret2
   exact ⟨hB1, _, _, j, true, rfl, hR1, Or.inr ⟨rfl, by simp [operP, HV.out, HD.out]⟩⟩
set_option maxHeartbeats 1600000 in
set_option maxRecDepth 100000 in
theorem oper_no (base top : Nat) (cs : List Cls) (gs : List Sig) (v2 : Value) (c nl : Nat) (hc : c < 256) (hnl : nl ≤ 5) (hs : s.size ≤ 2000) (hbi : b ≠ bi) (hbb : b < base) (hR : RdB w b s i false src bi vc vt) (hH : Heads w base top bi cs gs v2) (hv : c ≠ 108 ∧ c ≠ 115 ∧ c ≠ 107 ∧ c ≠ 110 ∧ c ≠ 120 ∧ c ≠ 103 ∧ c ≠ 112 ∧ c ≠ 99 ∧ c ≠ 106 ∧ c ≠ 102) :
  Calls Tryz.prog 189 #[.pointer (some ⟨b, 0, none⟩), .int .u8 c, .int .i64 nl] w fun en w' => But (· = b) w w' ∧ ∃ (x y : Int) (j : Nat) (bad : Bool), en = .returned (.tuple #[.int .i64 x, .int .i64 y]) ∧ RdB w' b s j bad src bi vc vt ∧ ((bad = false ∧ ∃ a d : Nat, x = a ∧ y = d ∧ operP s cs gs.length nl c i = .ok (a, d, j)) ∨ (bad = true ∧ operP s cs gs.length nl c i = .error j)) := by
 obtain ⟨hwf, hnc, hns, v0, v1, hI, hO, hO', _⟩ := hH
 obtain ⟨a0, cap0, rfl⟩ := owns_len hO
 obtain ⟨a1, cap1, rfl⟩ := owns_len hO'
 have c2 := hR.c2
 have c4 := hR.c4
 have d0 := hI.c0
 have d1 := hI.c1
 have k108 : ((c : Int) == 108) = false := by rw [beq_eq_false_iff_ne]; omega
 have k115 : ((c : Int) == 115) = false := by rw [beq_eq_false_iff_ne]; omega
 have k107 : ((c : Int) == 107) = false := by rw [beq_eq_false_iff_ne]; omega
 have k110 : ((c : Int) == 110) = false := by rw [beq_eq_false_iff_ne]; omega
 have k120 : ((c : Int) == 120) = false := by rw [beq_eq_false_iff_ne]; omega
 have k103 : ((c : Int) == 103) = false := by rw [beq_eq_false_iff_ne]; omega
 have k112 : ((c : Int) == 112) = false := by rw [beq_eq_false_iff_ne]; omega
 have k99 : ((c : Int) == 99) = false := by rw [beq_eq_false_iff_ne]; omega
 have k106 : ((c : Int) == 106) = false := by rw [beq_eq_false_iff_ne]; omega
 have k102 : ((c : Int) == 102) = false := by rw [beq_eq_false_iff_ne]; omega
 have HV : Hid (c ≠ 108 ∧ c ≠ 115 ∧ c ≠ 107 ∧ c ≠ 110 ∧ c ≠ 120 ∧ c ≠ 103 ∧ c ≠ 112 ∧ c ≠ 99 ∧ c ≠ 106 ∧ c ≠ 102) := hv
 clear hv
 go_enter Tryz.func189, Tryz.ntmps189
 go_wp2_with fail
 go_ret2
 have hv := HV.out
 exact ⟨But.refl _ _, 0, 0, i, false, rfl, hR, Or.inl ⟨rfl, 0, 0, rfl, rfl, by simp [operP, hv.1, hv.2.1, hv.2.2.1, hv.2.2.2.1, hv.2.2.2.2.1, hv.2.2.2.2.2.1, hv.2.2.2.2.2.2.1, hv.2.2.2.2.2.2.2.1, hv.2.2.2.2.2.2.2.2.1, hv.2.2.2.2.2.2.2.2.2]⟩⟩
theorem oper_any (base top : Nat) (cs : List Cls) (gs : List Sig) (v2 : Value) (c nl : Nat) (hc : c < 256) (hnl : nl ≤ 5) (hs : s.size ≤ 2000) (hbi : b ≠ bi) (hbb : b < base) (hR : RdB w b s i false src bi vc vt) (hH : Heads w base top bi cs gs v2) :
 Calls Tryz.prog 189 #[.pointer (some ⟨b, 0, none⟩), .int .u8 c, .int .i64 nl] w fun en w' => But (· = b) w w' ∧ ∃ (x y : Int) (j : Nat) (bad : Bool), en = .returned (.tuple #[.int .i64 x, .int .i64 y]) ∧ RdB w' b s j bad src bi vc vt ∧ ((bad = false ∧ ∃ a d : Nat, x = a ∧ y = d ∧ operP s cs gs.length nl c i = .ok (a, d, j)) ∨ (bad = true ∧ operP s cs gs.length nl c i = .error j)) := by
 by_cases h1 : c = 108 ∨ c = 115
 ·exact oper_ls b s i src bi vc vt w base top cs gs v2 c nl hc hnl hs hbi hbb hR hH h1
 by_cases h2 : c = 107
 ·exact oper_k b s i src bi vc vt w base top cs gs v2 c nl hc hnl hs hbi hbb hR hH h2
 by_cases h3 : c = 110 ∨ c = 120
 ·exact oper_nx b s i src bi vc vt w base top cs gs v2 c nl hc hnl hs hbi hbb hR hH h3
 by_cases h4 : c = 103 ∨ c = 112
 ·exact oper_gp b s i src bi vc vt w base top cs gs v2 c nl hc hnl hs hbi hbb hR hH h4
 by_cases h5 : c = 99
 ·exact oper_c b s i src bi vc vt w base top cs gs v2 c nl hc hnl hs hbi hbb hR hH h5
 by_cases h6 : c = 106 ∨ c = 102
 ·exact oper_jf b s i src bi vc vt w base top cs gs v2 c nl hc hnl hs hbi hbb hR hH h6
 exact oper_no b s i src bi vc vt w base top cs gs v2 c nl hc hnl hs hbi hbb hR hH (by omega)
end
end Go.Proofs.YtpfkkmacakjmbaaGreatDoor
