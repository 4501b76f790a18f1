import Derived.Test.YtpfkkmacakjmbaaGreatDoorP07
import Derived.Test.YtpfkkmacakjmbaaGreatDoorP02
namespace Go.Proofs.YtpfkkmacakjmbaaGreatDoor
open Go Go.RowKit Sp
set_option linter.unusedSimpArgs false
set_option linter.unusedVariables false
theorem conv2i (a d : Int) (c e : UInt8) (ha : a = c.toNat) (hd : d = e.toNat) (w : World) : (convert 112 9 (.slice (some ⟨w.heap.size, 0, none⟩) 2 2)).run Tryz.prog (w.alloc (.cells #[.int .u8 a, .int .u8 d] 5)) = .ok (.string ⟨#[c, e]⟩) (w.alloc (.cells #[.int .u8 a, .int .u8 d] 5)) := by
 subst ha hd
 exact conv2 c e w
theorem digP_ok {s : ByteArray} {n i d j : Nat} (h : digP s n i = .ok (d, j)) : j = i + 1 ∧ d < n ∧ i < s.size := by
 unfold digP at h
 split at h
 ·rename_i hd
  cases h
  have h1 := isDig_iff.1 hd
  exact ⟨rfl, by omega, pk_lt (by omega)⟩
 ·cases h
theorem letP_ok {s : ByteArray} {n i d j : Nat} (h : letP s n i = .ok (d, j)) : j = i + 1 ∧ d < n ∧ i < s.size := by
 unfold letP at h
 split at h
 ·rename_i hd
  cases h
  have h1 := isLet_iff.1 hd
  exact ⟨rfl, by omega, pk_lt (by omega)⟩
 ·cases h
theorem ownI_isSome (bs : List Bod) (x m : Int) : (ownB bs x m).isSome = decide (0 ≤ ownI bs x m) := by
 unfold ownI
 cases ownB bs x m with
 | none => rfl
 | some k => simp
/-- What the reader has behind the bodies. -/
def BodPost (R : Except Nat (List Bod × Nat)) (b : Nat) (s : ByteArray) (bi base top : Nat) (cs : List Cls) (gs : List Sig) (w' : World) : Prop :=
 ∃ j bad vc' vt', RdB w' b s j bad false bi vc' vt' ∧
  ((bad = false ∧ ∃ l v2, R = .ok (l.map (·.1), j) ∧ l.length ≤ 6 ∧ Heads w' base top bi cs gs v2 ∧ Bods w' top v2 l) ∨ (bad = true ∧ R = .error j))
section
variable (b : Nat) (s : ByteArray) (i : Nat) (bi : Nat) (vc vt : Value) (w : World)
set_option maxHeartbeats 3200000 in
set_option maxRecDepth 100000 in
theorem bodies_any (base top : Nat) (cs : List Cls) (gs : List Sig) (hs : s.size ≤ 2000) (hbi : b ≠ bi) (hbb : b < base) (hbib : bi < base) (hbt : base ≤ top) (hR : RdB w b s i false false bi vc vt) (hH : Heads w base top bi cs gs (.slice none 0 0)) (htw : top ≤ w.heap.size) :
  Calls Tryz.prog 78 #[.pointer (some ⟨b, 0, none⟩)] w fun en w' => en = .returned (.tuple #[]) ∧ But (fun k => k = b ∨ k = bi ∨ top ≤ k) w w' ∧
   BodPost (bodP s cs gs 6 [] i) b s bi base top cs gs w' := by
 obtain ⟨R, hRR⟩ : ∃ R, bodP s cs gs 6 [] i = R := ⟨_, rfl⟩
 rw [hRR]
 have HRR : Hid (bodP s cs gs 6 [] i = R) := hRR
 clear hRR
 have hnc := hH.nc
 have hns := hH.ns
 go_enter Tryz.func78, Tryz.ntmps78
 go_wp2_with (go_at_call 127; refine (peek_any b s i false false bi vc vt _ hs hR).mono ?_; rintro en w' ⟨rfl, nn, rfl⟩)
 go_loopg [2] 7 (fun m c wr => ∃ (i' : Nat) (bad' : Bool) (vc vt : Value), c = .int .u8 (pk s i').toNat ∧ But (fun k => k = b ∨ k = bi ∨ top ≤ k) w wr ∧ RdB wr b s i' bad' false bi vc vt ∧
  ((bad' = false ∧ ∃ f l v2, m = f + 1 ∧ f + List.length l = 6 ∧ bodP s cs gs f (l.map (·.1)) i' = R ∧ Heads wr base top bi cs gs v2 ∧ Bods wr top v2 l) ∨ (bad' = true ∧ m = 0 ∧ R = .error i')))
 case atStart => exact ⟨i, false, _, _, rfl, But.drewN _ _ _, hR.drewN _, Or.inl ⟨rfl, 6, [], _, rfl, rfl, HRR.out, hH.but (But.drewN (fun _ => False) _ _) (fun h => h) (fun k h => h.elim), ⟨owns_nil _ _ _ _, fun x hx => by cases hx⟩⟩⟩
 case round =>
  obtain ⟨i', bad', vc, vt, rfl, hB, hRr, hcase⟩ := hrel
  have c1 := hRr.c1
  have c2 := hRr.c2
  have c4 := hRr.c4
  have f1 := hRr.fz 1
  have f2 := hRr.fz 2
  rcases hcase with ⟨rfl, f, l, v2, rfl, hfl, hty, hHr, hDr⟩ | ⟨rfl, rfl, rfl⟩
  ·have HT : Hid (bodP s cs gs f (l.map (·.1)) i' = R) := hty
   have hfl1 : f + l.length ≤ 6 := by omega
   have hfl2 : 6 ≤ f + l.length := by omega
   have blt := hRr.lt
   clear hty hfl
   obtain ⟨a2, cap2, rfl⟩ := owns_len hDr.own
   obtain ⟨hwf, _, _, v0, v1, hIr, hO0, hO1, hvt⟩ := hHr
   obtain ⟨a0, cap0, rfl⟩ := owns_len hO0
   obtain ⟨a1, cap1, rfl⟩ := owns_len hO1
   have d0 := hIr.c0
   have d1 := hIr.c1
   have d2 := hIr.c2
   have bilt := hIr.lt
   have hHr : Heads wr base top bi cs gs (.slice a2 l.length cap2) := ⟨hwf, hnc, hns, _, _, hIr, hO0, hO1, hvt⟩
   by_cases hpe : (pk s i').toNat = 59
   · -- the end
    have hi : i' < s.size := pk_lt (by omega)
    have hne : (((pk s i').toNat : Int) != 59) = false := by rw [bne_eq_false_iff_eq]; omega
    have hres : R = .ok (l.map (·.1), i' + 1) := by rw [← HT.out]; cases f <;> simp [bodP, hpe]
    subst hres
    clear HT hpe
    go_wp2_with fail
    go_end0
    have hBe : But (· = b) wr (wr.setCell ⟨b, 1, none⟩ (.int .i64 ((i' : Int) + 1))) := But.setB _ _ _ _
    exact ⟨rfl, hB.next hBe (fun _ _ h => Or.inl h), i' + 1, false, _, _, hRr.inc, Or.inl ⟨rfl, l, _, rfl, by omega, hHr.but hBe (fun h => hbi h.symm) (fun k h => by omega), hDr.but hBe (fun k h => by omega)⟩⟩
   ·have hne : (((pk s i').toNat : Int) != 59) = true := by rw [bne_iff_ne]; omega
    have HNE : Hid (¬ (pk s i').toNat = 59) := hpe
    clear hpe
    cases f with
    | zero =>
     have hres : R = .error i' := by rw [← HT.out]; simp [bodP, HNE.out]
     subst hres
     have hlen : (6 : Int) ≤ (l.length : Int) := by omega
     clear HT
     go_wp2_with fail
     exact bodyPost_ret (v := .tuple #[]) (by simp [results, Tryz.results78, go_sem]) rfl ⟨rfl, hB.next (But.setB _ _ _ _) (fun _ _ h => Or.inl h), i', true, _, _, hRr.set2 true, Or.inr ⟨rfl, rfl⟩⟩
    | succ f =>
     have hlen : ¬ (6 : Int) ≤ (l.length : Int) := by omega
     go_wp2_with fail
     refine (class_call b s i' false bi vc vt _ _ cs.length rfl hnc hs hRr).mono ?_
     rintro en w1 ⟨hB1, xv, j, bad, rfl, hR1, hlink⟩
     have hBr1 : But (fun k => k = b ∨ k = bi ∨ top ≤ k) w w1 := hB.next hB1 (fun _ _ h => Or.inl h)
     have e2 := hR1.c2
     have e4 := hR1.c4
     have hI1 := hIr.but hB1 (fun h => hbi h.symm)
     clear c1 c2 c4 f1 f2 d0 d1 d2
     have d0 := hI1.c0
     have d1 := hI1.c1
     rcases hlink with ⟨rfl, x, rfl, hxn, hx⟩ | ⟨rfl, hx⟩
     case inr =>
      have hres : R = .error j := by rw [← HT.out]; simp [bodP, HNE.out, hx]
      subst hres
      clear HT hx
      go_wp2_with fail
      exact bodyPost_ret (v := .tuple #[]) (by simp [results, Tryz.results78, go_sem]) rfl ⟨rfl, hBr1, j, true, _, _, hR1, Or.inr ⟨rfl, rfl⟩⟩
     have HX : Hid (letP s cs.length i' = .ok (x, j)) := hx
     clear hx
     go_wp2_with fail
     refine (digit_call b s j false bi vc vt _ _ gs.length rfl hs hR1).mono ?_
     rintro en w2 ⟨hB2, mv, p, bad, rfl, hR2, hlink⟩
     have hBr2 : But (· = b) wr w2 := hB1.trans hB2
     have hB2' : But (fun k => k = b ∨ k = bi ∨ top ≤ k) w w2 := hB.next hBr2 (fun _ _ h => Or.inl h)
     have hI2 := hI1.but hB2 (fun h => hbi h.symm)
     clear e2 e4 d0 d1
     have e1 := hR2.c1
     have e2 := hR2.c2
     have e4 := hR2.c4
     have g1 := hR2.fz 1
     have g2 := hR2.fz 2
     have d0 := hI2.c0
     have d1 := hI2.c1
     rcases hlink with ⟨rfl, m, rfl, hm10, hm⟩ | ⟨rfl, hm⟩
     case inr =>
      have hres : R = .error p := by rw [← HT.out]; simp [bodP, HNE.out, HX.out, hm]
      subst hres
      clear HT hm
      go_wp2_with fail
      exact bodyPost_ret (v := .tuple #[]) (by simp [results, Tryz.results78, go_sem]) rfl ⟨rfl, hB2', p, true, _, _, hR2, Or.inr ⟨rfl, rfl⟩⟩
     have HM : Hid (digP s gs.length j = .ok (m, p)) := hm
     obtain ⟨hpj, hmn, hjs⟩ := digP_ok hm
     clear hm
     have hO2 : w2.ownsRow top 52 5 (.slice a2 l.length cap2) l.length (bodCells l) := owns_but hDr.own hBr2 (fun g hg h => by have := owns_ge hDr.own g hg; omega)
     go_wp2_with fail
     refine (own_any top bi _ _ _ l (x : Int) (m : Int) _ (by omega) hI2 hO2).mono ?_
     rintro en wx ⟨rfl, hwx⟩
     rw [hwx]
     clear hwx wx
     have HOI := ownI_isSome (l.map (·.1)) (x : Int) (m : Int)
     obtain ⟨oi, hoi⟩ : ∃ oi, ownI (l.map (·.1)) (x : Int) (m : Int) = oi := ⟨_, rfl⟩
     rw [hoi] at HOI ⊢
     clear hoi
     by_cases hoi : 0 ≤ oi
     · -- there is one already
      have hsome : (ownB (l.map (·.1)) (x : Int) (m : Int)).isSome = true := by rw [HOI]; simpa using hoi
      have hres : R = .error j := by rw [← HT.out]; simp only [bodP, if_neg HNE.out, HX.out, HM.out, if_pos hsome]
      subst hres
      have hpz : (p : Int) - 1 = (j : Int) := by omega
      have HPZ : Hid ((p : Int) - 1 = (j : Int)) := hpz
      have hp1 : (1 : Int) ≤ (p : Int) := by omega
      have hp2 : (p : Int) ≤ 3000 := by omega
      clear HT hsome HOI hpz hpj
      go_wp2_with fail
      refine bodyPost_ret (v := .tuple #[]) (by simp [results, Tryz.results78, go_sem]) rfl ⟨rfl, ?_, j, true, vc, vt, ?_, Or.inr ⟨rfl, rfl⟩⟩
      ·exact (hB2'.next (But.setB _ _ _ _) (fun _ _ h => Or.inl h)).next (But.setB _ _ _ _) (fun _ _ h => Or.inl h)
      ·rw [HPZ.out]; exact (hR2.set1 j).set2 true
     ·have hnone : ¬ (ownB (l.map (·.1)) (x : Int) (m : Int)).isSome = true := by rw [HOI]; simpa using hoi
      have HNO : Hid (¬ (ownB (l.map (·.1)) (x : Int) (m : Int)).isSome = true) := hnone
      clear hnone HOI hpj
      go_wp2_with fail
      refine (types_call b s p false bi vc vt _ _ _ _ 3 cs.length 58 rfl rfl rfl hs hnc (by omega) (by decide) hR2).mono ?_
      rintro en w3 ⟨hB3, o, q, bad, rfl, hosz, hR3, hlink⟩
      have hBr3 : But (· = b) wr w3 := hBr2.trans hB3
      have hB3' : But (fun k => k = b ∨ k = bi ∨ top ≤ k) w w3 := hB.next hBr3 (fun _ _ h => Or.inl h)
      have hI3 := hI2.but hB3 (fun h => hbi h.symm)
      clear e1 e2 e4 g1 g2 d0 d1
      have e2 := hR3.c2
      have e4 := hR3.c4
      have d1 := hI3.c1
      rcases hlink with ⟨rfl, t, rfl, ht⟩ | ⟨rfl, ht⟩
      case inr =>
       have hres : R = .error q := by rw [← HT.out]; simp only [bodP, if_neg HNE.out, HX.out, HM.out, if_neg HNO.out, ht]
       subst hres
       clear HT ht
       go_wp2_with fail
       exact bodyPost_ret (v := .tuple #[]) (by simp [results, Tryz.results78, go_sem]) rfl ⟨rfl, hB3', q, true, _, _, hR3, Or.inr ⟨rfl, rfl⟩⟩
      have HTY : Hid (tys s cs.length 58 3 [] p = .ok (t, q)) := ht
      have htl := tys_len ht
      simp only [List.length_nil, Nat.add_zero] at htl
      clear ht
      have hga := List.getElem?_eq_getElem hmn
      have hO1' := owns_but hO1 hBr3 (fun g hg h => by have := owns_ge hO1 g hg; omega)
      obtain ⟨gS, rfl, hgS1, hgS2, hcell⟩ := owns_two hO1' (by omega)
      have hcS := hcell _ _ (sigCells_at0 hga)
      clear hcell
      have hmlt : (m : Int) < (gs.length : Int) := by omega
      have hx0 : (x : Int) < 4 := by omega
      obtain ⟨arg, harg⟩ : ∃ arg : UInt8, gs[m].arg = arg := ⟨_, rfl⟩
      have HARG : Hid (argOf gs m = arg) := by
       show argOf gs m = arg
       unfold argOf
       rw [hga]
       exact harg
      rw [harg] at hcS
      clear harg hga
      obtain ⟨cx, hcxd⟩ : ∃ cx : UInt8, UInt8.ofNat (65 + x) = cx := ⟨_, rfl⟩
      have hcx : (65 + (x : Int)) = (cx.toNat : Int) := by
       rw [← hcxd, UInt8.toNat_ofNat']
       omega
      have HCX : Hid ((65 + (x : Int)) = (cx.toNat : Int)) := hcx
      have HCD : Hid (UInt8.ofNat (65 + x) = cx) := hcxd
      have hcv := conv2i (65 + (x : Int)) (arg.toNat : Int) cx arg HCX.out rfl
      have hsz2 : (⟨#[cx, arg]⟩ : ByteArray).size + (⟨t.toArray⟩ : ByteArray).size ≤ 1000 := by show 2 + t.toArray.size ≤ 1000; simp; omega
      clear hcx hcxd
      go_wp2_with fail
      rw [show (⟨#[cx, arg]⟩ : ByteArray) ++ ⟨t.toArray⟩ = ⟨(cx :: arg :: t).toArray⟩ from bytes_append [cx, arg] t]
      have hBr4 : But (· = b) wr (w3.alloc (.cells #[.int .u8 (65 + (x : Int)), .int .u8 arg.toNat] 5)) := hBr3.trans (But.alloc _ _ _)
      have hwrs := hB.size
      have hw3s := hB3'.size
      refine (inner_any b s q bi _ _ _ base top cs gs _ l (x : Int) (m : Int) (cx :: arg :: t) (by omega) (by simp; omega) hs hbi hbb hbib hbt (hR3.alloc _) (hHr.but hBr4 (fun h => hbi h.symm) (fun k h => by omega)) (hDr.but hBr4 (fun k h => by omega)) (by simp; omega)).mono ?_
      rintro en w4 ⟨rfl, hB4, j4, bad4, vc4, vt4, hR4, hlink⟩
      have HLK : Hid ((bad4 = false ∧ ∃ is vk v2', codeP s cs gs.length (cx :: arg :: t).length 100 [] q = .ok (is, j4) ∧ Heads w4 base top bi cs gs v2' ∧ Bods w4 top v2' (l ++ [(⟨x, m, cx :: arg :: t, is⟩, vk, .slice none 0 0)])) ∨ (bad4 = true ∧ codeP s cs gs.length (cx :: arg :: t).length 100 [] q = .error j4)) := hlink
      have hB4' : But (fun k => k = b ∨ k = bi ∨ top ≤ k) w w4 := (hB.next hBr4 (fun _ _ h => Or.inl h)).trans hB4
      clear hlink e2 e4 d1 hcS hcv
      go_wp2_with (go_at_call 127; refine (peek_any b s j4 bad4 false bi _ _ _ hs hR4).mono ?_; rintro en w' ⟨rfl, n3, rfl⟩)
      have hstep : ∀ r, codeP s cs gs.length (cx :: arg :: t).length 100 [] q = r → R = match r with
        | .error e => .error e
        | .ok (is, z) => bodP s cs gs f (l.map (·.1) ++ [⟨x, m, cx :: arg :: t, is⟩]) z := by
       intro r hr
       rw [← HT.out]
       simp only [bodP, if_neg HNE.out, HX.out, HM.out, if_neg HNO.out, HTY.out, HARG.out, HCD.out]
       rw [show (cx :: arg :: t).length = t.length + 2 from rfl] at hr
       rw [hr]
       rcases r with e | ⟨is, z⟩ <;> rfl
      rcases HLK.out with ⟨rfl, is, vk, v2', hc, hH4, hD4⟩ | ⟨rfl, hc⟩
      ·go_roundg (f + 1)
       case measure => omega
       case rel =>
        refine ⟨j4, false, _, _, rfl, hB4'.next (But.drewN (fun _ => False) _ _) (fun _ _ h => h.elim), hR4.drewN _, Or.inl ⟨rfl, f, _, v2', rfl, by simp; omega, ?_, hH4.but (But.drewN (fun _ => False) _ _) (fun h => h) (fun k h => h.elim), hD4.but (But.drewN (fun _ => False) _ _) (fun k h => h.elim)⟩⟩
        rw [List.map_append]
        exact (hstep _ hc).symm
      ·go_roundg 0
       case measure => omega
       case rel => exact ⟨j4, true, _, _, rfl, hB4'.next (But.drewN (fun _ => False) _ _) (fun _ _ h => h.elim), hR4.drewN _, Or.inr ⟨rfl, rfl, hstep _ hc⟩⟩
  ·go_wp2_with fail
   go_end0
   exact ⟨rfl, hB, i', true, _, _, hRr, Or.inr ⟨rfl, rfl⟩⟩
end
end Go.Proofs.YtpfkkmacakjmbaaGreatDoor
namespace Go.Proofs.YtpfkkmacakjmbaaGreatDoor
open Go Go.RowKit Sp
set_option linter.unusedSimpArgs false
set_option linter.unusedVariables false
theorem owns_down {w : World} {base base' e size n : Nat} {v : Value} {xs : List Value} (h : w.ownsRow base e size v n xs) (hb : base' ≤ base) : w.ownsRow base' e size v n xs := by
 refine ⟨h.1, ?_⟩
 rcases h.2 with h2 | ⟨g, cap, cur, h1, h2, h3⟩
 ·exact Or.inl h2
 ·exact Or.inr ⟨g, cap, cur, h1, by omega, h3⟩
/-- An image of the document's in memory. -/
def ImgAt (w : World) (bi : Nat) (im : Img) : Prop :=
 ∃ v0 v1 v2 l, ImB w bi v0 v1 v2 ∧ w.ownsRow 0 203 2 v0 im.classes.length (clsCells im.classes) ∧ w.ownsRow 0 129 2 v1 im.sigs.length (sigCells im.sigs) ∧
  w.ownsRow 0 52 5 v2 l.length (bodCells l) ∧ l.map (·.1) = im.bodies ∧
  ∀ x ∈ l, w.ownsRow 0 144 4 x.2.1 x.1.code.length (insCells x.1.code) ∧ x.2.2 = .slice none 0 0
theorem ImgAt.but {w w' : World} {bi : Nat} {im : Img} (h : ImgAt w bi im) (hb : But (fun _ => False) w w') : ImgAt w' bi im := by
 obtain ⟨v0, v1, v2, l, hI, h0, h1, h2, hl, hc⟩ := h
 exact ⟨v0, v1, v2, l, hI.but hb (fun h => h), owns_but h0 hb (fun _ _ h => h), owns_but h1 hb (fun _ _ h => h), owns_but h2 hb (fun _ _ h => h), hl, fun x hx => ⟨owns_but (hc x hx).1 hb (fun _ _ h => h), (hc x hx).2⟩⟩
/-- What 'Read' answers. -/
def readI (R : Except Nat Img) : Int := match R with
 | .ok _ => -1
 | .error j => j
def ReadPost (R : Except Nat Img) (bi : Nat) (w' : World) : Prop := match R with
 | .ok im => ImgAt w' bi im
 | .error _ => True
section
variable (s : ByteArray) (w : World)
set_option maxHeartbeats 1600000 in
set_option maxRecDepth 100000 in
theorem read_any (hs : s.size ≤ 2000) :
  Calls Tryz.prog 52 #[.string s, .bool false] w fun en w' => en = .returned (.tuple #[.pointer (some ⟨w.heap.size, 0, none⟩), .int .i64 (readI (readP s))]) ∧ But (fun _ => False) w w' ∧ ReadPost (readP s) w.heap.size w' := by
 obtain ⟨R, hRR⟩ : ∃ R, readP s = R := ⟨_, rfl⟩
 rw [hRR]
 have HRR : Hid (readP s = R) := hRR
 clear hRR
 go_enter Tryz.func52, Tryz.ntmps52
 go_wp2_with fail
 have hR0 : RdB ((w.alloc (.cells #[.slice none 0 0, .slice none 0 0, .slice none 0 0] 44)).alloc (.cells #[.string s, .int .i64 0, .bool false, .bool false, .pointer (some ⟨w.heap.size, 0, none⟩), .slice none 0 0, .slice none 0 0] 140)) (w.heap.size + 1) s 0 false false w.heap.size (.slice none 0 0) (.slice none 0 0) := heap_alloc_at (by simp) _
 have hI0 : ImB ((w.alloc (.cells #[.slice none 0 0, .slice none 0 0, .slice none 0 0] 44)).alloc (.cells #[.string s, .int .i64 0, .bool false, .bool false, .pointer (some ⟨w.heap.size, 0, none⟩), .slice none 0 0, .slice none 0 0] 140)) w.heap.size (.slice none 0 0) (.slice none 0 0) (.slice none 0 0) := ImB.but (w := w.alloc (.cells #[.slice none 0 0, .slice none 0 0, .slice none 0 0] 44)) (heap_alloc_new w _) (But.alloc (fun _ => False) _ _) (fun h => h)
 have hB0 : But (fun _ => False) w ((w.alloc (.cells #[.slice none 0 0, .slice none 0 0, .slice none 0 0] 44)).alloc (.cells #[.string s, .int .i64 0, .bool false, .bool false, .pointer (some ⟨w.heap.size, 0, none⟩), .slice none 0 0, .slice none 0 0] 140)) := (But.alloc _ _ _).trans (But.alloc _ _ _)
 have hz0 : ((w.alloc (.cells #[.slice none 0 0, .slice none 0 0, .slice none 0 0] 44)).alloc (.cells #[.string s, .int .i64 0, .bool false, .bool false, .pointer (some ⟨w.heap.size, 0, none⟩), .slice none 0 0, .slice none 0 0] 140)).heap.size = w.heap.size + 2 := by simp
 generalize ((w.alloc (.cells #[.slice none 0 0, .slice none 0 0, .slice none 0 0] 44)).alloc (.cells #[.string s, .int .i64 0, .bool false, .bool false, .pointer (some ⟨w.heap.size, 0, none⟩), .slice none 0 0, .slice none 0 0] 140)) = w0 at *
 have hbi : w.heap.size + 1 ≠ w.heap.size := by omega
 refine (classes_any (w.heap.size + 1) s 0 false w.heap.size _ _ w0 hs hbi hR0 hI0).mono ?_
 rintro en w1 ⟨rfl, hB1, hp1⟩
 have hBw1 : But (fun _ => False) w w1 := hB0.next hB1 (fun k hk h => by omega)
 have hs1 := hB1.size
 rcases hc1 : clsP s 4 [] 0 with j | ⟨cs, j⟩
 ·rw [hc1] at hp1
  simp only at hp1
  have e1 := hp1.c1
  have e2 := hp1.c2
  have e4 := hp1.c4
  have hres : R = .error j := by rw [← HRR.out]; simp [readP, hc1]
  subst hres
  clear HRR
  go_wp2_with fail
  go_quiet (fail)
  go_wp2
  go_ret2
  exact ⟨rfl, hBw1.next (But.drewN (fun _ => False) _ _) (fun _ _ h => h), trivial⟩
 rw [hc1] at hp1
 obtain ⟨hR1, v0, hI1, hO1⟩ := hp1
 have HC1 : Hid (clsP s 4 [] 0 = .ok (cs, j)) := hc1
 obtain ⟨hwf, hncl⟩ := clsP_wf hc1
 clear hc1
 obtain ⟨a0, cap0, rfl⟩ := owns_len hO1
 have e1 := hR1.c1
 have e2 := hR1.c2
 go_wp2_with fail
 refine (sigs_any (w.heap.size + 1) s j false w.heap.size _ _ w1 a0 cs.length cap0 hncl hs hbi hR1 hI1).mono ?_
 rintro en w2 ⟨rfl, hB2, hp2⟩
 have hBw2 : But (fun _ => False) w w2 := hBw1.next hB2 (fun k hk h => by omega)
 have hs2 := hB2.size
 clear e1 e2
 rcases hc2 : sigP s cs.length 3 [] j with j2 | ⟨gs, j2⟩
 ·rw [hc2] at hp2
  simp only at hp2
  have e1 := hp2.c1
  have e2 := hp2.c2
  have e4 := hp2.c4
  have hres : R = .error j2 := by rw [← HRR.out]; simp [readP, HC1.out, hc2]
  subst hres
  clear HRR
  go_wp2_with fail
  go_quiet (fail)
  go_wp2
  go_ret2
  exact ⟨rfl, hBw2.next (But.drewN (fun _ => False) _ _) (fun _ _ h => h), trivial⟩
 rw [hc2] at hp2
 obtain ⟨hR2, v1, hI2, hO2⟩ := hp2
 have HC2 : Hid (sigP s cs.length 3 [] j = .ok (gs, j2)) := hc2
 have hnsl := sigP_len hc2
 clear hc2
 have hO1' := owns_but hO1 hB2 (fun g hg h => by have := owns_ge hO1 g hg; omega)
 have hH2 : Heads w2 (w.heap.size + 2) w2.heap.size w.heap.size cs gs (.slice none 0 0) := ⟨hwf, hncl, by simpa using hnsl, _, _, hI2, owns_down hO1' (by omega), owns_down hO2 (by omega), fun g hg => by
  rcases hg with hg | hg
  ·exact owns_lt hO1' g hg
  ·exact owns_lt hO2 g hg⟩
 have e1 := hR2.c1
 have e2 := hR2.c2
 go_wp2_with fail
 refine (bodies_any (w.heap.size + 1) s j2 w.heap.size _ _ w2 (w.heap.size + 2) w2.heap.size cs gs hs hbi (by omega) (by omega) (by omega) hR2 hH2 (Nat.le_refl _)).mono ?_
 rintro en w3 ⟨rfl, hB3, j3, bad3, vc3, vt3, hR3, hlink⟩
 have hBw3 : But (fun _ => False) w w3 := hBw2.next hB3 (fun k hk h => by omega)
 have hs3 := hB3.size
 clear e1 e2
 rcases hlink with ⟨rfl, l, v2, hc3, hll, hH3, hD3⟩ | ⟨rfl, hc3⟩
 case inr =>
  have e1 := hR3.c1
  have e2 := hR3.c2
  have e4 := hR3.c4
  have hres : R = .error j3 := by rw [← HRR.out]; simp [readP, HC1.out, HC2.out, hc3]
  subst hres
  clear HRR
  go_wp2_with fail
  go_quiet (fail)
  go_wp2
  go_ret2
  exact ⟨rfl, hBw3.next (But.drewN (fun _ => False) _ _) (fun _ _ h => h), trivial⟩
 have HC3 : Hid (bodP s cs gs 6 [] j2 = .ok (l.map (·.1), j3)) := hc3
 clear hc3
 obtain ⟨a2, cap2, rfl⟩ := owns_len hD3.own
 obtain ⟨_, _, _, u0, u1, hI3, hU0, hU1, hut⟩ := hH3
 obtain ⟨b0, capb0, rfl⟩ := owns_len hU0
 have hH3 : Heads w3 (w.heap.size + 2) w2.heap.size w.heap.size cs gs (.slice a2 l.length cap2) := ⟨hwf, hncl, by simpa using hnsl, _, _, hI3, hU0, hU1, hut⟩
 have e1 := hR3.c1
 have e2 := hR3.c2
 have e4 := hR3.c4
 have d0 := hI3.c0
 go_wp2_with fail
 refine (types_call (w.heap.size + 1) s j3 false w.heap.size _ _ w3 _ _ _ 3 cs.length 58 rfl rfl rfl hs hncl (by omega) (by decide) hR3).mono ?_
 rintro en w4 ⟨hB4, o, j4, bad4, rfl, hosz, hR4, hlink⟩
 have hBw4 : But (fun _ => False) w w4 := hBw3.next hB4 (fun k hk h => by omega)
 have hs4 := hB4.size
 clear e1 e2 e4 d0
 rcases hlink with ⟨rfl, t, rfl, ht⟩ | ⟨rfl, ht⟩
 case inr =>
  have e1 := hR4.c1
  have e2 := hR4.c2
  have e4 := hR4.c4
  have hres : R = .error j4 := by rw [← HRR.out]; simp [readP, HC1.out, HC2.out, HC3.out, ht]
  subst hres
  clear HRR
  go_wp2_with fail
  go_quiet (fail)
  go_wp2
  go_ret2
  exact ⟨rfl, hBw4.next (But.drewN (fun _ => False) _ _) (fun _ _ h => h), trivial⟩
 have HTY : Hid (tys s cs.length 58 3 [] j3 = .ok (t, j4)) := ht
 have htl := tys_len ht
 simp only [List.length_nil, Nat.add_zero] at htl
 clear ht
 have e1 := hR4.c1
 have e2 := hR4.c2
 go_wp2_with fail
 refine (inner_any (w.heap.size + 1) s j4 w.heap.size _ _ w4 (w.heap.size + 2) w2.heap.size cs gs _ l (-1) (-1) t (by omega) (by omega) hs hbi (by omega) (by omega) (by omega) hR4 (hH3.but hB4 (by omega) (fun k h => by omega)) (hD3.but hB4 (fun k h => by omega)) (by omega)).mono ?_
 rintro en w5 ⟨rfl, hB5, j5, bad5, vc5, vt5, hR5, hlink⟩
 have hBw5 : But (fun _ => False) w w5 := hBw4.next hB5 (fun k hk h => by omega)
 clear e1 e2
 rcases hlink with ⟨rfl, is, vk, v2', hc5, hH5, hD5⟩ | ⟨rfl, hc5⟩
 case inr =>
  have e1 := hR5.c1
  have e2 := hR5.c2
  have e4 := hR5.c4
  have hres : R = .error j5 := by rw [← HRR.out]; simp [readP, HC1.out, HC2.out, HC3.out, HTY.out, hc5]
  subst hres
  clear HRR
  go_wp2_with fail
  go_quiet (fail)
  go_wp2
  go_ret2
  exact ⟨rfl, hBw5.next (But.drewN (fun _ => False) _ _) (fun _ _ h => h), trivial⟩
 have HC5 : Hid (codeP s cs gs.length t.length 100 [] j4 = .ok (is, j5)) := hc5
 clear hc5
 have e1 := hR5.c1
 have e2 := hR5.c2
 have e4 := hR5.c4
 by_cases hend : (j5 : Int) < (s.size : Int)
 ·have hres : R = .error j5 := by rw [← HRR.out]; simp [readP, HC1.out, HC2.out, HC3.out, HTY.out, HC5.out]; omega
  subst hres
  clear HRR
  go_wp2_with fail
  go_quiet (fail)
  go_wp2
  go_ret2
  exact ⟨rfl, hBw5.next (But.drewN (fun _ => False) _ _) (fun _ _ h => h), trivial⟩
 ·have hres : R = .ok ⟨cs, gs, l.map (·.1) ++ [⟨-1, -1, t, is⟩]⟩ := by rw [← HRR.out]; simp [readP, HC1.out, HC2.out, HC3.out, HTY.out, HC5.out]; omega
  subst hres
  clear HRR
  obtain ⟨_, _, _, x0, x1, hI5, hX0, hX1, _⟩ := hH5
  go_wp2_with fail
  go_ret2
  refine ⟨rfl, hBw5, ?_⟩
  exact ⟨_, _, _, _, hI5, owns_down hX0 (by omega), owns_down hX1 (by omega), owns_down hD5.own (by omega), by simp, fun x hx => ⟨owns_down (hD5.code x hx).1 (by omega), (hD5.code x hx).2.1⟩⟩
end
end Go.Proofs.YtpfkkmacakjmbaaGreatDoor
namespace Go.Proofs.YtpfkkmacakjmbaaGreatDoor
open Go Go.RowKit Sp
set_option linter.unusedSimpArgs false
set_option linter.unusedVariables false
theorem ownI_lt {bs : List Bod} {x m : Int} : -1 ≤ ownI bs x m ∧ ownI bs x m < bs.length := by
 unfold ownI
 cases h : ownB bs x m with
 | none => simp; omega
 | some k =>
  unfold ownB at h
  rw [List.findIdx?_eq_some_iff_getElem] at h
  obtain ⟨hk, _⟩ := h
  simp; omega
set_option maxHeartbeats 800000 in
set_option maxRecDepth 100000 in
theorem find_any (bi : Nat) (im : Img) (x m : Int) (w : World) (hI : ImgAt w bi im) (hw : WfC im.classes) (hn : im.classes.length ≤ 4) (hbl : im.bodies.length ≤ 7) (hx0 : -1 ≤ x) (hx : x < im.classes.length) :
  Calls Tryz.prog 81 #[.pointer (some ⟨bi, 0, none⟩), .int .i64 x, .int .i64 m] w fun en w' => en = .returned (.int .i64 (findF im.classes im.bodies m 5 x)) ∧ w' = w := by
 obtain ⟨R, hRR⟩ : ∃ R, findF im.classes im.bodies m 5 x = R := ⟨_, rfl⟩
 rw [hRR]
 have HRR : Hid (findF im.classes im.bodies m 5 x = R) := hRR
 clear hRR
 obtain ⟨v0, v1, v2, l, hIm, hC, hS, hB, hl, hcd⟩ := hI
 obtain ⟨cs, gs, bs⟩ := im
 simp only at *
 subst hl
 have hll : l.length ≤ 100 := by simp at hbl; omega
 obtain ⟨a0, cap0, rfl⟩ := owns_len hC
 have d0 := hIm.c0
 go_enter Tryz.func81, Tryz.ntmps81
 go_wp2_with fail
 go_loopg [1, 7] 5 (fun mm xs ks wr => ∃ (xv : Int) (kn : Nat), xs = .int .i64 xv ∧ ks = .int .i64 kn ∧ kn ≤ 5 ∧ 5 ≤ kn + mm ∧ kn + mm ≤ 5 ∧ wr = w ∧ -1 ≤ xv ∧ xv < cs.length ∧ Hid (findF cs (l.map (·.1)) m mm xv = R))
 case atStart => exact ⟨x, 0, rfl, rfl, by omega, by omega, by omega, rfl, hx0, hx, HRR⟩
 case round =>
  obtain ⟨xv, kn, rfl, rfl, hk5, hkm1, hkm2, hwr, hx0', hx', HF⟩ := hrel
  subst hwr
  by_cases hxn : 0 ≤ xv
  ·cases gk with
   | zero =>
    have hres : R = -1 := by rw [← HF.out]; rfl
    subst hres
    have hk4 : ¬ (kn : Int) ≤ 4 := by omega
    go_wp2_with fail
    go_ret
    exact ⟨rfl, rfl⟩
   | succ f =>
    have hk4 : (kn : Int) ≤ 4 := by omega
    go_wp2_with fail
    refine (own_any 0 bi _ _ _ l xv m _ hll hIm hB).mono ?_
    rintro en wx ⟨rfl, hwx⟩
    rw [hwx]
    clear hwx wx
    have hstep : R = if 0 ≤ ownI (l.map (·.1)) xv m then ownI (l.map (·.1)) xv m else findF cs (l.map (·.1)) m f (parOf cs xv) := by
     rw [← HF.out, findF, if_neg (by omega)]
    have HST : Hid (R = if 0 ≤ ownI (l.map (·.1)) xv m then ownI (l.map (·.1)) xv m else findF cs (l.map (·.1)) m f (parOf cs xv)) := hstep
    clear hstep
    obtain ⟨oi, hoi⟩ : ∃ oi, ownI (l.map (·.1)) xv m = oi := ⟨_, rfl⟩
    rw [hoi] at HST ⊢
    clear hoi
    by_cases ho : 0 ≤ oi
    ·have hres : R = oi := by rw [HST.out, if_pos ho]
     subst hres
     go_wp2_with fail
     go_ret
     exact ⟨rfl, rfl⟩
    ·have HN : Hid (findF cs (l.map (·.1)) m f (parOf cs xv) = R) := by show _ = _; rw [HST.out, if_neg ho]
     obtain ⟨n, hnx⟩ := Int.eq_ofNat_of_zero_le hxn
     have hnl : n < cs.length := by omega
     have hgl := List.getElem?_eq_getElem hnl
     obtain ⟨g, rfl, hg1, hg2, hcell⟩ := owns_two hC (by omega)
     have hc0 := hcell _ _ (clsCells_at0 hgl)
     have hpr := parOf_range hw hx' hxn
     have hpo : parOf cs xv = cs[n].par := by unfold parOf; rw [hnx, Int.toNat_natCast, hgl]; rfl
     rw [hpo] at HN hpr
     have hc0' : wr.cell? ⟨g, xv.toNat * 2, none⟩ = some (.int .i64 cs[n].par) := by rw [hnx, Int.toNat_natCast]; exact hc0
     obtain ⟨pp, hpp⟩ : ∃ pp, cs[n].par = pp := ⟨_, rfl⟩
     rw [hpp] at HN hpr hc0'
     clear hcell hc0 hgl hpo hpp hnx
     go_wp2_with fail
     go_roundg f
     case measure => omega
     case rel => exact ⟨pp, kn + 1, rfl, by simp, by omega, by omega, by omega, rfl, hpr.1, hpr.2, HN⟩
  ·have hres : R = -1 := by
    rw [← HF.out]
    cases gk with
    | zero => rfl
    | succ f => rw [findF, if_pos (by omega)]
   subst hres
   by_cases hk4 : (kn : Int) ≤ 4
   ·go_wp2_with fail
    go_ret
    exact ⟨rfl, rfl⟩
   ·go_wp2_with fail
    go_ret
    exact ⟨rfl, rfl⟩
end Go.Proofs.YtpfkkmacakjmbaaGreatDoor
namespace Go.Proofs.YtpfkkmacakjmbaaGreatDoor
open Go Go.RowKit Sp
set_option linter.unusedSimpArgs false
set_option linter.unusedVariables false
def optI (o : Option Nat) : Int := match o with
 | some p => p
 | none => -1
theorem unl_at {cs : List Cls} {bs : List Bod} {c : List Ins} {k : Nat} (hk : k < c.length) (h : broken cs bs c.length c[k] = true) (hno : ∀ j (hj : j < c.length), j < k → broken cs bs c.length c[j] = false) : unl cs bs c = some c[k].pos := by
 unfold unl
 have : c.find? (broken cs bs c.length) = some c[k] := by
  rw [List.find?_eq_some_iff_getElem]
  exact ⟨h, k, hk, rfl, fun j hj => by rw [hno j (by omega) hj]; rfl⟩
 rw [this]
 rfl
theorem unl_none {cs : List Cls} {bs : List Bod} {c : List Ins} (hno : ∀ j (hj : j < c.length), broken cs bs c.length c[j] = false) : unl cs bs c = none := by
 unfold unl
 have : c.find? (broken cs bs c.length) = none := by
  rw [List.find?_eq_none]
  intro x hx
  obtain ⟨j, hj, rfl⟩ := List.getElem_of_mem hx
  rw [hno j hj]; decide
 rw [this]
 rfl
set_option maxHeartbeats 1600000 in
set_option maxRecDepth 100000 in
theorem unlinked_any (bi : Nat) (im : Img) (bd : Bod) (vk : Value) (w : World) (hI : ImgAt w bi im) (hW : WfI im) (hbd : WfB im.classes im.sigs bd) (hO : w.ownsRow 0 144 4 vk bd.code.length (insCells bd.code)) :
  Calls Tryz.prog 53 #[.pointer (some ⟨bi, 0, none⟩), .agg #[.int .i64 bd.cls, .int .i64 bd.meth, .string ⟨bd.locals.toArray⟩, vk, .slice none 0 0]] w fun en w' => en = .returned (.int .i64 (optI (unl im.classes im.bodies bd.code))) ∧ But (fun _ => False) w w' := by
 obtain ⟨R, hRR⟩ : ∃ R, unl im.classes im.bodies bd.code = R := ⟨_, rfl⟩
 rw [hRR]
 have HRR : Hid (unl im.classes im.bodies bd.code = R) := hRR
 clear hRR
 obtain ⟨ak, capk, rfl⟩ := owns_len hO
 obtain ⟨n, hn⟩ : ∃ n, bd.code.length = n := ⟨_, rfl⟩
 rw [hn] at hO ⊢
 have HN : Hid (bd.code.length = n) := hn
 have hlen := hbd.len
 rw [hn] at hlen
 clear hn
 go_enter Tryz.func53, Tryz.ntmps53
 go_wp2_with fail
 have hB0 : But (fun _ => False) w (w.alloc (.cells #[.int .i64 bd.cls, .int .i64 bd.meth, .string ⟨bd.locals.toArray⟩, .slice ak n capk, .slice none 0 0] 52)) := But.alloc _ _ _
 have hg0 : (w.alloc (.cells #[.int .i64 bd.cls, .int .i64 bd.meth, .string ⟨bd.locals.toArray⟩, .slice ak n capk, .slice none 0 0] 52)).heap[w.heap.size]? = some (.cells #[.int .i64 bd.cls, .int .i64 bd.meth, .string ⟨bd.locals.toArray⟩, .slice ak n capk, .slice none 0 0] 52) := heap_alloc_new _ _
 generalize (w.alloc (.cells #[.int .i64 bd.cls, .int .i64 bd.meth, .string ⟨bd.locals.toArray⟩, .slice ak n capk, .slice none 0 0] 52)) = w0 at *
 go_loopg [5] n (fun mm ks wr => ∃ (k : Nat), ks = .int .i64 k ∧ k ≤ n ∧ k + mm ≤ n ∧ n ≤ k + mm ∧ But (fun _ => False) w0 wr ∧ Hid (∀ j (hj : j < bd.code.length), j < k → broken im.classes im.bodies bd.code.length bd.code[j] = false))
 case atStart => exact ⟨0, rfl, by omega, by omega, by omega, But.refl _ _, fun j hj h => absurd h (by omega)⟩
 case round =>
  obtain ⟨k, rfl, hk1, hk2, hk3, hB, HA⟩ := hrel
  have hgr : wr.heap[w.heap.size]? = some (.cells #[.int .i64 bd.cls, .int .i64 bd.meth, .string ⟨bd.locals.toArray⟩, .slice ak n capk, .slice none 0 0] 52) := (hB.block _ (lt_of_block hg0) (fun h => h)).trans hg0
  have g3 : wr.cell? ⟨w.heap.size, 3, none⟩ = some (.slice ak n capk) := by rw [cell_of_row wr _ 3 _ _ (0, 0) hgr]; rfl
  have g4 : wr.cell? ⟨w.heap.size, 4, none⟩ = some (.slice none 0 0) := by rw [cell_of_row wr _ 4 _ _ (0, 0) hgr]; rfl
  have hBw : But (fun _ => False) w wr := hB0.trans hB
  have hgl := lt_of_block hgr
  by_cases hlt : k < n
  ·have hlt' : k < bd.code.length := by rw [HN.out]; exact hlt
   have hx := List.getElem?_eq_getElem hlt'
   have hOr := owns_but hO hBw (fun _ _ h => h)
   obtain ⟨g, rfl, hg1, hg2, hcell⟩ := owns_two hOr (by omega)
   have q0 := hcell _ _ (insCells_at0 hx)
   have q1 := hcell _ _ (insCells_at1 hx)
   have q2 := hcell _ _ (insCells_at2 hx)
   have q3 := hcell _ _ (insCells_at3 hx)
   have hwx : WfX im.classes im.sigs.length bd.locals.length bd.code[k] := hbd.code _ (List.getElem_mem hlt')
   obtain ⟨X, hX⟩ : ∃ X, bd.code[k] = X := ⟨_, rfl⟩
   have HB : Hid (broken im.classes im.bodies bd.code.length X = true → R = some X.pos) := fun h => by
    subst hX
    rw [← HRR.out]
    exact unl_at hlt' h HA.out
   have HNX : Hid (broken im.classes im.bodies bd.code.length X = false → ∀ j (hj : j < bd.code.length), j < k + 1 → broken im.classes im.bodies bd.code.length bd.code[j] = false) := fun h j hj hjk => by
    subst hX
    rcases Nat.lt_or_ge j k with h' | h'
    ·exact HA.out j hj h'
    ·have : j = k := by omega
     subst this
     exact h
   rw [hX] at q0 q1 q2 q3 hwx
   clear hcell hx hX
   have hkn : (k : Int) < (n : Int) := by omega
   by_cases h99 : X.op.toNat = 99
   ·have t1 : ((X.op.toNat : Int) == 99) = true := by rw [beq_iff_eq]; omega
    have t2 : ((X.op.toNat : Int) == 106) = false := by rw [beq_eq_false_iff_ne]; omega
    have t3 : ((X.op.toNat : Int) == 102) = false := by rw [beq_eq_false_iff_ne]; omega
    have hxa : X.a < im.classes.length := hwx.cls (by omega)
    have H99 : Hid (X.op.toNat = 99) := h99
    clear h99
    go_wp2_with fail
    refine (find_any bi im _ _ _ ((hI.but hBw).but (But.alloc _ _ _)) hW.cls hW.nc hW.nb (by omega) (by omega)).mono ?_
    rintro en wx ⟨rfl, hwx'⟩
    rw [hwx']
    clear hwx' wx
    obtain ⟨fr, hfr⟩ : ∃ fr, findF im.classes im.bodies (X.b : Int) 5 (X.a : Int) = fr := ⟨_, rfl⟩
    rw [hfr]
    have HFR : Hid (findF im.classes im.bodies (X.b : Int) 5 (X.a : Int) = fr) := hfr
    clear hfr
    by_cases hf0 : fr < 0
    ·have hres : R = some X.pos := HB.out (by simp [broken, H99.out, HFR.out, hf0])
     subst hres
     go_wp2_with fail
     go_ret
     exact ⟨rfl, hBw.trans (But.alloc _ _ _)⟩
    ·have hnb : Hid (broken im.classes im.bodies bd.code.length X = false) := by show _ = _; simp [broken, H99.out, HFR.out]; omega
     go_wp2_with fail
     go_roundg (n - (k + 1))
     case measure => omega
     case rel => exact ⟨k + 1, by simp, by omega, by omega, by omega, hB.trans (But.alloc _ _ _), HNX.out hnb.out⟩
   ·have t1 : ((X.op.toNat : Int) == 99) = false := by rw [beq_eq_false_iff_ne]; omega
    by_cases hj : X.op.toNat = 106 ∨ X.op.toNat = 102
    ·by_cases hb : (n : Int) ≤ (X.b : Int)
     ·have hres : R = some X.pos := HB.out (by
       have : bd.code.length ≤ X.b := by rw [HN.out]; omega
       simp [broken, hj, this])
      subst hres
      rcases hj with hj | hj
      ·have t2 : ((X.op.toNat : Int) == 106) = true := by rw [beq_iff_eq]; omega
       clear hj h99
       go_wp2_with fail
       go_ret
       exact ⟨rfl, hBw.trans (But.alloc _ _ _)⟩
      ·have t2 : ((X.op.toNat : Int) == 106) = false := by rw [beq_eq_false_iff_ne]; omega
       have t3 : ((X.op.toNat : Int) == 102) = true := by rw [beq_iff_eq]; omega
       clear hj h99
       go_wp2_with fail
       go_ret
       exact ⟨rfl, hBw.trans (But.alloc _ _ _)⟩
     ·have hnb : Hid (broken im.classes im.bodies bd.code.length X = false) := by
       show _ = _
       have h1 : ¬ bd.code.length ≤ X.b := by rw [HN.out]; omega
       simp [broken, h99, h1]
      have HNX' := HNX.out hnb.out
      rcases hj with hj | hj
      ·have t2 : ((X.op.toNat : Int) == 106) = true := by rw [beq_iff_eq]; omega
       have HH : Hid (∀ j (hj : j < bd.code.length), j < k + 1 → broken im.classes im.bodies bd.code.length bd.code[j] = false) := HNX'
       clear hj h99 HNX'
       go_wp2_with fail
       go_roundg (n - (k + 1))
       case measure => omega
       case rel => exact ⟨k + 1, by simp, by omega, by omega, by omega, hB.trans (But.alloc _ _ _), HH⟩
      ·have t2 : ((X.op.toNat : Int) == 106) = false := by rw [beq_eq_false_iff_ne]; omega
       have t3 : ((X.op.toNat : Int) == 102) = true := by rw [beq_iff_eq]; omega
       have HH : Hid (∀ j (hj : j < bd.code.length), j < k + 1 → broken im.classes im.bodies bd.code.length bd.code[j] = false) := HNX'
       clear hj h99 HNX'
       go_wp2_with fail
       go_roundg (n - (k + 1))
       case measure => omega
       case rel => exact ⟨k + 1, by simp, by omega, by omega, by omega, hB.trans (But.alloc _ _ _), HH⟩
    ·have t2 : ((X.op.toNat : Int) == 106) = false := by rw [beq_eq_false_iff_ne]; omega
     have t3 : ((X.op.toNat : Int) == 102) = false := by rw [beq_eq_false_iff_ne]; omega
     have hnb : Hid (broken im.classes im.bodies bd.code.length X = false) := by
      show _ = _
      simp [broken, h99]; omega
     have HH : Hid (∀ j (hj : j < bd.code.length), j < k + 1 → broken im.classes im.bodies bd.code.length bd.code[j] = false) := HNX.out hnb.out
     clear hj h99
     go_wp2_with fail
     go_roundg (n - (k + 1))
     case measure => omega
     case rel => exact ⟨k + 1, by simp, by omega, by omega, by omega, hB.trans (But.alloc _ _ _), HH⟩
  ·have hres : R = none := by
    rw [← HRR.out]
    exact unl_none (fun j hj => HA.out j hj (by rw [HN.out] at hj; omega))
   subst hres
   go_wp2_with fail
   go_loopg [8] 0 (fun mm ks wr' => ks = .int .i64 0 ∧ wr' = wr)
   case atStart => exact ⟨rfl, rfl⟩
   case round =>
    obtain ⟨rfl, hwr⟩ := hrel
    rw [hwr]
    go_wp2_with fail
    go_ret
    exact ⟨rfl, hBw⟩
end Go.Proofs.YtpfkkmacakjmbaaGreatDoor
