import Derived.Test.YtpfkkmacakjmbaaGreatDoorP25
import Derived.Test.YtpfkkmacakjmbaaGreatDoorP22
import Derived.Test.YtpfkkmacakjmbaaGreatDoorP04
import Derived.Test.YtpfkkmacakjmbaaGreatDoorP11
set_option maxRecDepth 100000
set_option maxHeartbeats 6400000
namespace Go.Proofs.YtpfkkmacakjmbaaGreatDoor
open Go Go.RowKit Sp
set_option linter.unusedSimpArgs false
set_option linter.unusedVariables false
attribute [local go_sem ↓] Go.wp_at_zero Go.wp_at_succ
def ReadN (s : ByteArray) (SC : List Cls) (ms : List Sig) (cs : List XCls) (w : World) (base : Nat) (bs : List XBod) (j : Nat) (bad : Bool) : Prop :=
 ((bad || decide (j < s.size)) = true ∧ readS s = .error j) ∨ ((bad || decide (j < s.size)) = false ∧ ∃ im, readS s = .ok im ∧ im.classes = SC ∧ cs = SC.map toX ∧ im.sigs = ms ∧ BdsN w base ms bs im.bodies)
theorem xreadN_any (s : ByteArray) (w : World) (hs : s.size ≤ 2000) :
  Calls Tryz.prog 90 #[.string s] w fun en w' => But (fun _ => False) w w' ∧ ∃ g p, en = .returned (.tuple #[.pointer (some ⟨g, 0, none⟩), .int .i64 p]) ∧ w.heap.size ≤ g ∧
   ((∃ j, readS s = .error j ∧ p = (j : Int) ∧ w'.heap[g]? = some (.cells #[.slice none 0 0, .slice none 0 0, .slice none 0 0] 109)) ∨ (p = -1 ∧ ∃ im, readS s = .ok im ∧ TextN w' g im)) := by
 go_enter Tryz.func90, Tryz.ntmps90
 go_wp2_with fail
 refine (xnew_any s w).mono ?_
 rintro en w0 ⟨rfl, hB0, hz0, hR0⟩
 have hbb : w.heap.size < w.heap.size + 1 := by omega
 go_wp2_with fail
 refine (xreadClasses_any w.heap.size (w.heap.size + 1) s _ _ w0 hs hR0 hbb (by omega)).mono ?_
 rintro en w1 ⟨rfl, hB1, v0, cs, j0, b0, hR1, hC1, hcl, hT1⟩
 obtain ⟨a0, cap0, hv0⟩ := hC1.len
 subst hv0
 have hz1 := hB1.size
 have hBF1 : But (fun k => k = w.heap.size ∨ w.heap.size + 1 ≤ k) w w1 := (hB0.mono (fun _ _ h => h.elim)).trans hB1
 clear hB0 hB1 hR0
 go_wp2_with fail
 refine (xreadMethods_any w.heap.size (w.heap.size + 1) s j0 b0 a0 cs.length cap0 _ w1 hs hcl hR1 hbb (by omega)).mono ?_
 rintro en w2 ⟨rfl, hB2, v1, ms, j1, b1, hR2, hM2, hml, hT2⟩
 obtain ⟨a1, cap1, hv1⟩ := owns_len hM2
 subst hv1
 have hC2 := hC1.but hB2 (fun g e cur _ _ hg h => by omega)
 have hz2 := hB2.size
 have hBF2 : But (fun k => k = w.heap.size ∨ w.heap.size + 1 ≤ k) w w2 := hBF1.next hB2 (fun _ _ h => Or.inl h)
 clear hB2 hR1 hC1 hBF1
 -- the classes, if there are any
 obtain ⟨SC, hSn, hcls⟩ : ∃ SC : List Cls, SC.length = cs.length ∧ ((b0 = false ∧ ∃ SC', clsP s 4 [] 0 = .ok (SC', j0) ∧ SC' = SC ∧ cs = SC.map toX ∧ WfC SC) ∨ (b0 = true ∧ clsP s 4 [] 0 = .error j0)) := by
  rcases hT1 with ⟨h1, SC, h2, h3, h4⟩ | h
  ·exact ⟨SC, by rw [h3, List.length_map], Or.inl ⟨h1, SC, h2, rfl, h3, h4⟩⟩
  ·exact ⟨List.replicate cs.length ⟨-1, []⟩, by simp, Or.inr h⟩
 have hgood : b1 = false → cs = SC.map toX ∧ WfC SC := by
  intro h
  rcases hT2 with ⟨_, h2⟩ | ⟨h2, _⟩
  ·rcases hcls with ⟨_, _, _, _, h3⟩ | ⟨h3, _⟩
   ·exact h3
   ·rw [h3] at h2; simp [sigB] at h2
  ·rw [h] at h2; cases h2
 obtain ⟨R, hRR⟩ : ∃ R, (if b1 = true then .error j1 else bodS s SC ms 6 [] j1) = R := ⟨_, rfl⟩
 have hstart : BodN (b1 = false) s SC ms R w2 (w.heap.size + 1) 6 [] j1 b1 := by
  cases b1 with
  | true => exact Or.inr ⟨rfl, hRR.symm⟩
  | false => exact Or.inl ⟨rfl, rfl, [], BdsN.nil _ _ _, by simp, rfl, hRR⟩
 have HST := hid hstart
 have HGD := hid hgood
 have HFIN := hid (fun wz bs l X j2 j3 j4 b2 b3 b4 => readN_fin (its := X) (w := wz) (base := w.heap.size + 1) (bs := bs) (l := l) (j2 := j2) (j3 := j3) (j4 := j4) (b2 := b2) (b3 := b3) (b4 := b4) hcls hSn hT2 hRR)
 have HSN := hid hSn
 rw [← hSn] at hR2 hC2 hcl
 clear hstart hgood hT1 hT2 hcls hRR hSn
 go_wp2_with fail
 go_loopg [] 7 (fun mm wr => ∃ (a2 : Option Addr) (cap2 j : Nat) (bad' mn : Bool) (bs : List XBod) (x0 x1 x2 x3 x4 : Value), w.heap.size + 1 ≤ wr.heap.size ∧ But (fun k => k = w.heap.size ∨ w.heap.size + 1 ≤ k) w wr ∧ XrB wr w.heap.size s j bad' (.slice a0 SC.length cap0) (.slice a1 ms.length cap1) ⟨.slice a2 bs.length cap2, x0, x1, x2, x3, x4, mn⟩ ∧ TcV wr (w.heap.size + 1) (.slice a0 SC.length cap0) cs ∧ TmV wr (w.heap.size + 1) (.slice a1 ms.length cap1) ms ∧ TbV wr (w.heap.size + 1) (.slice a2 bs.length cap2) bs ∧ Hid ((mn = false ∧ bs.length ≤ 6 ∧ ∃ m1, mm = m1 + 1 ∧ BodN (b1 = false) s SC ms R wr (w.heap.size + 1) m1 bs j bad') ∨ (mn = true ∧ ReadN s SC ms cs wr (w.heap.size + 1) bs j bad')))
 case atStart => exact ⟨none, 0, j1, b1, false, [], _, _, _, _, _, by omega, hBF2, hR2, hC2, hM2, ⟨[], owns_nil _ _ _ _, rfl, by simp⟩, hid (Or.inl ⟨rfl, by simp, 6, rfl, HST.out⟩)⟩
 case round =>
  obtain ⟨a2, cap2, j, bad', mn, bs, x0, x1, x2, x3, x4, hzr, hBr, hRr, hCr, hMr, hTr, HBC⟩ := hrel
  by_cases hstop : mn = true ∨ bad' = true
  ·have hfin : ReadN s SC ms cs wr (w.heap.size + 1) bs j bad' := by
    rcases HBC.out with ⟨h1, _, m1, _, hb⟩ | ⟨_, h⟩
    ·have hbt : bad' = true := by
      rcases hstop with h | h
      ·rw [h1] at h; cases h
      ·exact h
     subst hbt
     rcases hb with ⟨h, _⟩ | ⟨_, h⟩
     ·cases h
     ·have := HFIN.out wr bs [] [] j j j true true true (Or.inr ⟨rfl, h⟩) (Or.inr ⟨rfl, by simp [tysB]⟩) (Or.inr ⟨rfl, by simp [treeB]⟩)
      rcases this with ⟨_, h⟩ | ⟨h, _⟩
      ·exact Or.inl ⟨by simp, h⟩
      ·simp at h
    ·exact h
   have HF := hid hfin
   have HNB := hid (xnextBody_stop w.heap.size s j bad' _ _ _ wr hRr hstop)
   clear hfin HBC HFIN HST HGD
   go_wp2_with fail
   refine HNB.out.mono ?_
   rintro en w3 ⟨rfl, k, rfl⟩
   clear HNB hstop
   go_wp2_with fail
   refine (xresult_any w.heap.size s j bad' _ _ _ (wr.drewN k) (hRr.drewN k)).mono ?_
   rintro en w4 ⟨hB4, hcs⟩
   have hBF4 : But (fun _ => False) w w4 := ((hBr.next (But.drewN (fun _ => False) wr k) (fun _ _ h => h.elim)).next hB4 (fun _ _ h => h.elim)).mono (fun k hk h => by omega)
   have hz4 : w.heap.size ≤ (wr.drewN k).heap.size := by show w.heap.size ≤ wr.heap.size; omega
   have hBk : But (fun _ => False) wr w4 := (But.drewN _ _ _).trans hB4
   unfold ResQ at hcs
   rcases hcs with ⟨hb, g, hg, rfl, hgg⟩ | ⟨hb, rfl⟩
   ·have HRD : Hid (readS s = .error j) := by
     rcases HF.out with ⟨_, h⟩ | ⟨h, _⟩
     ·exact hid h
     ·rw [hb] at h; cases h
    clear HF
    go_wp2_with fail
    exact bodyPost_ret (v := .tuple #[.pointer (some ⟨g, 0, none⟩), .int .i64 j]) (by simp [results, Tryz.results90, go_sem]) rfl ⟨hBF4, g, j, rfl, by omega, Or.inl ⟨j, HRD.out, rfl, hgg⟩⟩
   ·have hbl8 := hRr.lt
    have HRD : Hid (∃ im, readS s = .ok im ∧ TextN w4 w.heap.size im) := by
     rcases HF.out with ⟨h, _⟩ | ⟨_, im, hrd, him1, him2, him3, him4⟩
     ·rw [hb] at h; cases h
     ·have hC4 := hCr.but hBk (fun _ _ _ _ _ _ h => h)
      have hM4 := hMr.but hBk (fun _ _ _ _ _ _ h => h)
      have hT4 := hTr.but hBk (fun _ _ _ _ _ _ h => h)
      have hR4 := hRr.but hBk (fun h => h)
      refine hid ⟨im, hrd, ?_, ?_, ?_⟩
      ·rw [him1, ← him2]; exact hC4.tx hR4.c0 hR4.lt
      ·rw [him3]; exact hM4.tx hR4.c1 hR4.lt
      ·exact ⟨bs, hT4.tx hR4.c2 hR4.lt, (him3.symm ▸ him4.but hBk (fun _ _ _ _ h => h)).mono (Nat.zero_le _)⟩
    clear HF
    go_wp2_with fail
    exact bodyPost_ret (v := .tuple #[.pointer (some ⟨w.heap.size, 0, none⟩), .int .i64 (-1)]) (by simp [results, Tryz.results90, go_sem]) rfl ⟨hBF4, w.heap.size, -1, rfl, Nat.le_refl _, Or.inr ⟨rfl, HRD.out⟩⟩
  ·have hmn : mn = false := by cases mn; rfl; exact absurd (Or.inl rfl) hstop
   have hbf : bad' = false := by cases bad'; rfl; exact absurd (Or.inr rfl) hstop
   subst hmn hbf
   obtain ⟨_, hbl, m1, hmm, hB1⟩ := HBC.out.resolve_right (fun h => by cases h.1)
   have HB1 := hid hB1
   clear hB1
   clear hstop HBC HST
   by_cases hgo : bs.length < 6 ∧ pk s j ≠ 59
   ·obtain ⟨hl6, hne⟩ := hgo
    obtain ⟨hG, BS, hBS, hsd, hB6, hnx⟩ := HB1.out.next hcl hl6 hne
    obtain ⟨hcsx, hwf⟩ := HGD.out hG
    have HNX := hid hnx
    have HCX := hid hcsx
    have HWF := hid hwf
    have HNB := hid (xnextBody_head w.heap.size (w.heap.size + 1) s j a0 a2 SC.length cap0 bs.length cap2 _ x0 x1 x2 x3 x4 wr ms BS bs hBS.heads hcl hml hB6 (fun b hb => Or.inr (hsd b hb)) hs hRr hMr hTr hbb hl6 hne)
    have HBS := hid hBS
    clear hne hnx hBS hsd hcsx hwf HB1
    go_wp2_with fail
    refine HNB.out.mono ?_
    rintro en w4 ⟨hB4, rfl, HQ4⟩
    obtain ⟨c, m, r, al, capl, lo, j4, bad4, hR4, hL4, hl4, hT4⟩ := HQ4
    clear HNB
    have hC4 := hCr.but hB4 (fun g e cur _ _ hg h => by omega)
    have hM4 := hMr.but hB4 (fun g e cur _ _ hg h => by omega)
    have hTb4 := hTr.but hB4 (fun g e cur _ _ hg h => by omega)
    have hBF4 : But (fun k => k = w.heap.size ∨ w.heap.size + 1 ≤ k) w w4 := hBr.next hB4 (fun _ _ h => Or.inl h)
    have hz4 := hB4.size
    have hL4' : BtB w4 (w.heap.size + 1) (.slice al lo.length capl) lo := World.ownsRow.mono hL4 (by omega)
    have HN4 := hid (HNX.out c m r lo j4 bad4 hT4)
    clear hT4 HNX
    have HIN := hid (xnodes_any w.heap.size (w.heap.size + 1) s j4 bad4 SC a0 a1 al ms.length lo.length cap0 cap1 capl _ w4 (Or.inr ⟨HWF.out, by rw [← HCX.out]; exact hC4⟩) hcl hml (by omega) hs hR4 rfl hbb)
    go_wp2_with fail
    refine HIN.out.mono ?_
    rintro en w5 ⟨hB5, HQ5⟩
    obtain ⟨ai, capi, items, j5, bad5, rfl, hR5, hI5, hil, hc5⟩ := HQ5
    have HF5 := hid (tree_fin hc5)
    have hC5 := hC4.but hB5 (fun g e cur _ _ hg h => by omega)
    have hM5 := hM4.but hB5 (fun g e cur _ _ hg h => by omega)
    have hTb5 := hTb4.but hB5 (fun g e cur _ _ hg h => by omega)
    have hL5 := hL4'.but hB5 (fun g hg h => by have := owns_ge hL4' g hg; omega)
    have hz5 := hB5.size
    clear hc5 HIN
    have HEN := hid (xendBody_any w.heap.size (w.heap.size + 1) w4.heap.size s j5 bad5 false _ _ _ a2 cap2 bs ⟨c, m, r, lo, items⟩ al ai capl capi w5 (by omega) (by show items.length ≤ 100; omega) hs hR5 hTb5 hL5 hI5 hbb (by omega) (by omega))
    go_wp2_with fail
    refine HEN.out.mono ?_
    rintro en w6 ⟨rfl, hB6', a6, cap6, vi6, hR6, hTb6⟩
    clear HEN
    have hItw := (fun (is : List Ins) (h : ItsN w5 w4.heap.size items is) => (⟨h.len, fun k y x hy hx => by
      obtain ⟨z1, z2, z3, z4, z5⟩ := h.at' k y x hy hx
      exact ⟨z1, z2, z3, z4, owns_off (World.ownsRow.mono z5 (by omega)) hB6' (fun g cur hh hg h => by
       rcases h with h | h
       ·omega
       ·exact hTb5.apart hh (by decide) h)⟩⟩ : ItsN w6 (w.heap.size + 1) items is))
    have hBS5 := (HBS.out.but hB4 (fun g cur _ hg h => by omega)).but hB5 (fun g cur _ hg h => by omega)
    obtain ⟨m', hm', hC'⟩ := HN4.out items w6 (tkP s 46 j5 bad5).1 (tkP s 46 j5 bad5).2 (hBS5.but hB6' (fun g cur hh hg h => by
     rcases h with h | h
     ·omega
     ·exact hTb5.apart hh (by decide) h)) (by
     rcases HF5.out with ⟨h1, is, h2, h3⟩ | h
     ·exact Or.inl ⟨h1, is, h2, hItw is h3⟩
     ·exact Or.inr h)
    have HC' := hid hC'
    have hge := hTb5.ge
    have hC6 := hC5.but hB6' (fun g e cur hh he hg h => by
     rcases h with h | h
     ·omega
     ·exact hTb5.apart hh (by rcases he with he | he <;> (rw [he]; decide)) h)
    have hM6 := hM5.but hB6' (fun g e cur hh he hg h => by
     rcases h with h | h
     ·omega
     ·exact hTb5.apart hh (by rw [he]; decide) h)
    have hBF6 : But (fun k => k = w.heap.size ∨ w.heap.size + 1 ≤ k) w w6 := (hBF4.next hB5 (fun _ _ h => Or.inl h)).next hB6' (fun k hk h => by
     rcases h with h | h
     ·exact Or.inl h
     ·exact Or.inr (hge k h))
    have hz6 := hB6'.size
    clear hC' HN4 HF5
    go_wp2_with fail
    go_roundg (m' + 1)
    case measure => omega
    case rel => exact ⟨a6, cap6, _, _, false, bs ++ [⟨c, m, r, lo, items⟩], _, _, _, _, _, by omega, hBF6, hR6, hC6, hM6, hTb6, hid (Or.inl ⟨rfl, by simp; omega, m', rfl, HC'.out⟩)⟩
   ·have hexit : ¬ bs.length < 6 ∨ pk s j = 59 := by
     by_cases h6 : bs.length < 6
     ·right
      by_cases hp : pk s j = 59
      ·exact hp
      ·exact absurd ⟨h6, hp⟩ hgo
     ·exact Or.inl h6
    have HBF := hid (HB1.out.fin (hexit.imp id (fun h => by simp [h])))
    have HNB := hid (xnextBody_main w.heap.size s j a0 a2 SC.length cap0 bs.length cap2 _ x0 x1 x2 x3 x4 wr hcl hs hRr hexit)
    clear hexit hgo HB1
    obtain ⟨TK, hTK⟩ : ∃ TK, tkP s 59 j false = TK := ⟨_, rfl⟩
    rw [hTK] at HBF HNB
    obtain ⟨j2, b2⟩ := TK
    dsimp only at HBF HNB
    have HF2 := hid (fun wz l X j3 j4 b3 b4 hbz => HFIN.out wz bs l X j2 j3 j4 b2 b3 b4 hbz)
    have HG2 : Hid (b2 = true ∨ b1 = false) := by
     rcases HBF.out with ⟨_, h, _⟩ | ⟨h, _⟩
     ·exact hid (Or.inr h)
     ·exact hid (Or.inl h)
    clear hTK HFIN
    go_wp2_with fail
    refine HNB.out.mono ?_
    rintro en w4 ⟨hB4, rfl, HQ4⟩
    obtain ⟨al, capl, lo, j4, bad4, hR4, hL4, hl4, hT4⟩ := HQ4
    clear HNB
    have hC4 := hCr.but hB4 (fun g e cur _ _ hg h => by omega)
    have hM4 := hMr.but hB4 (fun g e cur _ _ hg h => by omega)
    have hTb4 := hTr.but hB4 (fun g e cur _ _ hg h => by omega)
    have hBF4 : But (fun k => k = w.heap.size ∨ w.heap.size + 1 ≤ k) w w4 := hBr.next hB4 (fun _ _ h => Or.inl h)
    have hz4 := hB4.size
    have hL4' : BtB w4 (w.heap.size + 1) (.slice al lo.length capl) lo := World.ownsRow.mono hL4 (by omega)
    have hT4' := hT4
    rw [HSN.out] at hT4'
    have HF3 := hid (fun wz X j5 b5 hbz => HF2.out wz lo X j4 j5 bad4 b5 hbz hT4')
    have hG3 : bad4 = true ∨ (WfC SC ∧ TcV w4 (w.heap.size + 1) (.slice a0 SC.length cap0) (SC.map toX)) := by
     rcases HG2.out with h | h
     ·left
      rcases hT4 with ⟨_, h2⟩ | ⟨h2, _⟩
      ·rw [h] at h2; simp [tysB] at h2
      ·exact h2
     ·obtain ⟨h1, h2⟩ := HGD.out h
      exact Or.inr ⟨h2, by rw [← h1]; exact hC4⟩
    have HIN := hid (xnodes_any w.heap.size (w.heap.size + 1) s j4 bad4 SC a0 a1 al ms.length lo.length cap0 cap1 capl _ w4 hG3 hcl hml (by omega) hs hR4 rfl hbb)
    clear hT4 hT4' HF2 HG2 hG3
    go_wp2_with fail
    refine HIN.out.mono ?_
    rintro en w5 ⟨hB5, HQ5⟩
    obtain ⟨ai, capi, items, j5, bad5, rfl, hR5, hI5, hil, hc5⟩ := HQ5
    have HF5 := hid (tree_fin hc5)
    have hC5 := hC4.but hB5 (fun g e cur _ _ hg h => by omega)
    have hM5 := hM4.but hB5 (fun g e cur _ _ hg h => by omega)
    have hTb5 := hTb4.but hB5 (fun g e cur _ _ hg h => by omega)
    have hL5 := hL4'.but hB5 (fun g hg h => by have := owns_ge hL4' g hg; omega)
    have hz5 := hB5.size
    clear hc5 HIN
    have HEN := hid (xendBody_any w.heap.size (w.heap.size + 1) w4.heap.size s j5 bad5 true _ _ _ a2 cap2 bs ⟨45, 0, 105, lo, items⟩ al ai capl capi w5 (by omega) (by show items.length ≤ 100; omega) hs hR5 hTb5 hL5 hI5 hbb (by omega) (by omega))
    go_wp2_with fail
    refine HEN.out.mono ?_
    rintro en w6 ⟨rfl, hB6', a6, cap6, vi6, hR6, hTb6⟩
    clear HEN
    have HF6 : Hid (ReadN s SC ms cs w6 (w.heap.size + 1) (bs ++ [⟨45, 0, 105, lo, items⟩]) (tkP s 46 j5 bad5).1 (tkP s 46 j5 bad5).2) := by
     have hItw := (fun (is : List Ins) (h : ItsN w5 w4.heap.size items is) => (⟨h.len, fun k y x hy hx => by
      obtain ⟨z1, z2, z3, z4, z5⟩ := h.at' k y x hy hx
      exact ⟨z1, z2, z3, z4, owns_off (World.ownsRow.mono z5 (by omega)) hB6' (fun g cur hh hg h => by
       rcases h with h | h
       ·omega
       ·exact hTb5.apart hh (by decide) h)⟩⟩ : ItsN w6 (w.heap.size + 1) items is))
     refine hid (HF3.out w6 items _ _ ?_ ?_)
     ·rcases HBF.out with ⟨h1, h2, BS, h3, h4, h5⟩ | h
      ·refine Or.inl ⟨h1, h2, BS, h3, ?_, h5⟩
       exact ((h4.but hB4 (fun g cur _ hg h => by omega)).but hB5 (fun g cur _ hg h => by omega)).but hB6' (fun g cur hh hg h => by
     rcases h with h | h
     ·omega
     ·exact hTb5.apart hh (by decide) h)
      ·exact Or.inr h
     ·rcases HF5.out with ⟨h1, is, h2, h3⟩ | h
      ·exact Or.inl ⟨h1, is, h2, hItw is h3⟩
      ·exact Or.inr h
    have hge := hTb5.ge
    have hC6 := hC5.but hB6' (fun g e cur hh he hg h => by
     rcases h with h | h
     ·omega
     ·exact hTb5.apart hh (by rcases he with he | he <;> (rw [he]; decide)) h)
    have hM6 := hM5.but hB6' (fun g e cur hh he hg h => by
     rcases h with h | h
     ·omega
     ·exact hTb5.apart hh (by rw [he]; decide) h)
    have hBF6 : But (fun k => k = w.heap.size ∨ w.heap.size + 1 ≤ k) w w6 := (hBF4.next hB5 (fun _ _ h => Or.inl h)).next hB6' (fun k hk h => by
     rcases h with h | h
     ·exact Or.inl h
     ·exact Or.inr (hge k h))
    have hz6 := hB6'.size
    clear HF3 HF5
    go_wp2_with fail
    go_roundg 0
    case measure => omega
    case rel => exact ⟨a6, cap6, _, _, true, bs ++ [⟨45, 0, 105, lo, items⟩], _, _, _, _, _, by omega, hBF6, hR6, hC6, hM6, hTb6, hid (Or.inr ⟨rfl, HF6.out⟩)⟩
end Go.Proofs.YtpfkkmacakjmbaaGreatDoor
namespace Go.Proofs.YtpfkkmacakjmbaaGreatDoor
open Go Go.RowKit Sp
set_option linter.unusedSimpArgs false
set_option linter.unusedVariables false
theorem find_same : ∀ {its : List XIt} {is : List Ins} {p : XIt → Bool} {q : Ins → Bool}, its.length = is.length → (∀ (k : Nat) x y, its[k]? = some x → is[k]? = some y → p x = q y ∧ x.place = y.pos) → (its.find? p).map (·.place) = (is.find? q).map (·.pos) := by
 intro its
 induction its with
 | nil => intro is p q hl _; cases is with | nil => rfl | cons y is => simp at hl
 | cons x its ih =>
  intro is p q hl h
  cases is with
  | nil => simp at hl
  | cons y is =>
   obtain ⟨h1, h2⟩ := h 0 x y rfl rfl
   rw [List.find?_cons, List.find?_cons, h1]
   cases q y with
   | true => simp [h2]
   | false => exact ih (by simpa using hl) (fun k a b ha hb => h (k + 1) a b (by simpa using ha) (by simpa using hb))
theorem findSome_same {α β γ : Type} : ∀ {bs : List α} {BS : List β} {f : α → Option γ} {g : β → Option γ}, bs.length = BS.length → (∀ (k : Nat) x y, bs[k]? = some x → BS[k]? = some y → f x = g y) → bs.findSome? f = BS.findSome? g := by
 intro bs
 induction bs with
 | nil => intro BS f g hl _; cases BS with | nil => rfl | cons y BS => simp at hl
 | cons x bs ih =>
  intro BS f g hl h
  cases BS with
  | nil => simp at hl
  | cons y BS =>
   rw [List.findSome?_cons, List.findSome?_cons, h 0 x y rfl rfl, ih (by simpa using hl) (fun k a b ha hb => h (k + 1) a b (by simpa using ha) (by simpa using hb))]
theorem bodyF_heads {cs : List XCls} {xs ys : List XBod} (h : xs.map hdOf = ys.map hdOf) (m : Nat) : ∀ (f : Nat) (c : UInt8), bodyF cs xs m f c = bodyF cs ys m f c := by
 intro f
 induction f with
 | zero => intro c; rfl
 | succ f ih =>
  intro c
  simp only [bodyF, heads_len h, ownF_heads h, ih]
theorem SideOfN {cs : List Cls} {gs : List Sig} {b : Bod} (h : WfBS cs gs b) (hn : cs.length ≤ 4) : (b.cls = -1) ∨ SideB b := by
 rcases h.cls with ⟨h1, _⟩ | ⟨h1, h2, h3, h4⟩
 ·exact Or.inl h1
 ·exact Or.inr ⟨h1, by omega, h3⟩
theorem toXN_place (y : Ins) : (toXN y).place = y.pos := by unfold toXN; split <;> rfl
theorem brokN {cs : List Cls} {gs : List Sig} {BS : List Bod} {bs : List XBod} {y : Ins} {x : XIt} {nl n n' : Nat} (hw : WfC cs) (hn : cs.length ≤ 4) (hB : ∀ b ∈ BS, (b.cls = -1) ∨ SideB b) (hy : WfN cs gs.length nl y) (hh : bs.map hdOf = (BS.map (toXB gs)).map hdOf)
  (h1 : x.op = (toXN y).op) (h2 : x.cls = (toXN y).cls) (h3 : x.num = (toXN y).num) : brokX (cs.map toX) bs n x = broken cs BS n' y := by
 have hop := hy.op
 have hne : ∀ v : Nat, nodeLetters.contains v = false → y.op.toNat ≠ v := fun v hv h => by rw [h, hv] at hop; cases hop
 have e106 := hne 106 (by decide)
 have e102 := hne 102 (by decide)
 unfold brokX broken
 rw [h1, h2, h3]
 by_cases hd : isDigit y.op = true
 ·have hr := digit_range hd
  have e1 : toXN y = ⟨y.pos, 107, 45, y.b, none, 0, 0⟩ := by unfold toXN; rw [if_pos hd]
  rw [e1]
  have h99 : ¬ y.op.toNat = 99 := by omega
  simp [e106, e102, h99]
 ·have e1 : toXN y = toXI y := by unfold toXN; rw [if_neg hd]
  rw [e1]
  have e2 : (toXI y).op = y.op := rfl
  have e3 : (toXI y).num = y.b := rfl
  rw [e2, e3, if_neg (by omega)]
  by_cases h9 : y.op.toNat = 99
  ·rw [if_pos h9]
   have ha := hy.cls (by omega)
   have e4 : (toXI y).cls = UInt8.ofNat (65 + y.a) := by
    unfold toXI
    rw [if_pos (by omega)]
   rw [e4, List.length_map, bodyF_heads hh, bodyF_findF hw hn hB y.b cs.length 5 y.a ha ha (by omega)]
   simp [h9]
  ·rw [if_neg h9]
   simp [h9, e106, e102]
theorem xlinkN_any (b : Nat) (im : Img) (w : World) (hW : WfIS im) (hT : TextN w b im) :
  Calls Tryz.prog 104 #[.pointer (some ⟨b, 0, none⟩)] w fun e w' => e = .returned (.int .i64 (placeI (im.bodies.findSome? (fun b => unl im.classes im.bodies b.code)))) ∧ But (fun _ => False) w w' := by
 obtain ⟨bs, hTb, hBd⟩ := hT.bod
 have hsame : (bs.findSome? fun x => unlX (im.classes.map toX) bs x.items) = im.bodies.findSome? (fun b => unl im.classes im.bodies b.code) := by
  refine findSome_same hBd.1 (fun k X B hX hB => ?_)
  have h1 := hBd.2 k X B hX hB
  have hwb := hW.bod B (List.mem_of_getElem? hB)
  unfold unlX unl
  refine find_same h1.its.len (fun q x y hx hy => ?_)
  obtain ⟨e1, e2, e3, e4, _⟩ := h1.its.at' q y x hy hx
  exact ⟨brokN hW.cls hW.nc (fun b hb => SideOfN (hW.bod b hb) hW.nc) (hwb.code y (List.mem_of_getElem? hy)) hBd.heads e2 e3 e4, by rw [e1, toXN_place]⟩
 rw [← hsame]
 refine xbrokenLink_any b (im.classes.map toX) bs w (by rw [List.length_map]; have := hW.nc; omega) (by rw [hBd.1]; have := hW.nb; omega) ?_ hT.cls hTb
 intro x hx
 obtain ⟨k, hk, rfl⟩ := List.getElem_of_mem hx
 have hk2 : k < im.bodies.length := by rw [← hBd.1]; exact hk
 have h1 := hBd.2 k _ _ (List.getElem?_eq_getElem hk) (List.getElem?_eq_getElem hk2)
 have := (hW.bod _ (List.getElem_mem hk2)).len
 rw [h1.its.len]
 omega
theorem full_at : ∀ {t : List Ins} {m : Nat}, full m t → ∀ i, i < t.length → ∃ m', full (m' + 1) (t.drop i) := by
 intro t
 induction t with
 | nil => intro m _ i h; simp at h
 | cons x t ih =>
  intro m h i hi
  cases m with
  | zero => cases h
  | succ m =>
   cases i with
   | zero => exact ⟨m, h⟩
   | succ i => exact ih (m := m + arity x.op) h i (by simpa using hi)
theorem ptsL_len {t : List Ins} : ∀ {j m k : Nat}, full (m + j) (t.drop k) → (ptsL t j k).length = j := by
 intro j
 induction j with
 | zero => intro m k _; rfl
 | succ j ih =>
  intro m k h
  have h0 := full_pos (m := m + j) (by rw [show m + j + 1 = m + (j + 1) from by omega]; exact h)
  rw [List.length_drop] at h0
  have h1 := full_drop (u := t.drop k) (m := m + j) (by rw [show 1 + (m + j) = m + (j + 1) from by omega]; exact h)
  rw [List.drop_drop] at h1
  simp only [ptsL, show k < t.length from by omega, if_true, List.length_cons]
  rw [ih (m := m) (k := endN t k) h1]
theorem ptsN_len {t : List Ins} (hf : full 1 t) {i : Nat} {x : Ins} (hx : t[i]? = some x) : (ptsN t i).length = arity x.op := by
 obtain ⟨hl, hg⟩ := List.getElem?_eq_some_iff.1 hx
 obtain ⟨m, hm⟩ := full_at hf i hl
 rw [List.drop_eq_getElem_cons hl, hg] at hm
 have hm' : full (m + arity x.op) (t.drop (i + 1)) := hm
 unfold ptsN
 rw [hx]
 exact ptsL_len hm'
theorem ptsL_mem {t : List Ins} : ∀ {j k : Nat}, ∀ q ∈ ptsL t j k, k ≤ q ∧ q < t.length := by
 intro j
 induction j with
 | zero => intro k q h; simp [ptsL] at h
 | succ j ih =>
  intro k q h
  unfold ptsL at h
  split at h
  ·rename_i hk
   rcases List.mem_cons.1 h with rfl | h
   ·exact ⟨Nat.le_refl _, hk⟩
   ·have h1 := ih q h
    have h2 := endN_gt hk
    exact ⟨by omega, h1.2⟩
  ·simp at h
theorem ptsN_mem {t : List Ins} {i q : Nat} (h : q ∈ ptsN t i) : i < q ∧ q < t.length := by
 unfold ptsN at h
 split at h
 ·have := ptsL_mem q h
  exact ⟨by omega, this.2⟩
 ·simp at h
section
variable {cs : List Cls} {gs : List Sig} {lo : List UInt8} {t : List Ins}
theorem partsT_same {f g : Nat → Option UInt8} : ∀ {n k : Nat}, (∀ q, k ≤ q → q < t.length → f q = g q) → (∀ q, t.length ≤ q → f q = none ∧ g q = none) → partsT t f n k = partsT t g n k := by
 intro n
 induction n with
 | zero => intro k _ _; rfl
 | succ n ih =>
  intro k h1 h2
  unfold partsT
  rcases Nat.lt_or_ge k t.length with hk | hk
  ·rw [h1 k (Nat.le_refl _) hk, ih (fun q hq => h1 q (by have := endN_gt hk; omega)) h2]
  ·rw [(h2 k hk).1, (h2 k hk).2]
theorem typN_out {F q : Nat} (h : t.length ≤ q) : typN cs gs lo t F q = none := by
 cases F with
 | zero => rfl
 | succ F => simp [typN, List.getElem?_eq_none h]
theorem typN_fuel : ∀ {F G k : Nat}, t.length - k ≤ F → t.length - k ≤ G → typN cs gs lo t F k = typN cs gs lo t G k := by
 intro F
 induction F with
 | zero => intro G k h1 _; rw [typN_out (by omega), typN_out (by omega)]
 | succ F ih =>
  intro G k h1 h2
  cases G with
  | zero => rw [typN_out (by omega), typN_out (by omega)]
  | succ G =>
   have hp : ∀ n, partsT t (typN cs gs lo t F) n (k + 1) = partsT t (typN cs gs lo t G) n (k + 1) := fun n =>
    partsT_same (fun q hq hl => ih (by omega) (by omega)) (fun q hq => ⟨typN_out hq, typN_out hq⟩)
   simp only [typN, hp]
theorem typN_step {k : Nat} {x : Ins} (hx : t[k]? = some x) : typN cs gs lo t t.length k = match partsT t (typN cs gs lo t t.length) (arity x.op) (k + 1) with
  | none => none
  | some ts => nodeT cs gs lo x ts := by
 have hl := (List.getElem?_eq_some_iff.1 hx).1
 obtain ⟨n, hn⟩ : ∃ n, t.length = n + 1 := ⟨t.length - 1, by omega⟩
 have h1 : typN cs gs lo t t.length k = typN cs gs lo t (n + 1) k := by rw [hn]
 rw [h1]
 have hp : partsT t (typN cs gs lo t n) (arity x.op) (k + 1) = partsT t (typN cs gs lo t t.length) (arity x.op) (k + 1) :=
  partsT_same (fun q hq hl => typN_fuel (by omega) (by omega)) (fun q hq => ⟨typN_out hq, typN_out hq⟩)
 simp only [typN, hx, hp]
 cases partsT t (typN cs gs lo t t.length) (arity x.op) (k + 1) <;> rfl
theorem partsT_map {ty : Nat → UInt8} : ∀ {n k : Nat}, (ptsL t n k).length = n → (∀ q ∈ ptsL t n k, typN cs gs lo t t.length q = some (ty q)) → partsT t (typN cs gs lo t t.length) n k = some ((ptsL t n k).map ty) := by
 intro n
 induction n with
 | zero => intro k _ _; rfl
 | succ n ih =>
  intro k hl h
  unfold ptsL at hl h ⊢
  split at hl
  ·rename_i hk
   rw [if_pos hk] at h ⊢
   unfold partsT
   rw [h k (by simp), ih (by simpa using hl) (fun q hq => h q (by simp [hq]))]
   rfl
  ·simp at hl
theorem typN_in : ∀ {F k : Nat}, t.length - k ≤ F → typN cs gs lo t t.length k ≠ none → ∀ j, k ≤ j → j < endN t k → typN cs gs lo t t.length j ≠ none := by
 intro F
 induction F with
 | zero => intro k hF h j _ _; exact absurd (typN_out (by omega)) h
 | succ F ih =>
  intro k hF h j h1 h2
  rcases Nat.eq_or_lt_of_le h1 with rfl | h1
  ·exact h
  ·have hl : k < t.length := by
    rcases Nat.lt_or_ge k t.length with hl | hl
    ·exact hl
    ·exact absurd (typN_out hl) h
   have hx := List.getElem?_eq_getElem hl
   rw [typN_step hx] at h
   rw [endN_cons hx] at h2
   have hp : ∀ n p, k < p → partsT t (typN cs gs lo t t.length) n p ≠ none → ∀ j, p ≤ j → j < p + sk n (t.drop p) → typN cs gs lo t t.length j ≠ none := by
    intro n
    induction n with
    | zero => intro p _ _ j a1 a2; rw [sk_zero] at a2; omega
    | succ n ihn =>
     intro p hkp hpt j a1 a2
     rw [sk_step] at a2
     have hT : typN cs gs lo t t.length p ≠ none := fun h0 => hpt (by simp [partsT, h0])
     rcases Nat.lt_or_ge j (endN t p) with hj | hj
     ·exact ih (k := p) (by omega) hT j a1 hj
     ·refine ihn (endN t p) ?_ ?_ j hj a2
      ·have : p < t.length := by
        rcases Nat.lt_or_ge p t.length with hl | hl
        ·exact hl
        ·exact absurd (typN_out hl) hT
       have := endN_gt this
       omega
      ·intro h0
       apply hpt
       unfold partsT
       cases typN cs gs lo t t.length p <;> simp [h0]
   refine hp (arity t[k].op) (k + 1) (by omega) ?_ j (by omega) h2
   intro h0
   rw [h0] at h
   exact h rfl
theorem typN_all (hf : full 1 t) (h : typN cs gs lo t t.length 0 ≠ none) : ∀ j, j < t.length → typN cs gs lo t t.length j ≠ none := by
 intro j hj
 refine typN_in (F := t.length) (by omega) h j (Nat.zero_le _) ?_
 unfold endN
 rw [List.drop_zero]
 have := full_sk (v := []) hf
 rw [List.append_nil] at this
 omega
end
end Go.Proofs.YtpfkkmacakjmbaaGreatDoor
namespace Go.Proofs.YtpfkkmacakjmbaaGreatDoor
open Go Go.RowKit Sp
set_option linter.unusedSimpArgs false
set_option linter.unusedVariables false
attribute [local go_sem ↓] Go.wp_at_zero Go.wp_at_succ
def nodeX (cs : List XCls) (ms : List Sig) (lo : List UInt8) (y : Ins) (ps : List UInt8) : Option UInt8 :=
 if accX cs (asksX cs ms lo (toXN y).op (toXN y).cls (toXN y).num) ps = true ∧ (typX cs ms lo (toXN y).op (toXN y).cls (toXN y).num ps).toNat ≠ 45 then some (typX cs ms lo (toXN y).op (toXN y).cls (toXN y).num ps) else none
def stepX (cs : List XCls) (ms : List Sig) (lo : List UInt8) (is : List Ins) (i : Nat) (ty : List UInt8) : Option (List UInt8) := match is[i]? with
 | none => none
 | some y => (nodeX cs ms lo y ((ptsN is i).map (tatX ty))).map fun c => ty.set i c
def runX (cs : List XCls) (ms : List Sig) (lo : List UInt8) (is : List Ins) : Nat → List UInt8 → Option (List UInt8)
 | 0, ty => some ty
 | q + 1, ty => match stepX cs ms lo is q ty with
  | none => none
  | some ty' => runX cs ms lo is q ty'
def endX (cs : List XCls) (r : UInt8) : Option (List UInt8) → Bool
 | none => false
 | some ty => fitsX cs (tatX ty 0) r
def hasX (cs : List XCls) (ms : List Sig) (lo : List UInt8) (is : List Ins) (r : UInt8) : Bool := endX cs r (runX cs ms lo is is.length (List.replicate is.length 0))
theorem ptsL_le (t : List Ins) : ∀ n k, (ptsL t n k).length ≤ n := by
 intro n
 induction n with
 | zero => intro k; simp [ptsL]
 | succ n ih =>
  intro k
  unfold ptsL
  split
  ·have := ih (endN t k); simp; omega
  ·simp
theorem ptsN_le (t : List Ins) (k : Nat) : (ptsN t k).length ≤ 3 := by
 unfold ptsN
 split
 ·rename_i x _
  have h := ptsL_le t (arity x.op) (k + 1)
  have : arity x.op ≤ 3 := by unfold arity; split; omega; split; omega; split <;> omega
  omega
 ·simp
theorem asksX_len (cs : List XCls) (ms : List Sig) (lo : List UInt8) (c k : UInt8) (n : Nat) : (asksX cs ms lo c k n).length ≤ 2 := by
 unfold asksX takesX
 repeat' split
 all_goals simp
theorem made_u8 (n : Nat) : madeCells #[.int .u8 0] n = (btCells (List.replicate n 0)).toArray := by
 apply Array.ext
 ·rw [size_madeCells]; simp [btCells]
 ·intro k h1 h2
  have e : k % 1 = 0 := by omega
  simp [madeCells, e, btCells]
theorem make_u8 (n : Nat) (hn : n ≤ 1000) (w : World) : (Instr.makeSlice 112 (.int .i64 (n : Int)) (.int .i64 (n : Int))).run Tryz.prog w = .ok (.slice (some ⟨w.heap.size, 0, none⟩) n n) (w.alloc (.cells (btCells (List.replicate n 0)).toArray 5)) := by
 have hinf := info_u8
 cases hi : Tryz.prog.info? 5 with
 | none => rw [hi] at hinf; cases hinf
 | some i =>
  rw [hi] at hinf
  simp only [Option.map_some, Option.some.injEq, Prod.mk.injEq] at hinf
  obtain ⟨hz, hs, hb⟩ := hinf
  have := run_make (P := Tryz.prog) w 112 5 i _ (by kernel_rfl) hi hz .i64 .i64 n n (by omega) (by omega) (by rw [hb]; omega) (by omega)
  rw [this, hs]
  simp only [Int.toNat_natCast, Value.cells, Nat.mul_one]
  rw [made_u8]
section
variable (b : Nat) (cs : List XCls) (ms : List Sig) (c0 : UInt8) (m0 : Nat) (r0 : UInt8) (al ai : Option Addr) (capl capi : Nat) (lo : List UInt8) (its : List XIt) (is : List Ins) (w : World)
theorem xhasType_any (hn : cs.length ≤ 100) (hm : ms.length ≤ 100) (hlen : its.length ≤ 24) (hT : TxC w b cs) (hM : TxM w b ms) (hB : BtB w 0 (.slice al lo.length capl) lo) (hI : ItB w 0 (.slice ai its.length capi) its) (hN : ItsN w 0 its is) :
  Calls Tryz.prog 91 #[.pointer (some ⟨b, 0, none⟩), hdV c0 m0 r0 (.slice al lo.length capl) (.slice ai its.length capi)] w fun en w' => But (fun _ => False) w w' ∧ en = .returned (.bool (hasX cs ms lo is r0)) := by
 obtain ⟨R, hRR⟩ : ∃ R, hasX cs ms lo is r0 = R := ⟨_, rfl⟩
 rw [hRR]
 have hnl := hN.len
 have hmk := make_u8 its.length (by omega)
 have HRR : Hid (endX cs r0 (runX cs ms lo is its.length (List.replicate its.length 0)) = R) := by rw [hnl]; exact hid hRR
 have HNL := hid hnl
 clear hRR hnl
 unfold hdV
 have hBb : But (fun _ => False) w (w.alloc (.cells #[.int .u8 c0.toNat, .int .i64 m0, .int .u8 r0.toNat, .slice al lo.length capl, .slice ai its.length capi] 115)) := But.alloc _ _ _
 have hgb : (w.alloc (.cells #[.int .u8 c0.toNat, .int .i64 m0, .int .u8 r0.toNat, .slice al lo.length capl, .slice ai its.length capi] 115)).heap[w.heap.size]? = some (.cells #[.int .u8 c0.toNat, .int .i64 m0, .int .u8 r0.toNat, .slice al lo.length capl, .slice ai its.length capi] 115) := heap_alloc_new _ _
 go_enter Tryz.func91, Tryz.ntmps91
 go_wp2_with fail
 have hze : (w.alloc (.cells #[.int .u8 c0.toNat, .int .i64 m0, .int .u8 r0.toNat, .slice al lo.length capl, .slice ai its.length capi] 115)).heap.size = w.heap.size + 1 := by simp
 generalize (w.alloc (.cells #[.int .u8 c0.toNat, .int .i64 m0, .int .u8 r0.toNat, .slice al lo.length capl, .slice ai its.length capi] 115)) = w1 at *
 have hW2 : (w1.alloc (.cells (btCells (List.replicate its.length 0)).toArray 5)).ownsRow (w.heap.size + 1) 5 1 (.slice (some ⟨w.heap.size + 1, 0, none⟩) its.length its.length) its.length (btCells (List.replicate its.length 0)) := by
  have h := BtB.lit w1 (w.heap.size + 1) (by omega) (List.replicate its.length 0) (by simp; omega)
  rw [hze] at h
  unfold BtB at h
  simp only [List.length_replicate] at h
  exact h
 have hB2 : But (fun _ => False) w (w1.alloc (.cells (btCells (List.replicate its.length 0)).toArray 5)) := hBb.trans (But.alloc _ _ _)
 have hg2 := ((But.alloc (fun _ => False) w1 (.cells (btCells (List.replicate its.length 0)).toArray 5)).block _ (lt_of_block hgb) (fun h => h)).trans hgb
 have hz2 : (w1.alloc (.cells (btCells (List.replicate its.length 0)).toArray 5)).heap.size = w.heap.size + 2 := by simp; omega
 generalize (w1.alloc (.cells (btCells (List.replicate its.length 0)).toArray 5)) = w2 at *
 clear hmk hBb hgb
 go_loopg [6] its.length (fun mm js wr => ∃ (v : Int) (q : Nat) (ty : List UInt8), js = .int .i64 v ∧ v = (q : Int) - 1 ∧ q ≤ its.length ∧ q ≤ mm ∧ mm ≤ q ∧ wr.ownsRow (w.heap.size + 1) 5 1 (.slice (some ⟨w.heap.size + 1, 0, none⟩) its.length its.length) its.length (btCells ty) ∧ But (fun _ => False) w wr ∧ w.heap.size + 1 < wr.heap.size ∧ wr.heap[w.heap.size]? = some (.cells #[.int .u8 c0.toNat, .int .i64 m0, .int .u8 r0.toNat, .slice al lo.length capl, .slice ai its.length capi] 115) ∧ Hid (ty.length = its.length ∧ endX cs r0 (runX cs ms lo is q ty) = R))
 case atStart => exact ⟨_, its.length, _, rfl, rfl, by omega, by omega, by omega, hW2, hB2, by omega, hg2, hid ⟨by simp, HRR.out⟩⟩
 case round =>
  obtain ⟨v, q, ty, rfl, hv, hq1, hq2, hq3, hWr, hBr, hzr, hgr, HI⟩ := hrel
  obtain ⟨k0, k1, k2, k3, k4⟩ := row5 hgr
  have hgl := lt_of_block hgr
  have hTr : BtB wr 0 (.slice (some ⟨w.heap.size + 1, 0, none⟩) ty.length its.length) ty := by
   unfold BtB
   rw [HI.out.1]
   exact World.ownsRow.mono hWr (Nat.zero_le _)
  cases q with
  | zero =>
   have hneg : ¬ (0 : Int) ≤ v := by omega
   have hTA := xtypeAt_any _ _ ty 0 wr.drew (BtB.but hTr (But.drew (fun _ => False) _) (fun _ _ h => h))
   rw [HI.out.1] at hTA
   have HTA := hid hTA
   have HFI := hid (xfits_any b cs (tatX ty 0) r0 wr.drew hn (hT.but (hBr.trans (But.drew _ _))))
   have HE : Hid (fitsX cs (tatX ty 0) r0 = R) := hid HI.out.2
   clear hTA hTr
   go_wp2_with fail
   have hS0 : But (fun _ => False) wr wr.drew := But.drew _ _
   refine wpP_begin (But (fun _ => False) wr) 6 (by kernel_rfl) ?_
   refine wpP_take (k := 0) (v := ?vA0) rfl (by decide) (by kernel_rfl) (fun _ _ _ h => h) rfl hS0 ?yA0 ?rA0
   case yA0 => intro wS h; have q0 := ((h.cell (p := ⟨w.heap.size, 2, none⟩) hgl (fun h => h)).trans k2); clear h; go_simp; try rfl
   dsimp only [Act.put]
   try simp only [puts]
   refine wpP_take (k := 1) (v := ?vA1) rfl (by decide) (by kernel_rfl) (fun _ _ _ h => h) rfl hS0 ?yA1 ?rA1
   case yA1 => intro wS h; have q0 := ((h.cell (p := ⟨w.heap.size, 2, none⟩) hgl (fun h => h)).trans k2); clear h; go_simp; try rfl
   dsimp only [Act.put]
   try simp only [puts]
   refine wpP_take (k := 3) (v := ?vA3) rfl (by decide) (by kernel_rfl) (fun _ _ _ h => h) rfl hS0 ?yA3 ?rA3
   case yA3 => intro wS h; have q0 := ((h.cell (p := ⟨w.heap.size, 2, none⟩) hgl (fun h => h)).trans k2); clear h; go_simp; try rfl
   dsimp only [Act.put]
   try simp only [puts]
   refine wpP_take (k := 4) (v := ?vA4) rfl (by decide) (by kernel_rfl) (fun _ _ _ h => h) rfl hS0 ?yA4 ?rA4
   case yA4 => intro wS h; have q0 := ((h.cell (p := ⟨w.heap.size, 2, none⟩) hgl (fun h => h)).trans k2); clear h; go_simp; try rfl
   dsimp only [Act.put]
   try simp only [puts]
   refine wpP_step (k := 2) rfl (by decide) (by kernel_rfl) ?_
   intro KS hKS
   go_simp
   refine HTA.out.mono ?_
   rintro en wx ⟨rfl, hwx⟩
   rw [hwx]
   clear hwx wx
   refine hKS.out _ _ (fun _ => hS0) ?_
   clear hKS KS
   refine wpP_step (k := 5) rfl (by decide) (by kernel_rfl) ?_
   intro KS hKS
   go_simp
   refine HFI.out.mono ?_
   rintro en wx ⟨rfl, hwx⟩
   rw [hwx, HE.out]
   clear hwx wx
   refine hKS.out _ _ (fun _ => hS0) ?_
   clear hKS KS
   refine wpP_step (k := 6) rfl (by decide) (by kernel_rfl) ?_
   intro KS hKS
   go_simp
   refine hKS.out _ _ (fun h => absurd h (by decide)) ?_
   clear hKS KS
   refine wpP_done rfl (by kernel_rfl) ?_
   go_wp2_with fail
   go_ret
   exact ⟨hBr.trans hS0, rfl⟩
  | succ p =>
   have hvp : v = (p : Int) := by omega
   subst hvp
   clear hv
   have hpl : p < is.length := by rw [← HNL.out]; omega
   obtain ⟨x, hx⟩ : ∃ x, its[p]? = some x := ⟨_, List.getElem?_eq_getElem (by omega)⟩
   have hy := List.getElem?_eq_getElem hpl
   obtain ⟨y, hyy⟩ : ∃ y, is[p] = y := ⟨_, rfl⟩
   rw [hyy] at hy
   obtain ⟨e1, e2, e3, e4, e5⟩ := hN.at' p y x hy hx
   have HE2 := hid e2
   have HE3 := hid e3
   have HE4 := hid e4
   have HY := hid hy
   clear e1 e2 e3 e4 hyy hy
   obtain ⟨g, rfl, hg1, hg2', hcell⟩ := owns_two (owns_but hI hBr (fun _ _ h => h)) (by omega)
   have z0 : wr.cell? ⟨g, p * 5, none⟩ = some (.int .i64 x.place) := hcell _ _ (itCells_at (k := 0) hx (by omega))
   have z1 : wr.cell? ⟨g, p * 5 + 1, none⟩ = some (.int .u8 x.op.toNat) := hcell _ _ (itCells_at (k := 1) hx (by omega))
   have z2 : wr.cell? ⟨g, p * 5 + 2, none⟩ = some (.int .u8 x.cls.toNat) := hcell _ _ (itCells_at (k := 2) hx (by omega))
   have z3 : wr.cell? ⟨g, p * 5 + 3, none⟩ = some (.int .i64 x.num) := hcell _ _ (itCells_at (k := 3) hx (by omega))
   have z4 : wr.cell? ⟨g, p * 5 + 4, none⟩ = some (.slice x.pa x.pn x.pc) := hcell _ _ (itCells_at (k := 4) hx (by omega))
   have hpI : (p : Int) < (its.length : Int) := by omega
   have hp0 : (0 : Int) ≤ (p : Int) := by omega
   have hTO := xtypesOf_any x (ptsN is p) ty _ _ wr (ptsN_le is p) (fun k hk => by have := (ptsN_mem hk).2; have := HNL.out; omega) (owns_but e5 hBr (fun _ _ h => h)) hTr
   rw [HI.out.1] at hTO
   unfold itV at hTO
   have HTO := hid hTO
   clear hTO hcell
   go_wp2_with fail
   refine HTO.out.mono ?_
   rintro en w3 ⟨hB3, a3, c3, rfl, hP3⟩
   clear HTO
   obtain ⟨PS, hPS⟩ : ∃ PS, (ptsN is p).map (tatX ty) = PS := ⟨_, rfl⟩
   have hpsl : (ptsN is p).length = PS.length := by rw [← hPS]; simp
   rw [hPS, hpsl] at hP3
   rw [hpsl]
   have HPS := hid hPS
   clear hPS hpsl
   have hBw3 := hBr.trans hB3
   have hg3 := (hB3.block _ hgl (fun h => h)).trans hgr
   have hgl3 := lt_of_block hg3
   have hg13 : g < w3.heap.size := Nat.lt_of_lt_of_le hg1 hB3.size
   obtain ⟨m0', m1', m2', m3', m4'⟩ := row5 hg3
   have y0 := (hB3.cell (p := ⟨g, p * 5, none⟩) hg1 (fun h => h)).trans z0
   have y1 := (hB3.cell (p := ⟨g, p * 5 + 1, none⟩) hg1 (fun h => h)).trans z1
   have y2 := (hB3.cell (p := ⟨g, p * 5 + 2, none⟩) hg1 (fun h => h)).trans z2
   have y3 := (hB3.cell (p := ⟨g, p * 5 + 3, none⟩) hg1 (fun h => h)).trans z3
   have y4 := (hB3.cell (p := ⟨g, p * 5 + 4, none⟩) hg1 (fun h => h)).trans z4
   clear z0 z1 z2 z3 z4 k0 k1 k2 k3 k4
   have hBd : But (fun _ => False) w w3.drew := hBw3.trans (But.drew _ _)
   have hP4 : BtB w3.drew 0 (.slice a3 PS.length c3) PS := World.ownsRow.mono (BtB.but hP3 (But.drew (fun _ => False) _) (fun _ _ h => h)) (Nat.zero_le _)
   have HAC := hid (xaccepts_any b cs ms c0 m0 r0 al (some ⟨g, 0, none⟩) capl its.length capi lo x w3.drew a3 c3 PS hn hm (hT.but hBd) (hM.but hBd) (BtB.but hB hBd (fun _ _ h => h)) hP4 (by have := asksX_len cs ms lo x.op x.cls x.num; omega))
   unfold hdV itV at HAC
   go_wp2_with fail
   have hS0 : But (fun _ => False) w3 w3.drew := But.drew _ _
   refine wpP_begin (But (fun _ => False) w3) 10 (by kernel_rfl) ?_
   have fSB := hid (fun wS (h : (But (fun _ => False) w3) wS) => (And.intro ((h.cell (p := ⟨w.heap.size, 0, none⟩) hgl3 (fun h => h)).trans m0') (And.intro ((h.cell (p := ⟨w.heap.size, 1, none⟩) hgl3 (fun h => h)).trans m1') (And.intro ((h.cell (p := ⟨w.heap.size, 2, none⟩) hgl3 (fun h => h)).trans m2') (And.intro ((h.cell (p := ⟨w.heap.size, 3, none⟩) hgl3 (fun h => h)).trans m3') (And.intro ((h.cell (p := ⟨w.heap.size, 4, none⟩) hgl3 (fun h => h)).trans m4') (And.intro ((h.cell (p := ⟨g, p * 5, none⟩) hg13 (fun h => h)).trans y0) (And.intro ((h.cell (p := ⟨g, p * 5 + 1, none⟩) hg13 (fun h => h)).trans y1) (And.intro ((h.cell (p := ⟨g, p * 5 + 2, none⟩) hg13 (fun h => h)).trans y2) (And.intro ((h.cell (p := ⟨g, p * 5 + 3, none⟩) hg13 (fun h => h)).trans y3) ((h.cell (p := ⟨g, p * 5 + 4, none⟩) hg13 (fun h => h)).trans y4)))))))))))
   refine wpP_take (k := 0) (v := ?vB0) rfl (by decide) (by kernel_rfl) (fun _ _ _ h => h) rfl hS0 ?yB0 ?rB0
   case yB0 => intro wS h; obtain ⟨q0, q1, q2, q3, q4, q5, q6, q7, q8, q9⟩ := fSB.out wS h; clear h; go_simp; try rfl
   dsimp only [Act.put]
   try simp only [puts]
   refine wpP_take (k := 1) (v := ?vB1) rfl (by decide) (by kernel_rfl) (fun _ _ _ h => h) rfl hS0 ?yB1 ?rB1
   case yB1 => intro wS h; obtain ⟨q0, q1, q2, q3, q4, q5, q6, q7, q8, q9⟩ := fSB.out wS h; clear h; go_simp; try rfl
   dsimp only [Act.put]
   try simp only [puts]
   refine wpP_take (k := 2) (v := ?vB2) rfl (by decide) (by kernel_rfl) (fun _ _ _ h => h) rfl hS0 ?yB2 ?rB2
   case yB2 => intro wS h; obtain ⟨q0, q1, q2, q3, q4, q5, q6, q7, q8, q9⟩ := fSB.out wS h; clear h; go_simp; try rfl
   dsimp only [Act.put]
   try simp only [puts]
   refine wpP_take (k := 3) (v := ?vB3) rfl (by decide) (by kernel_rfl) (fun _ _ _ h => h) rfl hS0 ?yB3 ?rB3
   case yB3 => intro wS h; obtain ⟨q0, q1, q2, q3, q4, q5, q6, q7, q8, q9⟩ := fSB.out wS h; clear h; go_simp; try rfl
   dsimp only [Act.put]
   try simp only [puts]
   refine wpP_take (k := 4) (v := ?vB4) rfl (by decide) (by kernel_rfl) (fun _ _ _ h => h) rfl hS0 ?yB4 ?rB4
   case yB4 => intro wS h; obtain ⟨q0, q1, q2, q3, q4, q5, q6, q7, q8, q9⟩ := fSB.out wS h; clear h; go_simp; try rfl
   dsimp only [Act.put]
   try simp only [puts]
   refine wpP_take (k := 5) (v := ?vB5) rfl (by decide) (by kernel_rfl) (fun _ _ _ h => h) rfl hS0 ?yB5 ?rB5
   case yB5 => intro wS h; obtain ⟨q0, q1, q2, q3, q4, q5, q6, q7, q8, q9⟩ := fSB.out wS h; clear h; go_simp; try rfl
   dsimp only [Act.put]
   try simp only [puts]
   refine wpP_take (k := 6) (v := ?vB6) rfl (by decide) (by kernel_rfl) (fun _ _ _ h => h) rfl hS0 ?yB6 ?rB6
   case yB6 => intro wS h; obtain ⟨q0, q1, q2, q3, q4, q5, q6, q7, q8, q9⟩ := fSB.out wS h; clear h; go_simp; try rfl
   dsimp only [Act.put]
   try simp only [puts]
   refine wpP_take (k := 7) (v := ?vB7) rfl (by decide) (by kernel_rfl) (fun _ _ _ h => h) rfl hS0 ?yB7 ?rB7
   case yB7 => intro wS h; obtain ⟨q0, q1, q2, q3, q4, q5, q6, q7, q8, q9⟩ := fSB.out wS h; clear h; go_simp; try rfl
   dsimp only [Act.put]
   try simp only [puts]
   try clear fSB
   refine wpP_step (k := 8) rfl (by decide) (by kernel_rfl) ?_
   intro KS hKS
   go_simp
   refine HAC.out.mono ?_
   rintro en w4 ⟨hB4, rfl⟩
   have hBw4 := hBd.trans hB4
   have hS4 : But (fun _ => False) w3 w4 := hS0.trans hB4
   refine hKS.out _ _ (fun _ => hS4) ?_
   clear hKS KS
   refine wpP_step (k := 9) rfl (by decide) (by kernel_rfl) ?_
   intro KS hKS
   go_simp
   refine hKS.out _ _ (fun _ => hS4) ?_
   clear hKS KS
   refine wpP_done rfl (by kernel_rfl) ?_
   cases hac : accX cs (asksX cs ms lo x.op x.cls x.num) PS with
   | false =>
    have hres : R = false := by
     have h2 := HI.out.2
     have hst : stepX cs ms lo is p ty = none := by
      simp only [stepX, HY.out, HPS.out, nodeX, ← HE2.out, ← HE3.out, ← HE4.out, hac]
      simp
     rw [← h2]
     simp only [runX, hst, endX]
    subst hres
    clear hac
    go_wp2_with fail
    go_ret
    exact ⟨hBw4, rfl⟩
   | true =>
    have HACC := hid hac
    clear hac
    have hSr : But (fun _ => False) wr w4 := hB3.trans hS4
    have hg4 := (hSr.block _ hgl (fun h => h)).trans hgr
    have hgl4 := lt_of_block hg4
    have hg14 : g < w4.heap.size := Nat.lt_of_lt_of_le hg1 hSr.size
    obtain ⟨n0', n1', n2', n3', n4'⟩ := row5 hg4
    have x0 := (hS4.cell (p := ⟨g, p * 5, none⟩) hg13 (fun h => h)).trans y0
    have x1 := (hS4.cell (p := ⟨g, p * 5 + 1, none⟩) hg13 (fun h => h)).trans y1
    have x2 := (hS4.cell (p := ⟨g, p * 5 + 2, none⟩) hg13 (fun h => h)).trans y2
    have x3 := (hS4.cell (p := ⟨g, p * 5 + 3, none⟩) hg13 (fun h => h)).trans y3
    have x4 := (hS4.cell (p := ⟨g, p * 5 + 4, none⟩) hg13 (fun h => h)).trans y4
    clear y0 y1 y2 y3 y4 m0' m1' m2' m3' m4' HAC
    have hBe : But (fun _ => False) w w4.drew := hBw4.trans (But.drew _ _)
    have hP5 : BtB w4.drew 0 (.slice a3 PS.length c3) PS := BtB.but hP4 (hB4.trans (But.drew _ _)) (fun _ _ h => h)
    have HTY := hid (xtypeOf_any b cs ms c0 m0 r0 al (some ⟨g, 0, none⟩) capl its.length capi lo x w4.drew a3 c3 PS hn hm (hT.but hBe) (hM.but hBe) (BtB.but hB hBe (fun _ _ h => h)) hP5)
    unfold hdV itV at HTY
    obtain ⟨C, hC⟩ : ∃ C, typX cs ms lo x.op x.cls x.num PS = C := ⟨_, rfl⟩
    rw [hC] at HTY
    have HC := hid hC
    clear hC
    go_wp2_with fail
    have hS1 : But (fun _ => False) w4 w4.drew := But.drew _ _
    refine wpTx_begin (But (fun _ => False) w4) 11 (by kernel_rfl) ?_
    have fSC := hid (fun wS (h : (But (fun _ => False) w4) wS) => (And.intro ((h.cell (p := ⟨w.heap.size, 0, none⟩) hgl4 (fun h => h)).trans n0') (And.intro ((h.cell (p := ⟨w.heap.size, 1, none⟩) hgl4 (fun h => h)).trans n1') (And.intro ((h.cell (p := ⟨w.heap.size, 2, none⟩) hgl4 (fun h => h)).trans n2') (And.intro ((h.cell (p := ⟨w.heap.size, 3, none⟩) hgl4 (fun h => h)).trans n3') (And.intro ((h.cell (p := ⟨w.heap.size, 4, none⟩) hgl4 (fun h => h)).trans n4') (And.intro ((h.cell (p := ⟨g, p * 5, none⟩) hg14 (fun h => h)).trans x0) (And.intro ((h.cell (p := ⟨g, p * 5 + 1, none⟩) hg14 (fun h => h)).trans x1) (And.intro ((h.cell (p := ⟨g, p * 5 + 2, none⟩) hg14 (fun h => h)).trans x2) (And.intro ((h.cell (p := ⟨g, p * 5 + 3, none⟩) hg14 (fun h => h)).trans x3) ((h.cell (p := ⟨g, p * 5 + 4, none⟩) hg14 (fun h => h)).trans x4)))))))))))
    iterate 10 (refine wpTx_take (v := ?_) rfl (by kernel_rfl) (fun _ _ _ h => h) rfl hS1 ?_ ?_; rotate_left; (focus (intro wS h; obtain ⟨q0, q1, q2, q3, q4, q5, q6, q7, q8, q9⟩ := fSC.out wS h; clear h; go_simp; try rfl)); dsimp only [Act.put]; try simp only [puts])
    try clear fSC
    refine wpTx_step rfl (by kernel_rfl) ?_
    intro KS hKS
    go_simp
    refine HTY.out.mono ?_
    rintro en w5 ⟨hB5, rfl⟩
    have hS5 : But (fun _ => False) w4 w5 := hS1.trans hB5
    refine hKS.out _ _ (fun _ => hS5) ?_
    clear hKS KS
    have hSr5 := hSr.trans hS5
    have hW5 := owns_but hWr hSr5 (fun _ _ h => h)
    obtain ⟨gq, hgq, hq1', hq2', hcq⟩ := owns_two hW5 (by omega)
    have hgqe : w.heap.size + 1 = gq := by injection hgq with h; injection h with h
    subst hgqe
    have hpt : p < ty.length := by rw [HI.out.1]; omega
    have ct := hcq _ _ (btCells_at hpt)
    have ft := owns_fz hW5 p
    clear hcq hgq
    refine wpTx_step rfl (by kernel_rfl) ?_
    intro KS hKS
    go_simp
    refine hKS.out _ _ (fun h => absurd h (by decide)) ?_
    clear hKS KS
    refine wpTx_step rfl (by kernel_rfl) ?_
    intro KS hKS
    go_simp
    refine hKS.out _ _ (fun h => absurd h (by decide)) ?_
    clear hKS KS
    refine wpTx_done rfl (by kernel_rfl) ?_
    have hW6 := owns_set hW5 p (.int .u8 C.toNat)
    rw [show (btCells ty).set p (.int .u8 C.toNat) = btCells (ty.set p C) from by simp [btCells, List.map_set]] at hW6
    have hB6 : But (fun _ => False) w (w5.setCell ⟨w.heap.size + 1, p, none⟩ (.int .u8 C.toNat)) := (hBr.trans hSr5).next (But.setB _ _ _ _) (fun j hj h => by omega)
    have hg6 := ((But.setB w5 (w.heap.size + 1) p (.int .u8 C.toNat)).block w.heap.size (Nat.lt_of_lt_of_le hgl hSr5.size) (fun h => by omega)).trans ((hSr5.block _ hgl (fun h => h)).trans hgr)
    have hz6 := (But.setB w5 (w.heap.size + 1) p (.int .u8 C.toNat)).size
    have hz5 := hSr5.size
    have HST : Hid (C.toNat ≠ 45 → stepX cs ms lo is p ty = some (ty.set p C)) := hid (fun h => by
     simp only [stepX, HY.out, HPS.out, nodeX, ← HE2.out, ← HE3.out, ← HE4.out, HACC.out, HC.out]
     simp [h])
    have HS0 : Hid (C.toNat = 45 → stepX cs ms lo is p ty = none) := hid (fun h => by
     simp only [stepX, HY.out, HPS.out, nodeX, ← HE2.out, ← HE3.out, ← HE4.out, HACC.out, HC.out]
     simp [h])
    obtain ⟨gq, hgq, hq1', hq2', hcq⟩ := owns_two hW6 (by omega)
    have hgqe : w.heap.size + 1 = gq := by injection hgq with h; injection h with h
    subst hgqe
    have ct6 := hcq _ _ (btCells_at (l := ty.set p C) (k := p) (by simpa using hpt))
    rw [show (ty.set p C).getD p 0 = C from by simp [List.getD, hpt]] at ct6
    clear hcq hgq x0 x1 x2 x3 x4 n0' n1' n2' n3' n4' HTY ct ft
    generalize (w5.setCell ⟨w.heap.size + 1, p, none⟩ (.int .u8 C.toNat)) = w6 at *
    by_cases h45 : C.toNat = 45
    ·have e45 : ((C.toNat : Int) == 45) = true := by rw [beq_iff_eq]; omega
     have hres : R = false := by
      rw [← HI.out.2]
      simp only [runX, HS0.out h45, endX]
     subst hres
     clear h45
     go_wp2_with fail
     go_ret
     exact ⟨hB6, rfl⟩
    ·have e45 : ((C.toNat : Int) == 45) = false := by rw [beq_eq_false_iff_ne]; omega
     have HNX : Hid ((ty.set p C).length = its.length ∧ endX cs r0 (runX cs ms lo is p (ty.set p C)) = R) := by
      refine hid ⟨by rw [List.length_set]; exact HI.out.1, ?_⟩
      rw [← HI.out.2]
      simp only [runX, HST.out h45]
     clear h45
     go_wp2_with fail
     go_roundg p
     case measure => omega
     case rel => exact ⟨_, p, _, rfl, rfl, by omega, by omega, by omega, hW6, hB6, by omega, hg6, HNX⟩
end
end Go.Proofs.YtpfkkmacakjmbaaGreatDoor
