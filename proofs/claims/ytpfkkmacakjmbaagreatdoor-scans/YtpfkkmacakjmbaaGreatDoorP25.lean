import Derived.Test.YtpfkkmacakjmbaaGreatDoorP24
import Derived.Test.YtpfkkmacakjmbaaGreatDoorP00
/- The program reads an image. -/
namespace Go.Proofs.YtpfkkmacakjmbaaGreatDoor
open Go Go.RowKit Sp
set_option linter.unusedSimpArgs false
set_option linter.unusedVariables false
attribute [local go_sem ↓] Go.wp_at_zero Go.wp_at_succ
def BodC (Gd : Prop) (s : ByteArray) (cs : List Cls) (gs : List Sig) (R : Except Nat (List Bod × Nat)) (mm : Nat) (bs : List XBod) (j : Nat) (bad : Bool) : Prop :=
 (bad = false ∧ Gd ∧ ∃ BS, bs = BS.map (toXB gs) ∧ (∀ b ∈ BS, SideB b) ∧ BS.length + mm = 6 ∧ bodP s cs gs mm BS j = R) ∨ (bad = true ∧ R = .error j)
section
variable {Gd : Prop} {s : ByteArray} {cs : List Cls} {gs : List Sig} {R : Except Nat (List Bod × Nat)}
theorem bodP_step {k : Nat} {BS : List Bod} {i : Nat} (h : (pk s i).toNat ≠ 59) : bodP s cs gs (k + 1) BS i = match headP s cs.length gs BS i with
  | .error j => .error j
  | .ok ((x, m, t), p) =>
   match codeP s cs gs.length (t.length + 2) 100 [] p with
   | .error q => .error q
   | .ok (is, q) => bodP s cs gs k (BS ++ [⟨x, m, UInt8.ofNat (65 + x) :: argOf gs m :: t, is⟩]) q := by
 unfold headP
 rw [bodP, if_neg h]
 cases letP s cs.length i with
 | error j => rfl
 | ok y =>
  obtain ⟨x, j⟩ := y
  simp only
  cases digP s gs.length j with
  | error l => rfl
  | ok z =>
   obtain ⟨m, l⟩ := z
   simp only
   split
   ·rfl
   ·cases tys s cs.length 58 3 [] l with
    | error p => rfl
    | ok t =>
     obtain ⟨t, p⟩ := t
     simp only
     cases codeP s cs gs.length (t.length + 2) 100 [] p <;> rfl
theorem BodC.fin {mm : Nat} {bs : List XBod} {j : Nat} {bad : Bool} (h : BodC Gd s cs gs R mm bs j bad) (hx : ¬ bs.length < 6 ∨ (!bad && !decide (pk s j = 59)) = false) :
  ((tkP s 59 j bad).2 = false ∧ Gd ∧ ∃ BS, R = .ok (BS, (tkP s 59 j bad).1) ∧ bs = BS.map (toXB gs) ∧ ∀ b ∈ BS, SideB b) ∨ ((tkP s 59 j bad).2 = true ∧ R = .error (tkP s 59 j bad).1) := by
 rcases h with ⟨rfl, hG, BS, h1, h2, h3, h4⟩ | ⟨rfl, h2⟩
 ·by_cases hp : pk s j = 59
  ·left
   rw [tkP_ok hp]
   refine ⟨rfl, hG, BS, ?_, h1, h2⟩
   rw [← h4]
   cases mm <;> simp [bodP, hp]
  ·right
   rw [tkP_no (Or.inr hp)]
   refine ⟨rfl, ?_⟩
   have hm : mm = 0 := by
    rcases hx with h | h
    ·rw [h1, List.length_map] at h; omega
    ·simp [hp] at h
   subst hm
   rw [← h4]
   have : (pk s j).toNat ≠ 59 := fun h => hp ((u8n (by decide)).1 h)
   simp [bodP, this]
 ·right
  rw [tkP_no (Or.inl rfl)]
  exact ⟨rfl, h2⟩
theorem methX_arg {m : Nat} (h : m < gs.length) : (methX gs m).arg = argOf gs m := by
 unfold methX argOf
 rw [List.getElem?_eq_getElem h]
 rfl
/-- The next body: its head, then what is to be done. -/
theorem BodC.next {mm : Nat} {bs : List XBod} {j : Nat} (h : BodC Gd s cs gs R mm bs j false) (hnc : cs.length ≤ 4) (hl : bs.length < 6) (hp : pk s j ≠ 59) :
  Gd ∧ ∃ BS, bs = BS.map (toXB gs) ∧ (∀ b ∈ BS, SideB b) ∧ BS.length ≤ 6 ∧ ∀ c m r l j1 bad1, ((bad1 = false ∧ ∃ x t, headP s cs.length gs BS j = .ok ((x, m, t), j1) ∧ c = UInt8.ofNat (65 + x) ∧ x < cs.length ∧ m < gs.length ∧ r = (methX gs m).ret ∧ l = c :: (methX gs m).arg :: t) ∨ (bad1 = true ∧ headP s cs.length gs BS j = .error j1)) →
   ∀ X j2 bad2, ((bad2 = false ∧ ∃ is, codeB s cs gs.length l.length j1 bad1 = .ok (is, j2) ∧ X = ⟨c, m, r, l, is.map toXI⟩) ∨ (bad2 = true ∧ codeB s cs gs.length l.length j1 bad1 = .error j2)) →
   ∃ m', m' < mm ∧ BodC Gd s cs gs R m' (bs ++ [X]) j2 bad2 := by
 rcases h with ⟨_, hG, BS, h1, h2, h3, h4⟩ | ⟨h, _⟩
 ·have hlb : BS.length < 6 := by rw [h1, List.length_map] at hl; exact hl
  refine ⟨hG, BS, h1, h2, by omega, ?_⟩
  intro c m r l j1 bad1 hh X j2 bad2 hc
  obtain ⟨f, rfl⟩ : ∃ f, mm = f + 1 := ⟨mm - 1, by omega⟩
  have hne : (pk s j).toNat ≠ 59 := fun h => hp ((u8n (by decide)).1 h)
  rw [bodP_step hne] at h4
  rcases hh with ⟨rfl, x, t, e1, e2, e3, e4, e5, e6⟩ | ⟨rfl, e1⟩
  ·rw [e1] at h4
   simp only at h4
   unfold codeB at hc
   simp only [Bool.false_eq_true, if_false] at hc
   rw [show l.length = t.length + 2 from by rw [e6]; rfl] at hc
   rcases hc with ⟨rfl, is, c1, c2⟩ | ⟨rfl, c1⟩
   ·rw [c1] at h4
    refine ⟨f, by omega, Or.inl ⟨rfl, hG, BS ++ [⟨x, m, UInt8.ofNat (65 + x) :: argOf gs m :: t, is⟩], ?_, ?_, by simp; omega, h4⟩⟩
    ·rw [h1, List.map_append, c2]
     simp only [List.map_cons, List.map_nil, toXB]
     congr 2
     rw [e6, e5, e2, methX_arg e4]
     have hx0 : ¬ ((x : Int) < 0) := by omega
     simp [hx0]
    ·intro b hb
     rcases List.mem_append.1 hb with hb | hb
     ·exact h2 b hb
     ·simp at hb
      subst hb
      exact ⟨by simp, by simp; omega, by simp⟩
   ·rw [c1] at h4
    exact ⟨0, by omega, Or.inr ⟨rfl, h4.symm⟩⟩
  ·rw [e1] at h4
   simp only at h4
   unfold codeB at hc
   simp only [if_true] at hc
   rcases hc with ⟨_, is, c1, _⟩ | ⟨rfl, c1⟩
   ·cases c1
   ·cases c1
    exact ⟨0, by omega, Or.inr ⟨rfl, h4.symm⟩⟩
 ·cases h
end
/-- The text that an image comes to lies at the head of block b. -/
structure TextX (w : World) (b : Nat) (im : Img) : Prop where
 cls : TxC w b (im.classes.map toX)
 met : TxM w b im.sigs
 bod : TxB w b (im.bodies.map (toXB im.sigs))
theorem read_fin {s : ByteArray} {SC : List Cls} {n : Nat} {ms : List Sig} {cs : List XCls} {bs : List XBod} {l : List UInt8} {X : XBod} {j0 j1 j2 j3 j4 : Nat} {b0 b1 b2 b3 b4 : Bool} {R : Except Nat (List Bod × Nat)}
  (hcls : (b0 = false ∧ ∃ SC', clsP s 4 [] 0 = .ok (SC', j0) ∧ SC' = SC ∧ cs = SC.map toX ∧ WfC SC) ∨ (b0 = true ∧ clsP s 4 [] 0 = .error j0)) (hn : SC.length = n)
  (hsig : (b1 = false ∧ sigB s n j0 b0 = .ok (ms, j1)) ∨ (b1 = true ∧ sigB s n j0 b0 = .error j1))
  (hR : (if b1 = true then .error j1 else bodP s SC ms 6 [] j1) = R)
  (hbod : (b2 = false ∧ (b1 = false) ∧ ∃ BS, R = .ok (BS, j2) ∧ bs = BS.map (toXB ms) ∧ ∀ b ∈ BS, SideB b) ∨ (b2 = true ∧ R = .error j2))
  (hmain : (b3 = false ∧ tysB s n 58 3 j2 b2 = .ok (l, j3)) ∨ (b3 = true ∧ tysB s n 58 3 j2 b2 = .error j3))
  (hcode : (b4 = false ∧ ∃ is, codeB s SC ms.length l.length j3 b3 = .ok (is, j4) ∧ X = ⟨45, 0, 105, l, is.map toXI⟩) ∨ (b4 = true ∧ codeB s SC ms.length l.length j3 b3 = .error j4)) :
  ((b4 || decide (j4 < s.size)) = true ∧ readP s = .error j4) ∨ ((b4 || decide (j4 < s.size)) = false ∧ ∃ im, readP s = .ok im ∧ im.classes = SC ∧ cs = SC.map toX ∧ im.sigs = ms ∧ bs ++ [X] = im.bodies.map (toXB ms)) := by
 unfold readP
 rcases hcls with ⟨rfl, SC', hc, rfl, hcs, hwf⟩ | ⟨rfl, hc⟩
 ·rw [hc]
  simp only
  unfold sigB at hsig
  simp only [Bool.false_eq_true, if_false] at hsig
  rw [hn]
  rcases hsig with ⟨rfl, hsg⟩ | ⟨rfl, hsg⟩
  ·rw [hsg]
   simp only
   simp only [Bool.false_eq_true, if_false] at hR
   rw [hR]
   rcases hbod with ⟨rfl, _, BS, hb, hbs, _⟩ | ⟨rfl, hb⟩
   ·rw [hb]
    simp only
    unfold tysB at hmain
    simp only [Bool.false_eq_true, if_false] at hmain
    rcases hmain with ⟨rfl, hm⟩ | ⟨rfl, hm⟩
    ·rw [hm]
     simp only
     unfold codeB at hcode
     simp only [Bool.false_eq_true, if_false] at hcode
     rcases hcode with ⟨rfl, is, hcd, hX⟩ | ⟨rfl, hcd⟩
     ·rw [hcd]
      simp only
      by_cases hlt : j4 < s.size
      ·left
       rw [if_pos hlt]
       exact ⟨by simp [hlt], rfl⟩
      ·right
       rw [if_neg hlt]
       refine ⟨by simp [hlt], _, rfl, rfl, hcs, rfl, ?_⟩
       rw [hbs, hX, List.map_append]
       rfl
     ·rw [hcd]
      exact Or.inl ⟨rfl, rfl⟩
    ·rw [hm]
     unfold codeB at hcode
     simp only [if_true] at hcode
     rcases hcode with ⟨_, is, hcd, _⟩ | ⟨rfl, hcd⟩
     ·cases hcd
     ·cases hcd
      exact Or.inl ⟨rfl, rfl⟩
   ·rw [hb]
    unfold tysB at hmain
    simp only [if_true] at hmain
    rcases hmain with ⟨_, hm⟩ | ⟨rfl, hm⟩
    ·cases hm
    ·cases hm
     unfold codeB at hcode
     simp only [if_true] at hcode
     rcases hcode with ⟨_, is, hcd, _⟩ | ⟨rfl, hcd⟩
     ·cases hcd
     ·cases hcd
      exact Or.inl ⟨rfl, rfl⟩
  ·rw [hsg]
   simp only [if_true] at hR
   subst hR
   rcases hbod with ⟨_, h, _⟩ | ⟨rfl, hb⟩
   ·cases h
   ·cases hb
    unfold tysB at hmain
    simp only [if_true] at hmain
    rcases hmain with ⟨_, hm⟩ | ⟨rfl, hm⟩
    ·cases hm
    ·cases hm
     unfold codeB at hcode
     simp only [if_true] at hcode
     rcases hcode with ⟨_, is, hcd, _⟩ | ⟨rfl, hcd⟩
     ·cases hcd
     ·cases hcd
      exact Or.inl ⟨rfl, rfl⟩
 ·rw [hc]
  unfold sigB at hsig
  simp only [if_true] at hsig
  rcases hsig with ⟨_, h⟩ | ⟨rfl, hsg⟩
  ·cases h
  ·cases hsg
   simp only [if_true] at hR
   subst hR
   rcases hbod with ⟨_, h, _⟩ | ⟨rfl, hb⟩
   ·cases h
   ·cases hb
    unfold tysB at hmain
    simp only [if_true] at hmain
    rcases hmain with ⟨_, hm⟩ | ⟨rfl, hm⟩
    ·cases hm
    ·cases hm
     unfold codeB at hcode
     simp only [if_true] at hcode
     rcases hcode with ⟨_, is, hcd, _⟩ | ⟨rfl, hcd⟩
     ·cases hcd
     ·cases hcd
      exact Or.inl ⟨rfl, rfl⟩
end Go.Proofs.YtpfkkmacakjmbaaGreatDoor
/- The program reads an image: the walk. -/
namespace Go.Proofs.YtpfkkmacakjmbaaGreatDoor
open Go Go.RowKit Sp
set_option linter.unusedSimpArgs false
set_option linter.unusedVariables false
attribute [local go_sem ↓] Go.wp_at_zero Go.wp_at_succ
theorem TbV.apart {w : World} {base : Nat} {v : Value} {bs : List XBod} (h : TbV w base v bs) {g e : Nat} {cur : Array Value} (hh : w.heap[g]? = some (.cells cur e)) (hne : e ≠ 115) : ¬ v.ownBlock = some g := by
 obtain ⟨l, h1, _⟩ := h
 exact owns_apart h1 hh hne
theorem TbV.ge {w : World} {base : Nat} {v : Value} {bs : List XBod} (h : TbV w base v bs) : ∀ g, v.ownBlock = some g → base ≤ g := by
 obtain ⟨l, h1, _⟩ := h
 exact owns_ge h1
/-- What has been read once the main body is done. -/
def ReadF (s : ByteArray) (SC : List Cls) (ms : List Sig) (cs : List XCls) (bs : List XBod) (j : Nat) (bad : Bool) : Prop :=
 ((bad || decide (j < s.size)) = true ∧ readP s = .error j) ∨ ((bad || decide (j < s.size)) = false ∧ ∃ im, readP s = .ok im ∧ im.classes = SC ∧ cs = SC.map toX ∧ im.sigs = ms ∧ bs = im.bodies.map (toXB ms))
set_option maxHeartbeats 3200000 in
set_option maxRecDepth 100000 in
theorem xread_any (s : ByteArray) (w : World) (hs : s.size ≤ 2000) :
  Calls Tryz.prog 63 #[.string s] w fun en w' => But (fun _ => False) w w' ∧ ∃ g p, en = .returned (.tuple #[.pointer (some ⟨g, 0, none⟩), .int .i64 p]) ∧ w.heap.size ≤ g ∧
   ((∃ j, readP s = .error j ∧ p = (j : Int) ∧ w'.heap[g]? = some (.cells #[.slice none 0 0, .slice none 0 0, .slice none 0 0] 109)) ∨ (p = -1 ∧ ∃ im, readP s = .ok im ∧ TextX w' g im)) := by
 go_enter Tryz.func63, Tryz.ntmps63
 go_wp2_with fail
 refine (xnew_any s w).mono ?_
 rintro en w0 ⟨rfl, hB0, hz0, hR0⟩
 have hbb : w.heap.size < w.heap.size + 1 := by omega
 go_wp2_with fail
 refine (xreadClasses_any w.heap.size (w.heap.size + 1) s _ _ w0 hs hR0 hbb (by omega)).mono ?_
 rintro en w1 ⟨rfl, hB1, v0, cs, j0, b0, hR1, hC1, hcl, hT1⟩
 obtain ⟨a0, cap0, hv0⟩ := hC1.len
 subst hv0
 have hz1 := hB1.size
 have hBF1 : But (fun k => k = w.heap.size ∨ w.heap.size + 1 ≤ k) w w1 := (hB0.mono (fun _ _ h => h.elim)).trans hB1
 clear hB0 hB1 hR0
 go_wp2_with fail
 refine (xreadMethods_any w.heap.size (w.heap.size + 1) s j0 b0 a0 cs.length cap0 _ w1 hs hcl hR1 hbb (by omega)).mono ?_
 rintro en w2 ⟨rfl, hB2, v1, ms, j1, b1, hR2, hM2, hml, hT2⟩
 obtain ⟨a1, cap1, hv1⟩ := owns_len hM2
 subst hv1
 have hC2 := hC1.but hB2 (fun g e cur _ _ hg h => by omega)
 have hz2 := hB2.size
 have hBF2 : But (fun k => k = w.heap.size ∨ w.heap.size + 1 ≤ k) w w2 := hBF1.next hB2 (fun _ _ h => Or.inl h)
 clear hB2 hR1 hC1 hBF1
 -- the classes, if there are any
 obtain ⟨SC, hSn, hcls⟩ : ∃ SC : List Cls, SC.length = cs.length ∧ ((b0 = false ∧ ∃ SC', clsP s 4 [] 0 = .ok (SC', j0) ∧ SC' = SC ∧ cs = SC.map toX ∧ WfC SC) ∨ (b0 = true ∧ clsP s 4 [] 0 = .error j0)) := by
  rcases hT1 with ⟨h1, SC, h2, h3, h4⟩ | h
  ·exact ⟨SC, by rw [h3, List.length_map], Or.inl ⟨h1, SC, h2, rfl, h3, h4⟩⟩
  ·exact ⟨List.replicate cs.length ⟨-1, []⟩, by simp, Or.inr h⟩
 have hgood : b1 = false → cs = SC.map toX ∧ WfC SC := by
  intro h
  rcases hT2 with ⟨_, h2⟩ | ⟨h2, _⟩
  ·rcases hcls with ⟨_, _, _, _, h3⟩ | ⟨h3, _⟩
   ·exact h3
   ·rw [h3] at h2; simp [sigB] at h2
  ·rw [h] at h2; cases h2
 obtain ⟨R, hRR⟩ : ∃ R, (if b1 = true then .error j1 else bodP s SC ms 6 [] j1) = R := ⟨_, rfl⟩
 have hstart : BodC (b1 = false) s SC ms R 6 [] j1 b1 := by
  cases b1 with
  | true => exact Or.inr ⟨rfl, hRR.symm⟩
  | false => exact Or.inl ⟨rfl, rfl, [], rfl, by simp, rfl, hRR⟩
 have HST := hid hstart
 have HGD := hid hgood
 have HFIN := hid (fun bs l X j2 j3 j4 b2 b3 b4 => read_fin (X := X) (bs := bs) (l := l) (j2 := j2) (j3 := j3) (j4 := j4) (b2 := b2) (b3 := b3) (b4 := b4) hcls hSn hT2 hRR)
 have HSN := hid hSn
 rw [← hSn] at hR2 hC2 hcl
 clear hstart hgood hT1 hT2 hcls hRR hSn
 go_wp2_with fail
 go_loopg [] 7 (fun mm wr => ∃ (a2 : Option Addr) (cap2 j : Nat) (bad' mn : Bool) (bs : List XBod) (x0 x1 x2 x3 x4 : Value), w.heap.size + 1 ≤ wr.heap.size ∧ But (fun k => k = w.heap.size ∨ w.heap.size + 1 ≤ k) w wr ∧ XrB wr w.heap.size s j bad' (.slice a0 SC.length cap0) (.slice a1 ms.length cap1) ⟨.slice a2 bs.length cap2, x0, x1, x2, x3, x4, mn⟩ ∧ TcV wr (w.heap.size + 1) (.slice a0 SC.length cap0) cs ∧ TmV wr (w.heap.size + 1) (.slice a1 ms.length cap1) ms ∧ TbV wr (w.heap.size + 1) (.slice a2 bs.length cap2) bs ∧ Hid ((mn = false ∧ bs.length ≤ 6 ∧ ∃ m1, mm = m1 + 1 ∧ BodC (b1 = false) s SC ms R m1 bs j bad') ∨ (mn = true ∧ ReadF s SC ms cs bs j bad')))
 case atStart => exact ⟨none, 0, j1, b1, false, [], _, _, _, _, _, by omega, hBF2, hR2, hC2, hM2, ⟨[], owns_nil _ _ _ _, rfl, by simp⟩, hid (Or.inl ⟨rfl, by simp, 6, rfl, HST.out⟩)⟩
 case round =>
  obtain ⟨a2, cap2, j, bad', mn, bs, x0, x1, x2, x3, x4, hzr, hBr, hRr, hCr, hMr, hTr, HBC⟩ := hrel
  by_cases hstop : mn = true ∨ bad' = true
  ·have hfin : ReadF s SC ms cs bs j bad' := by
    rcases HBC.out with ⟨h1, _, m1, _, hb⟩ | ⟨_, h⟩
    ·have hbt : bad' = true := by
      rcases hstop with h | h
      ·rw [h1] at h; cases h
      ·exact h
     subst hbt
     rcases hb with ⟨h, _⟩ | ⟨_, h⟩
     ·cases h
     ·have := HFIN.out bs [] ⟨0, 0, 0, [], []⟩ j j j true true true (Or.inr ⟨rfl, h⟩) (Or.inr ⟨rfl, by simp [tysB]⟩) (Or.inr ⟨rfl, by simp [codeB]⟩)
      rcases this with ⟨_, h⟩ | ⟨h, _⟩
      ·exact Or.inl ⟨by simp, h⟩
      ·simp at h
    ·exact h
   have HF := hid hfin
   have HNB := hid (xnextBody_stop w.heap.size s j bad' _ _ _ wr hRr hstop)
   clear hfin HBC HFIN HST HGD
   go_wp2_with fail
   refine HNB.out.mono ?_
   rintro en w3 ⟨rfl, k, rfl⟩
   clear HNB hstop
   go_wp2_with fail
   refine (xresult_any w.heap.size s j bad' _ _ _ (wr.drewN k) (hRr.drewN k)).mono ?_
   rintro en w4 ⟨hB4, hcs⟩
   have hBF4 : But (fun _ => False) w w4 := ((hBr.next (But.drewN (fun _ => False) wr k) (fun _ _ h => h.elim)).next hB4 (fun _ _ h => h.elim)).mono (fun k hk h => by omega)
   have hz4 : w.heap.size ≤ (wr.drewN k).heap.size := by show w.heap.size ≤ wr.heap.size; omega
   have hBk : But (fun _ => False) wr w4 := (But.drewN _ _ _).trans hB4
   unfold ResQ at hcs
   rcases hcs with ⟨hb, g, hg, rfl, hgg⟩ | ⟨hb, rfl⟩
   ·have HRD : Hid (readP s = .error j) := by
     rcases HF.out with ⟨_, h⟩ | ⟨h, _⟩
     ·exact hid h
     ·rw [hb] at h; cases h
    clear HF
    go_wp2_with fail
    exact bodyPost_ret (v := .tuple #[.pointer (some ⟨g, 0, none⟩), .int .i64 j]) (by simp [results, Tryz.results63, go_sem]) rfl ⟨hBF4, g, j, rfl, by omega, Or.inl ⟨j, HRD.out, rfl, hgg⟩⟩
   ·have hbl8 := hRr.lt
    have HRD : Hid (∃ im, readP s = .ok im ∧ TextX w4 w.heap.size im) := by
     rcases HF.out with ⟨h, _⟩ | ⟨_, im, hrd, him1, him2, him3, him4⟩
     ·rw [hb] at h; cases h
     ·have hC4 := hCr.but hBk (fun _ _ _ _ _ _ h => h)
      have hM4 := hMr.but hBk (fun _ _ _ _ _ _ h => h)
      have hT4 := hTr.but hBk (fun _ _ _ _ _ _ h => h)
      have hR4 := hRr.but hBk (fun h => h)
      refine hid ⟨im, hrd, ?_, ?_, ?_⟩
      ·rw [him1, ← him2]; exact hC4.tx hR4.c0 hR4.lt
      ·rw [him3]; exact hM4.tx hR4.c1 hR4.lt
      ·rw [him3, ← him4]; exact hT4.tx hR4.c2 hR4.lt
    clear HF
    go_wp2_with fail
    exact bodyPost_ret (v := .tuple #[.pointer (some ⟨w.heap.size, 0, none⟩), .int .i64 (-1)]) (by simp [results, Tryz.results63, go_sem]) rfl ⟨hBF4, w.heap.size, -1, rfl, Nat.le_refl _, Or.inr ⟨rfl, HRD.out⟩⟩
  ·have hmn : mn = false := by cases mn; rfl; exact absurd (Or.inl rfl) hstop
   have hbf : bad' = false := by cases bad'; rfl; exact absurd (Or.inr rfl) hstop
   subst hmn hbf
   obtain ⟨_, hbl, m1, hmm, hB1⟩ := HBC.out.resolve_right (fun h => by cases h.1)
   have HB1 := hid hB1
   clear hB1
   clear hstop HBC HST
   by_cases hgo : bs.length < 6 ∧ pk s j ≠ 59
   ·obtain ⟨hl6, hne⟩ := hgo
    obtain ⟨hG, BS, hBS, hsd, hB6, hnx⟩ := HB1.out.next hcl hl6 hne
    obtain ⟨hcsx, hwf⟩ := HGD.out hG
    have HNX := hid hnx
    have HCX := hid hcsx
    have HWF := hid hwf
    have HNB := hid (xnextBody_head w.heap.size (w.heap.size + 1) s j a0 a2 SC.length cap0 bs.length cap2 _ x0 x1 x2 x3 x4 wr ms BS (BS.map (toXB ms)) rfl hcl hml hB6 (fun b hb => Or.inr (hsd b hb)) hs hRr hMr (by rw [← hBS]; exact hTr) hbb hl6 hne)
    clear hne hnx hBS hsd hcsx hwf HB1
    go_wp2_with fail
    refine HNB.out.mono ?_
    rintro en w4 ⟨hB4, rfl, HQ4⟩
    obtain ⟨c, m, r, al, capl, lo, j4, bad4, hR4, hL4, hl4, hT4⟩ := HQ4
    clear HNB
    have hC4 := hCr.but hB4 (fun g e cur _ _ hg h => by omega)
    have hM4 := hMr.but hB4 (fun g e cur _ _ hg h => by omega)
    have hTb4 := hTr.but hB4 (fun g e cur _ _ hg h => by omega)
    have hBF4 : But (fun k => k = w.heap.size ∨ w.heap.size + 1 ≤ k) w w4 := hBr.next hB4 (fun _ _ h => Or.inl h)
    have hz4 := hB4.size
    have hL4' : BtB w4 (w.heap.size + 1) (.slice al lo.length capl) lo := World.ownsRow.mono hL4 (by omega)
    have HN4 := hid (HNX.out c m r lo j4 bad4 hT4)
    clear hT4 HNX
    have HIN := hid (xinstrs_any w.heap.size (w.heap.size + 1) s j4 bad4 SC a0 a1 al ms.length lo.length cap0 cap1 capl _ w4 (Or.inr ⟨HWF.out, by rw [← HCX.out]; exact hC4⟩) hcl hml (by omega) hs hR4 rfl hbb)
    go_wp2_with fail
    refine HIN.out.mono ?_
    rintro en w5 ⟨hB5, HQ5⟩
    obtain ⟨ai, capi, items, j5, bad5, m5, rfl, hR5, hI5, hil, hc5, hx5⟩ := HQ5
    have HF5 := hid (CodeC.fin hc5 hx5)
    have hC5 := hC4.but hB5 (fun g e cur _ _ hg h => by omega)
    have hM5 := hM4.but hB5 (fun g e cur _ _ hg h => by omega)
    have hTb5 := hTb4.but hB5 (fun g e cur _ _ hg h => by omega)
    have hL5 := hL4'.but hB5 (fun g hg h => by have := owns_ge hL4' g hg; omega)
    have hz5 := hB5.size
    clear hc5 hx5 HIN
    have HEN := hid (xendBody_any w.heap.size (w.heap.size + 1) w4.heap.size s j5 bad5 false _ _ _ a2 cap2 bs ⟨c, m, r, lo, items⟩ al ai capl capi w5 (by omega) hil hs hR5 hTb5 hL5 hI5 hbb (by omega) (by omega))
    go_wp2_with fail
    refine HEN.out.mono ?_
    rintro en w6 ⟨rfl, hB6', a6, cap6, vi6, hR6, hTb6⟩
    clear HEN
    obtain ⟨m', hm', hC'⟩ := HN4.out ⟨c, m, r, lo, items⟩ (tkP s 46 j5 bad5).1 (tkP s 46 j5 bad5).2 (by
     rcases HF5.out with ⟨h1, is, h2, h3⟩ | h
     ·exact Or.inl ⟨h1, is, h2, by rw [h3]⟩
     ·exact Or.inr h)
    have HC' := hid hC'
    have hge := hTb5.ge
    have hC6 := hC5.but hB6' (fun g e cur hh he hg h => by
     rcases h with h | h
     ·omega
     ·exact hTb5.apart hh (by rcases he with he | he <;> (rw [he]; decide)) h)
    have hM6 := hM5.but hB6' (fun g e cur hh he hg h => by
     rcases h with h | h
     ·omega
     ·exact hTb5.apart hh (by rw [he]; decide) h)
    have hBF6 : But (fun k => k = w.heap.size ∨ w.heap.size + 1 ≤ k) w w6 := (hBF4.next hB5 (fun _ _ h => Or.inl h)).next hB6' (fun k hk h => by
     rcases h with h | h
     ·exact Or.inl h
     ·exact Or.inr (hge k h))
    have hz6 := hB6'.size
    clear hC' HN4 HF5
    go_wp2_with fail
    go_roundg (m' + 1)
    case measure => omega
    case rel => exact ⟨a6, cap6, _, _, false, bs ++ [⟨c, m, r, lo, items⟩], _, _, _, _, _, by omega, hBF6, hR6, hC6, hM6, hTb6, hid (Or.inl ⟨rfl, by simp; omega, m', rfl, HC'.out⟩)⟩
   ·have hexit : ¬ bs.length < 6 ∨ pk s j = 59 := by
     by_cases h6 : bs.length < 6
     ·right
      by_cases hp : pk s j = 59
      ·exact hp
      ·exact absurd ⟨h6, hp⟩ hgo
     ·exact Or.inl h6
    have HBF := hid (HB1.out.fin (hexit.imp id (fun h => by simp [h])))
    have HNB := hid (xnextBody_main w.heap.size s j a0 a2 SC.length cap0 bs.length cap2 _ x0 x1 x2 x3 x4 wr hcl hs hRr hexit)
    clear hexit hgo HB1
    obtain ⟨TK, hTK⟩ : ∃ TK, tkP s 59 j false = TK := ⟨_, rfl⟩
    rw [hTK] at HBF HNB
    obtain ⟨j2, b2⟩ := TK
    dsimp only at HBF HNB
    have HF2 := hid (fun l X j3 j4 b3 b4 => HFIN.out bs l X j2 j3 j4 b2 b3 b4 HBF.out)
    have HG2 : Hid (b2 = true ∨ b1 = false) := by
     rcases HBF.out with ⟨_, h, _⟩ | ⟨h, _⟩
     ·exact hid (Or.inr h)
     ·exact hid (Or.inl h)
    clear hTK HBF HFIN
    go_wp2_with fail
    refine HNB.out.mono ?_
    rintro en w4 ⟨hB4, rfl, HQ4⟩
    obtain ⟨al, capl, lo, j4, bad4, hR4, hL4, hl4, hT4⟩ := HQ4
    clear HNB
    have hC4 := hCr.but hB4 (fun g e cur _ _ hg h => by omega)
    have hM4 := hMr.but hB4 (fun g e cur _ _ hg h => by omega)
    have hTb4 := hTr.but hB4 (fun g e cur _ _ hg h => by omega)
    have hBF4 : But (fun k => k = w.heap.size ∨ w.heap.size + 1 ≤ k) w w4 := hBr.next hB4 (fun _ _ h => Or.inl h)
    have hz4 := hB4.size
    have hL4' : BtB w4 (w.heap.size + 1) (.slice al lo.length capl) lo := World.ownsRow.mono hL4 (by omega)
    have hT4' := hT4
    rw [HSN.out] at hT4'
    have HF3 := hid (fun X j5 b5 => HF2.out lo X j4 j5 bad4 b5 hT4')
    have hG3 : bad4 = true ∨ (WfC SC ∧ TcV w4 (w.heap.size + 1) (.slice a0 SC.length cap0) (SC.map toX)) := by
     rcases HG2.out with h | h
     ·left
      rcases hT4 with ⟨_, h2⟩ | ⟨h2, _⟩
      ·rw [h] at h2; simp [tysB] at h2
      ·exact h2
     ·obtain ⟨h1, h2⟩ := HGD.out h
      exact Or.inr ⟨h2, by rw [← h1]; exact hC4⟩
    have HIN := hid (xinstrs_any w.heap.size (w.heap.size + 1) s j4 bad4 SC a0 a1 al ms.length lo.length cap0 cap1 capl _ w4 hG3 hcl hml (by omega) hs hR4 rfl hbb)
    clear hT4 hT4' HF2 HG2 hG3
    go_wp2_with fail
    refine HIN.out.mono ?_
    rintro en w5 ⟨hB5, HQ5⟩
    obtain ⟨ai, capi, items, j5, bad5, m5, rfl, hR5, hI5, hil, hc5, hx5⟩ := HQ5
    have HF5 := hid (CodeC.fin hc5 hx5)
    have hC5 := hC4.but hB5 (fun g e cur _ _ hg h => by omega)
    have hM5 := hM4.but hB5 (fun g e cur _ _ hg h => by omega)
    have hTb5 := hTb4.but hB5 (fun g e cur _ _ hg h => by omega)
    have hL5 := hL4'.but hB5 (fun g hg h => by have := owns_ge hL4' g hg; omega)
    have hz5 := hB5.size
    clear hc5 hx5 HIN
    have HEN := hid (xendBody_any w.heap.size (w.heap.size + 1) w4.heap.size s j5 bad5 true _ _ _ a2 cap2 bs ⟨45, 0, 105, lo, items⟩ al ai capl capi w5 (by omega) hil hs hR5 hTb5 hL5 hI5 hbb (by omega) (by omega))
    go_wp2_with fail
    refine HEN.out.mono ?_
    rintro en w6 ⟨rfl, hB6', a6, cap6, vi6, hR6, hTb6⟩
    clear HEN
    have HF6 : Hid (ReadF s SC ms cs (bs ++ [⟨45, 0, 105, lo, items⟩]) (tkP s 46 j5 bad5).1 (tkP s 46 j5 bad5).2) := by
     refine hid (HF3.out ⟨45, 0, 105, lo, items⟩ _ _ ?_)
     rcases HF5.out with ⟨h1, is, h2, h3⟩ | h
     ·exact Or.inl ⟨h1, is, h2, by rw [h3]⟩
     ·exact Or.inr h
    have hge := hTb5.ge
    have hC6 := hC5.but hB6' (fun g e cur hh he hg h => by
     rcases h with h | h
     ·omega
     ·exact hTb5.apart hh (by rcases he with he | he <;> (rw [he]; decide)) h)
    have hM6 := hM5.but hB6' (fun g e cur hh he hg h => by
     rcases h with h | h
     ·omega
     ·exact hTb5.apart hh (by rw [he]; decide) h)
    have hBF6 : But (fun k => k = w.heap.size ∨ w.heap.size + 1 ≤ k) w w6 := (hBF4.next hB5 (fun _ _ h => Or.inl h)).next hB6' (fun k hk h => by
     rcases h with h | h
     ·exact Or.inl h
     ·exact Or.inr (hge k h))
    have hz6 := hB6'.size
    clear HF3 HF5
    go_wp2_with fail
    go_roundg 0
    case measure => omega
    case rel => exact ⟨a6, cap6, _, _, true, bs ++ [⟨45, 0, 105, lo, items⟩], _, _, _, _, _, by omega, hBF6, hR6, hC6, hM6, hTb6, hid (Or.inr ⟨rfl, HF6.out⟩)⟩
end Go.Proofs.YtpfkkmacakjmbaaGreatDoor
/- The program's links are the document's. -/
namespace Go.Proofs.YtpfkkmacakjmbaaGreatDoor
open Go Go.RowKit Sp
set_option linter.unusedSimpArgs false
set_option linter.unusedVariables false
theorem SideOf {cs : List Cls} {gs : List Sig} {b : Bod} (h : WfB cs gs b) (hn : cs.length ≤ 4) : (b.cls = -1) ∨ SideB b := by
 rcases h.cls with ⟨h1, _⟩ | ⟨h1, h2, h3, h4⟩
 ·exact Or.inl h1
 ·exact Or.inr ⟨h1, by omega, h3⟩
theorem ofNat_kl {c : UInt8} {n : Nat} (h : isLet n c = true) (hn : n ≤ 4) : c = UInt8.ofNat (65 + (kl c).toNat) := by
 rw [← let_of h hn]
 congr 2
 unfold kl
 have : (UInt8.ofNat (65 + (c.toNat - 65))) = c := let_of h hn
 rw [this]
 omega
theorem letOf {n x : Nat} (h : x < n) (hn : n ≤ 4) : isLet n (UInt8.ofNat (65 + x)) = true ∧ kl (UInt8.ofNat (65 + x)) = x := by
 have hv : (UInt8.ofNat (65 + x)).toNat = 65 + x := by simp; omega
 constructor
 ·simp only [isLet, hv, Bool.and_eq_true, decide_eq_true_eq]; omega
 ·unfold kl; rw [hv]; omega
theorem bodyF_findF {cs : List Cls} {gs : List Sig} {BS : List Bod} (hw : WfC cs) (hn : cs.length ≤ 4) (hB : ∀ b ∈ BS, (b.cls = -1) ∨ SideB b) (m : Nat) :
  ∀ (f f' x : Nat), x < cs.length → x < f → x < f' → bodyF (cs.map toX) (BS.map (toXB gs)) m f (UInt8.ofNat (65 + x)) = findF cs BS m f' x := by
 intro f
 induction f with
 | zero => intro f' x _ h _; omega
 | succ f ih =>
  intro f' x hx h1 h2
  obtain ⟨g, rfl⟩ : ∃ g, f' = g + 1 := ⟨f' - 1, by omega⟩
  have hv : (UInt8.ofNat (65 + x)).toNat = 65 + x := by simp; omega
  have how := ownF_ownI (gs := gs) (m := m) hB (x := x) (by omega)
  rw [bodyF, if_neg (show ¬ (UInt8.ofNat (65 + x)).toNat = 45 by omega), how, findF, if_neg (show ¬ (x : Int) < 0 by omega)]
  split
  ·rfl
  ·obtain ⟨hl, hk⟩ := letOf hx hn
   have hp := parX_kl hw hn hl
   rw [hk] at hp
   have hlt := parOf_lt hw (p := (x : Int)) (by omega)
   rcases hp with ⟨e1, e2⟩ | ⟨e1, e2, e3⟩
   ·rw [e2]
    have e4 : ∀ k, bodyF (cs.map toX) (BS.map (toXB gs)) m k 45 = -1 := by
     intro k
     cases k with
     | zero => rfl
     | succ k => rw [bodyF]; simp
    have e5 : ∀ k, findF cs BS m k (parOf cs x) = -1 := by
     intro k
     cases k with
     | zero => rfl
     | succ k => rw [findF, if_pos e1]
    rw [e4, e5]
   ·have e6 := ofNat_kl e2 hn
    rw [e3] at e6
    rw [e6]
    have e7 : ((parOf cs x).toNat : Int) = parOf cs x := by omega
    have e8 : (parOf cs x).toNat < cs.length := by omega
    have := ih g (parOf cs x).toNat e8 (by omega) (by omega)
    rw [this, e7]
theorem brok_rel {cs : List Cls} {gs : List Sig} {BS : List Bod} {x : Ins} {nl n : Nat} (hw : WfC cs) (hn : cs.length ≤ 4) (hB : ∀ b ∈ BS, (b.cls = -1) ∨ SideB b) (hx : WfX cs gs.length nl x) : brokX (cs.map toX) (BS.map (toXB gs)) n (toXI x) = broken cs BS n x := by
 unfold brokX broken
 have e1 : (toXI x).op = x.op := rfl
 have e2 : (toXI x).num = x.b := rfl
 rw [e1, e2]
 by_cases h1 : x.op.toNat = 106 ∨ x.op.toNat = 102
 ·rw [if_pos h1]
  have h9 : ¬ x.op.toNat = 99 := by omega
  rcases h1 with h | h <;> simp [h]
 ·rw [if_neg h1]
  have h1' := not_or.1 h1
  by_cases h9 : x.op.toNat = 99
  ·rw [if_pos h9]
   have ha := hx.cls (by omega)
   have e3 : (toXI x).cls = UInt8.ofNat (65 + x.a) := by
    unfold toXI
    rw [if_pos (by omega)]
   rw [e3, List.length_map, bodyF_findF hw hn hB x.b cs.length 5 x.a ha ha (by omega)]
   simp [h9]
  ·rw [if_neg h9]
   simp [h9, h1'.1, h1'.2]
theorem find?_map' {α β : Type} (f : α → β) (p : β → Bool) : ∀ l : List α, (l.map f).find? p = (l.find? (fun x => p (f x))).map f := by
 intro l
 induction l with
 | nil => rfl
 | cons x l ih =>
  simp only [List.map_cons, List.find?_cons, ih]
  cases p (f x) <;> rfl
theorem find?_congr' {α : Type} {p q : α → Bool} : ∀ {l : List α}, (∀ x ∈ l, p x = q x) → l.find? p = l.find? q := by
 intro l
 induction l with
 | nil => intro _; rfl
 | cons x l ih =>
  intro h
  rw [List.find?_cons, List.find?_cons, h x (by simp), ih (fun y hy => h y (by simp [hy]))]
theorem findSome?_map' {α β γ : Type} (f : α → β) (p : β → Option γ) : ∀ l : List α, (l.map f).findSome? p = l.findSome? (fun x => p (f x)) := by
 intro l
 induction l with
 | nil => rfl
 | cons x l ih => simp only [List.map_cons, List.findSome?_cons, ih]
theorem findSome?_congr' {α γ : Type} {p q : α → Option γ} : ∀ {l : List α}, (∀ x ∈ l, p x = q x) → l.findSome? p = l.findSome? q := by
 intro l
 induction l with
 | nil => intro _; rfl
 | cons x l ih =>
  intro h
  rw [List.findSome?_cons, List.findSome?_cons, h x (by simp), ih (fun y hy => h y (by simp [hy]))]
theorem unl_rel {cs : List Cls} {gs : List Sig} {BS : List Bod} {c : List Ins} {nl : Nat} (hw : WfC cs) (hn : cs.length ≤ 4) (hB : ∀ b ∈ BS, (b.cls = -1) ∨ SideB b) (hx : ∀ x ∈ c, WfX cs gs.length nl x) : unlX (cs.map toX) (BS.map (toXB gs)) (c.map toXI) = unl cs BS c := by
 unfold unlX unl
 rw [List.length_map, find?_map', find?_congr' (fun x hm => brok_rel hw hn hB (hx x hm)), Option.map_map]
 rfl
theorem link_rel {im : Img} (hW : WfI im) : ((im.bodies.map (toXB im.sigs)).findSome? fun x => unlX (im.classes.map toX) (im.bodies.map (toXB im.sigs)) x.items) = im.bodies.findSome? (fun b => unl im.classes im.bodies b.code) := by
 rw [findSome?_map']
 refine findSome?_congr' (fun b hb => ?_)
 exact unl_rel hW.cls hW.nc (fun b hb => SideOf (hW.bod b hb) hW.nc) (hW.bod b hb).code
theorem xlink_any (b : Nat) (im : Img) (w : World) (hW : WfI im) (hT : TextX w b im) :
  Calls Tryz.prog 104 #[.pointer (some ⟨b, 0, none⟩)] w fun e w' => e = .returned (.int .i64 (placeI (im.bodies.findSome? (fun b => unl im.classes im.bodies b.code)))) ∧ But (fun _ => False) w w' := by
 rw [← link_rel hW]
 refine xbrokenLink_any b (im.classes.map toX) (im.bodies.map (toXB im.sigs)) w (by rw [List.length_map]; have := hW.nc; omega) (by rw [List.length_map]; have := hW.nb; omega) ?_ hT.cls hT.bod
 intro x hx
 obtain ⟨b, hb, rfl⟩ := List.mem_map.1 hx
 have := (hW.bod b hb).len.2
 simp only [toXB, List.length_map]
 omega
end Go.Proofs.YtpfkkmacakjmbaaGreatDoor
