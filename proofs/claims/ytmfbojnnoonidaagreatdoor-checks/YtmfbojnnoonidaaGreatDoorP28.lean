import Derived.Test.YtmfbojnnoonidaaGreatDoorP27
import Derived.Test.YtmfbojnnoonidaaGreatDoorP00
/- The program reads a body when it has failed; its reader at the start. -/
namespace Go.Proofs.YtmfbojnnoonidaaGreatDoor
open Go Go.RowKit Sp
set_option linter.unusedSimpArgs false
set_option linter.unusedVariables false
attribute [local go_sem ↓] Go.wp_at_zero Go.wp_at_succ

set_option maxHeartbeats 1600000 in
set_option maxRecDepth 100000 in
theorem xreadBody_bad (b base : Nat) (s : ByteArray) (i : Nat) (SC : List Cls) (a0 a1 a2 : Option Addr) (ng cap0 cap1 cap2 : Nat) (bs : List XBod) (c r : UInt8) (m : Nat) (al : Option Addr) (capl : Nat) (lo : List UInt8) (w : World)
    (hnc : SC.length ≤ 4) (hng : ng ≤ 3) (hnb : bs.length ≤ 6) (hlo : lo.length ≤ 5) (hs : s.size ≤ 2000)
    (hR : XrB w b s i true (.slice a0 SC.length cap0) (.slice a1 ng cap1) (.slice a2 bs.length cap2)) (hT : TbV w base (.slice a2 bs.length cap2) bs) (hl : BtB w base (.slice al lo.length capl) lo) (hb : b < base) (hbase : base ≤ w.heap.size) :
    Calls Tryz.prog 66 #[.pointer (some ⟨b, 0, none⟩), hdV c m r (.slice al lo.length capl) (.slice none 0 0)] w fun en w' => en = .returned (.tuple #[]) ∧ But (fun k => k = b ∨ (Value.slice a2 bs.length cap2).ownBlock = some k) w w' ∧
      ∃ a2' cap2' X j bad', XrB w' b s j bad' (.slice a0 SC.length cap0) (.slice a1 ng cap1) (.slice a2' (bs ++ [X]).length cap2') ∧ TbV w' base (.slice a2' (bs ++ [X]).length cap2') (bs ++ [X]) ∧ (XBod.items X).length ≤ 100 ∧
      ((bad' = false ∧ ∃ is, codeB s SC ng lo.length i true = .ok (is, j) ∧ X = ⟨c, m, r, lo, is.map toXI⟩) ∨ (bad' = true ∧ codeB s SC ng lo.length i true = .error j)) := by
  obtain ⟨R, hRR⟩ : ∃ R, codeB s SC ng lo.length i true = R := ⟨_, rfl⟩
  rw [hRR]
  have HRR := hid hRR
  clear hRR
  obtain ⟨i0, hi0, hz0, hz1, hz2⟩ := info_parts info_xit
  have hbw := hR.lt
  have hBW : But (fun _ => False) w (w.alloc (.cells (hdCells c m r (.slice al lo.length capl) (.slice none 0 0)) 108)) := But.alloc _ _ _
  have hgW := heap_alloc_new w (.cells (hdCells c m r (.slice al lo.length capl) (.slice none 0 0)) 108)
  have HT := hid (fun (w' : World) (h : But (· = b) w w') => hT.but h (fun g e cur _ _ hg he => by omega))
  have HL := hid (fun (w' : World) (h : But (· = b) w w') => hl.but h (fun g hg he => by have := owns_ge hl g hg; omega))
  clear hT hl
  unfold hdV hdCells at *
  go_enter Tryz.func66, Tryz.ntmps66
  go_wp2_with fail
  revert hBW hgW
  generalize (w.alloc (.cells #[.int .u8 c.toNat, .int .i64 m, .int .u8 r.toNat, .slice al lo.length capl, .slice none 0 0] 108)) = W
  intro hBW hgW
  have hRW := hR.but hBW (fun h => h)
  have hBW' : But (· = b) w W := hBW.mono (fun _ _ h => h.elim)
  have hgl := lt_of_block hgW
  have HGW := hid hgW
  clear hgW
  refine (xins_end b s i SC a0 a1 ng lo.length cap0 cap1 _ W true (Or.inl rfl) hnc hng (by omega) hs hRW).mono ?_
  rintro en w1 ⟨hB1, x, j1, bad1, rfl, hR1, hI1⟩
  have hb1 : bad1 = true := by
    rcases hI1 with ⟨_, y, h, _⟩ | ⟨h, _⟩
    · simp [insB] at h
    · exact h
  subst hb1
  have HCC := hid (CodeC.start HRR.out hI1)
  have hg1 := (hB1.block w.heap.size hgl (by omega)).trans HGW.out
  have hBw1 := hBW'.trans hB1
  clear hI1 HRR
  unfold itV
  go_wp2_with fail
  have hB2 : But (fun _ => False) w1 ((w1.alloc (.cells #[.int .i64 x.place, .int .u8 x.op.toNat, .int .u8 x.cls.toNat, .int .i64 x.num] 150)).alloc (.cells #[.int .i64 x.place, .int .u8 x.op.toNat, .int .u8 x.cls.toNat, .int .i64 x.num] 150)) := (But.alloc _ _ _).trans (But.alloc _ _ _)
  have hI2 : ItB ((w1.alloc (.cells #[.int .i64 x.place, .int .u8 x.op.toNat, .int .u8 x.cls.toNat, .int .i64 x.num] 150)).alloc (.cells #[.int .i64 x.place, .int .u8 x.op.toNat, .int .u8 x.cls.toNat, .int .i64 x.num] 150)) w1.heap.size (.slice (some ⟨w1.heap.size + 1, 0, none⟩) 1 1) [x] :=
    ⟨rfl, Or.inr ⟨w1.heap.size + 1, 1, _, rfl, by omega, heap_alloc_at (by simp) _, by simp, by unfold maxLen; omega, rfl, rfl⟩⟩
  revert hB2 hI2
  generalize ((w1.alloc (.cells #[.int .i64 x.place, .int .u8 x.op.toNat, .int .u8 x.cls.toNat, .int .i64 x.num] 150)).alloc (.cells #[.int .i64 x.place, .int .u8 x.op.toNat, .int .u8 x.cls.toNat, .int .i64 x.num] 150)) = w2
  intro hB2 hI2
  have hR2 := hR1.but hB2 (fun h => h)
  have hBw2 : But (· = b) w w2 := hBw1.next hB2 (fun _ _ h => h.elim)
  have hg2 := (hB2.block w.heap.size (lt_of_block hg1) (fun h => h)).trans hg1
  have HG2 := hid hg2
  have hz1' := hB1.size
  have hz2' := hB2.size
  clear hg2 hg1 hR1 hB2
  go_loopg [5] 0 (fun mm vs wr => vs = .slice (some ⟨w1.heap.size + 1, 0, none⟩) 1 1 ∧ wr = w2)
  case atStart => exact ⟨rfl, rfl⟩
  case round =>
    obtain ⟨rfl, hww⟩ := hrel
    subst hww
    have HF := hid (CodeC.fin HCC.out (Or.inl rfl))
    have hbv : (!true && !decide (pk s j1 = 46)) = false := rfl
    have hbef := xbefore_any b s j1 true _ _ _ wr 46 hR2
    rw [hbv] at hbef
    have HBF := hid hbef
    clear hbv hbef HCC
    have hI0 : ItB wr W.heap.size (.slice (some ⟨w1.heap.size + 1, 0, none⟩) 1 1) [x] := World.ownsRow.mono hI2 hz1'
    clear hI2
    go_wp2_with fail
    refine HBF.out.mono ?_
    rintro en w3 ⟨rfl, k, rfl⟩
    go_wp2_with fail
    refine (xtake_any b s j1 true _ _ _ _ 46 (by decide) hs (hR2.drewN k)).mono ?_
    rintro en w4 ⟨rfl, hB4, hR4⟩
    rw [tkP_no (Or.inl rfl)] at hR4 HF
    dsimp only at hR4
    have hBr2 : But (· = b) wr w4 := (But.drewN _ _ _).trans hB4
    have hBw4 : But (· = b) w w4 := hBw2.trans hBr2
    have hg4 := (hBr2.block w.heap.size (lt_of_block HG2.out) (by omega)).trans HG2.out
    have hI4 : ItB w4 W.heap.size (.slice (some ⟨w1.heap.size + 1, 0, none⟩) 1 1) [x] := owns_but hI0 hBr2 (fun g hg h => by have := owns_ge hI0 g hg; omega)
    obtain ⟨q0, q1, q2, q3, q4⟩ := row5 hg4
    have f4 : w4.frozen? ⟨w.heap.size, 4, none⟩ = false := frozen_of_row w4 w.heap.size 4 _ _ hg4
    have hB3 := But.setB w4 w.heap.size 4 (.slice (some ⟨w1.heap.size + 1, 0, none⟩) 1 1)
    have hR3 := hR4.but hB3 (by omega)
    have hBw3 : But (· = b) w (w4.setCell ⟨w.heap.size, 4, none⟩ (.slice (some ⟨w1.heap.size + 1, 0, none⟩) 1 1)) := hBw4.next hB3 (fun k hk h => by omega)
    have hI3 : ItB (w4.setCell ⟨w.heap.size, 4, none⟩ (.slice (some ⟨w1.heap.size + 1, 0, none⟩) 1 1)) base (.slice (some ⟨w1.heap.size + 1, 0, none⟩) 1 1) [x] := World.ownsRow.mono (owns_but hI4 hB3 (fun g hg h => by have := owns_ge hI4 g hg; omega)) (by omega)
    have hz3 := hBw3.size
    have hadd := xaddBody_any b base s j1 true _ _ a2 cap2 bs ⟨c, m, r, lo, [x]⟩ al (some ⟨w1.heap.size + 1, 0, none⟩) capl 1 _ (by omega) hR3 (HT.out _ hBw3) (HL.out _ hBw3) hI3 hb (by omega)
    have HADD := hid hadd
    have HB3 := hid hBw3
    clear hadd hI3 hR3 hB3 hBw3 hg4 hz3
    unfold hdV at HADD
    go_wp2_with fail
    refine HADD.out.mono ?_
    rintro en w5 ⟨rfl, hB5, a5, cap5, hR5, hT5⟩
    go_wp2_with fail
    go_end0
    refine ⟨rfl, (HB3.out.mono (fun _ _ h => Or.inl h)).trans hB5, a5, cap5, ⟨c, m, r, lo, [x]⟩, j1, true, hR5, hT5, by simp, ?_⟩
    rcases HF.out with ⟨h1, _⟩ | h
    · cases h1
    · exact Or.inr ⟨rfl, h.2⟩

theorem xreadBody_all (b base : Nat) (s : ByteArray) (i : Nat) (bad : Bool) (SC : List Cls) (a0 a1 a2 : Option Addr) (ng cap0 cap1 cap2 : Nat) (bs : List XBod) (c r : UInt8) (m : Nat) (al : Option Addr) (capl : Nat) (lo : List UInt8) (w : World)
    (hG : bad = true ∨ (WfC SC ∧ TcV w base (.slice a0 SC.length cap0) (SC.map toX))) (hnc : SC.length ≤ 4) (hng : ng ≤ 3) (hnb : bs.length ≤ 6) (hlo : lo.length ≤ 5) (hs : s.size ≤ 2000)
    (hR : XrB w b s i bad (.slice a0 SC.length cap0) (.slice a1 ng cap1) (.slice a2 bs.length cap2)) (hT : TbV w base (.slice a2 bs.length cap2) bs) (hl : BtB w base (.slice al lo.length capl) lo) (hb : b < base) (hbase : base ≤ w.heap.size) :
    Calls Tryz.prog 66 #[.pointer (some ⟨b, 0, none⟩), hdV c m r (.slice al lo.length capl) (.slice none 0 0)] w fun en w' => en = .returned (.tuple #[]) ∧ But (fun k => k = b ∨ (Value.slice a2 bs.length cap2).ownBlock = some k) w w' ∧
      ∃ a2' cap2' X j bad', XrB w' b s j bad' (.slice a0 SC.length cap0) (.slice a1 ng cap1) (.slice a2' (bs ++ [X]).length cap2') ∧ TbV w' base (.slice a2' (bs ++ [X]).length cap2') (bs ++ [X]) ∧ (XBod.items X).length ≤ 100 ∧
      ((bad' = false ∧ ∃ is, codeB s SC ng lo.length i bad = .ok (is, j) ∧ X = ⟨c, m, r, lo, is.map toXI⟩) ∨ (bad' = true ∧ codeB s SC ng lo.length i bad = .error j)) := by
  cases bad with
  | true => exact xreadBody_bad b base s i SC a0 a1 a2 ng cap0 cap1 cap2 bs c r m al capl lo w hnc hng hnb hlo hs hR hT hl hb hbase
  | false =>
    rcases hG with h | ⟨h1, h2⟩
    · cases h
    · exact xreadBody_any b base s i false SC a0 a1 a2 ng cap0 cap1 cap2 bs c r m al capl lo w h1 hnc hng hnb hlo hs hR h2 hT hl hb hbase

set_option maxHeartbeats 400000 in
theorem xnew_any (s : ByteArray) (w : World) :
    Calls Tryz.prog 61 #[.string s] w fun en w' => en = .returned (.pointer (some ⟨w.heap.size, 0, none⟩)) ∧ But (fun _ => False) w w' ∧ w.heap.size < w'.heap.size ∧ XrB w' w.heap.size s 0 false (.slice none 0 0) (.slice none 0 0) (.slice none 0 0) := by
  go_enter Tryz.func61, Tryz.ntmps61
  go_wp2
  go_ret
  exact ⟨rfl, But.alloc _ _ _, by simp, heap_alloc_new _ _⟩
end Go.Proofs.YtmfbojnnoonidaaGreatDoor
/- The program reads an image. -/
namespace Go.Proofs.YtmfbojnnoonidaaGreatDoor
open Go Go.RowKit Sp
set_option linter.unusedSimpArgs false
set_option linter.unusedVariables false
attribute [local go_sem ↓] Go.wp_at_zero Go.wp_at_succ

def BodC (Gd : Prop) (s : ByteArray) (cs : List Cls) (gs : List Sig) (R : Except Nat (List Bod × Nat)) (mm : Nat) (bs : List XBod) (j : Nat) (bad : Bool) : Prop :=
  (bad = false ∧ Gd ∧ ∃ BS, bs = BS.map (toXB gs) ∧ (∀ b ∈ BS, SideB b) ∧ BS.length + mm = 6 ∧ bodP s cs gs mm BS j = R) ∨ (bad = true ∧ R = .error j)

section
variable {Gd : Prop} {s : ByteArray} {cs : List Cls} {gs : List Sig} {R : Except Nat (List Bod × Nat)}

theorem bodP_step {k : Nat} {BS : List Bod} {i : Nat} (h : (pk s i).toNat ≠ 59) : bodP s cs gs (k + 1) BS i = match headP s cs.length gs BS i with
    | .error j => .error j
    | .ok ((x, m, t), p) =>
      match codeP s cs gs.length (t.length + 2) 100 [] p with
      | .error q => .error q
      | .ok (is, q) => bodP s cs gs k (BS ++ [⟨x, m, UInt8.ofNat (65 + x) :: argOf gs m :: t, is⟩]) q := by
  unfold headP
  rw [bodP, if_neg h]
  cases letP s cs.length i with
  | error j => rfl
  | ok y =>
    obtain ⟨x, j⟩ := y
    simp only
    cases digP s gs.length j with
    | error l => rfl
    | ok z =>
      obtain ⟨m, l⟩ := z
      simp only
      split
      · rfl
      · cases tys s cs.length 58 3 [] l with
        | error p => rfl
        | ok t =>
          obtain ⟨t, p⟩ := t
          simp only
          cases codeP s cs gs.length (t.length + 2) 100 [] p <;> rfl

theorem BodC.fin {mm : Nat} {bs : List XBod} {j : Nat} {bad : Bool} (h : BodC Gd s cs gs R mm bs j bad) (hx : ¬ bs.length < 6 ∨ (!bad && !decide (pk s j = 59)) = false) :
    ((tkP s 59 j bad).2 = false ∧ Gd ∧ ∃ BS, R = .ok (BS, (tkP s 59 j bad).1) ∧ bs = BS.map (toXB gs) ∧ ∀ b ∈ BS, SideB b) ∨ ((tkP s 59 j bad).2 = true ∧ R = .error (tkP s 59 j bad).1) := by
  rcases h with ⟨rfl, hG, BS, h1, h2, h3, h4⟩ | ⟨rfl, h2⟩
  · by_cases hp : pk s j = 59
    · left
      rw [tkP_ok hp]
      refine ⟨rfl, hG, BS, ?_, h1, h2⟩
      rw [← h4]
      cases mm <;> simp [bodP, hp]
    · right
      rw [tkP_no (Or.inr hp)]
      refine ⟨rfl, ?_⟩
      have hm : mm = 0 := by
        rcases hx with h | h
        · rw [h1, List.length_map] at h; omega
        · simp [hp] at h
      subst hm
      rw [← h4]
      have : (pk s j).toNat ≠ 59 := fun h => hp ((u8n (by decide)).1 h)
      simp [bodP, this]
  · right
    rw [tkP_no (Or.inl rfl)]
    exact ⟨rfl, h2⟩

theorem methX_arg {m : Nat} (h : m < gs.length) : (methX gs m).arg = argOf gs m := by
  unfold methX argOf
  rw [List.getElem?_eq_getElem h]
  rfl

/-- The next body: its head, then what is to be done. -/
theorem BodC.next {mm : Nat} {bs : List XBod} {j : Nat} (h : BodC Gd s cs gs R mm bs j false) (hnc : cs.length ≤ 4) (hl : bs.length < 6) (hp : pk s j ≠ 59) :
    Gd ∧ ∃ BS, bs = BS.map (toXB gs) ∧ (∀ b ∈ BS, SideB b) ∧ BS.length ≤ 6 ∧ ∀ c m r l j1 bad1, ((bad1 = false ∧ ∃ x t, headP s cs.length gs BS j = .ok ((x, m, t), j1) ∧ c = UInt8.ofNat (65 + x) ∧ x < cs.length ∧ m < gs.length ∧ r = (methX gs m).ret ∧ l = c :: (methX gs m).arg :: t) ∨ (bad1 = true ∧ headP s cs.length gs BS j = .error j1)) →
      ∀ X j2 bad2, ((bad2 = false ∧ ∃ is, codeB s cs gs.length l.length j1 bad1 = .ok (is, j2) ∧ X = ⟨c, m, r, l, is.map toXI⟩) ∨ (bad2 = true ∧ codeB s cs gs.length l.length j1 bad1 = .error j2)) →
      ∃ m', m' < mm ∧ BodC Gd s cs gs R m' (bs ++ [X]) j2 bad2 := by
  rcases h with ⟨_, hG, BS, h1, h2, h3, h4⟩ | ⟨h, _⟩
  · have hlb : BS.length < 6 := by rw [h1, List.length_map] at hl; exact hl
    refine ⟨hG, BS, h1, h2, by omega, ?_⟩
    intro c m r l j1 bad1 hh X j2 bad2 hc
    obtain ⟨f, rfl⟩ : ∃ f, mm = f + 1 := ⟨mm - 1, by omega⟩
    have hne : (pk s j).toNat ≠ 59 := fun h => hp ((u8n (by decide)).1 h)
    rw [bodP_step hne] at h4
    rcases hh with ⟨rfl, x, t, e1, e2, e3, e4, e5, e6⟩ | ⟨rfl, e1⟩
    · rw [e1] at h4
      simp only at h4
      unfold codeB at hc
      simp only [Bool.false_eq_true, if_false] at hc
      rw [show l.length = t.length + 2 from by rw [e6]; rfl] at hc
      rcases hc with ⟨rfl, is, c1, c2⟩ | ⟨rfl, c1⟩
      · rw [c1] at h4
        refine ⟨f, by omega, Or.inl ⟨rfl, hG, BS ++ [⟨x, m, UInt8.ofNat (65 + x) :: argOf gs m :: t, is⟩], ?_, ?_, by simp; omega, h4⟩⟩
        · rw [h1, List.map_append, c2]
          simp only [List.map_cons, List.map_nil, toXB]
          congr 2
          rw [e6, e5, e2, methX_arg e4]
          have hx0 : ¬ ((x : Int) < 0) := by omega
          simp [hx0]
        · intro b hb
          rcases List.mem_append.1 hb with hb | hb
          · exact h2 b hb
          · simp at hb
            subst hb
            exact ⟨by simp, by simp; omega, by simp⟩
      · rw [c1] at h4
        exact ⟨0, by omega, Or.inr ⟨rfl, h4.symm⟩⟩
    · rw [e1] at h4
      simp only at h4
      unfold codeB at hc
      simp only [if_true] at hc
      rcases hc with ⟨_, is, c1, _⟩ | ⟨rfl, c1⟩
      · cases c1
      · cases c1
        exact ⟨0, by omega, Or.inr ⟨rfl, h4.symm⟩⟩
  · cases h
end

/-- The text that an image comes to lies at the head of block b. -/
structure TextX (w : World) (b : Nat) (im : Img) : Prop where
  cls : TxC w b (im.classes.map toX)
  met : TxM w b im.sigs
  bod : TxB w b (im.bodies.map (toXB im.sigs))

theorem read_fin {s : ByteArray} {SC : List Cls} {n : Nat} {ms : List Sig} {cs : List XCls} {bs : List XBod} {l : List UInt8} {X : XBod} {j0 j1 j2 j3 j4 : Nat} {b0 b1 b2 b3 b4 : Bool} {R : Except Nat (List Bod × Nat)}
    (hcls : (b0 = false ∧ ∃ SC', clsP s 4 [] 0 = .ok (SC', j0) ∧ SC' = SC ∧ cs = SC.map toX ∧ WfC SC) ∨ (b0 = true ∧ clsP s 4 [] 0 = .error j0)) (hn : SC.length = n)
    (hsig : (b1 = false ∧ sigB s n j0 b0 = .ok (ms, j1)) ∨ (b1 = true ∧ sigB s n j0 b0 = .error j1))
    (hR : (if b1 = true then .error j1 else bodP s SC ms 6 [] j1) = R)
    (hbod : (b2 = false ∧ (b1 = false) ∧ ∃ BS, R = .ok (BS, j2) ∧ bs = BS.map (toXB ms) ∧ ∀ b ∈ BS, SideB b) ∨ (b2 = true ∧ R = .error j2))
    (hmain : (b3 = false ∧ tysB s n 58 3 j2 b2 = .ok (l, j3)) ∨ (b3 = true ∧ tysB s n 58 3 j2 b2 = .error j3))
    (hcode : (b4 = false ∧ ∃ is, codeB s SC ms.length l.length j3 b3 = .ok (is, j4) ∧ X = ⟨45, 0, 105, l, is.map toXI⟩) ∨ (b4 = true ∧ codeB s SC ms.length l.length j3 b3 = .error j4)) :
    ((b4 || decide (j4 < s.size)) = true ∧ readP s = .error j4) ∨ ((b4 || decide (j4 < s.size)) = false ∧ ∃ im, readP s = .ok im ∧ im.classes = SC ∧ cs = SC.map toX ∧ im.sigs = ms ∧ bs ++ [X] = im.bodies.map (toXB ms)) := by
  unfold readP
  rcases hcls with ⟨rfl, SC', hc, rfl, hcs, hwf⟩ | ⟨rfl, hc⟩
  · rw [hc]
    simp only
    unfold sigB at hsig
    simp only [Bool.false_eq_true, if_false] at hsig
    rw [hn]
    rcases hsig with ⟨rfl, hsg⟩ | ⟨rfl, hsg⟩
    · rw [hsg]
      simp only
      simp only [Bool.false_eq_true, if_false] at hR
      rw [hR]
      rcases hbod with ⟨rfl, _, BS, hb, hbs, _⟩ | ⟨rfl, hb⟩
      · rw [hb]
        simp only
        unfold tysB at hmain
        simp only [Bool.false_eq_true, if_false] at hmain
        rcases hmain with ⟨rfl, hm⟩ | ⟨rfl, hm⟩
        · rw [hm]
          simp only
          unfold codeB at hcode
          simp only [Bool.false_eq_true, if_false] at hcode
          rcases hcode with ⟨rfl, is, hcd, hX⟩ | ⟨rfl, hcd⟩
          · rw [hcd]
            simp only
            by_cases hlt : j4 < s.size
            · left
              rw [if_pos hlt]
              exact ⟨by simp [hlt], rfl⟩
            · right
              rw [if_neg hlt]
              refine ⟨by simp [hlt], _, rfl, rfl, hcs, rfl, ?_⟩
              rw [hbs, hX, List.map_append]
              rfl
          · rw [hcd]
            exact Or.inl ⟨rfl, rfl⟩
        · rw [hm]
          unfold codeB at hcode
          simp only [if_true] at hcode
          rcases hcode with ⟨_, is, hcd, _⟩ | ⟨rfl, hcd⟩
          · cases hcd
          · cases hcd
            exact Or.inl ⟨rfl, rfl⟩
      · rw [hb]
        unfold tysB at hmain
        simp only [if_true] at hmain
        rcases hmain with ⟨_, hm⟩ | ⟨rfl, hm⟩
        · cases hm
        · cases hm
          unfold codeB at hcode
          simp only [if_true] at hcode
          rcases hcode with ⟨_, is, hcd, _⟩ | ⟨rfl, hcd⟩
          · cases hcd
          · cases hcd
            exact Or.inl ⟨rfl, rfl⟩
    · rw [hsg]
      simp only [if_true] at hR
      subst hR
      rcases hbod with ⟨_, h, _⟩ | ⟨rfl, hb⟩
      · cases h
      · cases hb
        unfold tysB at hmain
        simp only [if_true] at hmain
        rcases hmain with ⟨_, hm⟩ | ⟨rfl, hm⟩
        · cases hm
        · cases hm
          unfold codeB at hcode
          simp only [if_true] at hcode
          rcases hcode with ⟨_, is, hcd, _⟩ | ⟨rfl, hcd⟩
          · cases hcd
          · cases hcd
            exact Or.inl ⟨rfl, rfl⟩
  · rw [hc]
    unfold sigB at hsig
    simp only [if_true] at hsig
    rcases hsig with ⟨_, h⟩ | ⟨rfl, hsg⟩
    · cases h
    · cases hsg
      simp only [if_true] at hR
      subst hR
      rcases hbod with ⟨_, h, _⟩ | ⟨rfl, hb⟩
      · cases h
      · cases hb
        unfold tysB at hmain
        simp only [if_true] at hmain
        rcases hmain with ⟨_, hm⟩ | ⟨rfl, hm⟩
        · cases hm
        · cases hm
          unfold codeB at hcode
          simp only [if_true] at hcode
          rcases hcode with ⟨_, is, hcd, _⟩ | ⟨rfl, hcd⟩
          · cases hcd
          · cases hcd
            exact Or.inl ⟨rfl, rfl⟩
end Go.Proofs.YtmfbojnnoonidaaGreatDoor
/- A region that draws its order, walked in an order of our choice. -/
namespace Go.Proofs.YtmfbojnnoonidaaGreatDoor
open Go

section
variable {P : Program} {ops : Array Oper} {Q : Exit → Act → World → Prop} {S : World → Prop} {p : Nat}

/-- The operations of L have come up. -/
def has (n : Nat) (L : List Nat) : Array Bool := ((List.range n).map fun i => L.contains i).toArray
theorem has_set (n k : Nat) (L : List Nat) : (has n L).setIfInBounds k true = has n (k :: L) := by
  unfold has
  apply Array.ext
  · simp
  · intro i h1 h2
    by_cases h : k = i
    · subst h; simp
    · rw [Array.getElem_setIfInBounds_ne (by simpa using h1) h]
      have h' : ¬ i = k := fun e => h e.symm
      simp [h']
theorem has_nil (n : Nat) : Array.replicate n false = has n [] := by
  unfold has
  apply Array.ext
  · simp
  · intro i h1 h2; simp

def takeOkL (ops : Array Oper) (p : Nat) (L : List Nat) (k : Nat) : Bool :=
  decide (k < p) && Region.noSelect ops && Region.free .any ops (has ops.size L) k && (Region.ready .any ops (has ops.size L)).contains k &&
  (List.range ops.size).all fun j => decide (j < p) || match ops[j]? with
    | some oj => oj.after.any fun e => Region.binds .any e && e.on == k
    | none => true

def wpP (P : Program) (ops : Array Oper) (Q : Exit → Act → World → Prop) (S : World → Prop) (p : Nat) (L : List Nat) (a : Act) (w : World) : Prop :=
  wpTL P ops Q S p (ops.size - L.length) (has ops.size L) a w

theorem wpP_begin {id : Nat} {a : Act} {w : World} (S : World → Prop) (p : Nat) (hm : P.follows .mixedOrders = true) (h : wpP P ops Q S p [] a w.drew) : (Code.region id ops true).wp P Q a w := by
  refine wp_region_any hm (wpAny_of_TL (S := S) (p := p) _ _ _ _ ?_)
  rw [has_nil]
  exact h

theorem wpP_take {k : Nat} {L : List Nat} {o : Oper} {v : Value} {a : Act} {w : World} (ho : ops[k]? = some o) (hl : L.length < ops.size) (hc : takeOkL ops p L k = true)
    (hQ : ∀ c a w, Q (.panic c) (a.put o.dst v) w → Q (.panic c) a w)
    (hw : Region.wanted o (yielded ops a.tmps) = true) (hS : S w) (hy : ∀ w, S w → (execOp a.eval o).run P w = .ok (.value v) w) (h : wpP P ops Q S p (k :: L) (a.put o.dst v) w) : wpP P ops Q S p L a w := by
  unfold takeOkL at hc
  simp only [Bool.and_eq_true, decide_eq_true_eq, List.all_eq_true, List.mem_range] at hc
  obtain ⟨⟨⟨⟨hkp, hns⟩, hfr⟩, hrd⟩, hwt⟩ := hc
  unfold wpP at *
  rw [show ops.size - L.length = (ops.size - (k :: L).length) + 1 from by simp; omega]
  refine wpTL_first ho hkp (Region.noSelect_spec hns) ?_ hQ _ _ a w (Region.free_spec ho hfr) (by simpa using hrd) (Or.inl ⟨hw, hy⟩) hS (by rw [has_set]; exact h)
  intro j oj hj hpj
  have hjs : j < ops.size := (Array.getElem?_eq_some_iff.1 hj).1
  have := hwt j hjs
  rw [hj] at this
  simp only [Bool.or_eq_true, decide_eq_true_eq, Array.any_eq_true, Bool.and_eq_true, beq_iff_eq] at this
  rcases this with h1 | ⟨i, hi, h1, h2⟩
  · omega
  · exact ⟨oj.after[i], Array.getElem_mem hi, h1, h2⟩

theorem wpP_step {k : Nat} {L : List Nat} {o : Oper} {a : Act} {w : World} (ho : ops[k]? = some o) (hl : L.length < ops.size) (hr : Region.ready .any ops (has ops.size L) = [k])
    (h : ∀ K' : Act → World → Prop, Go.Shut (∀ a w, (k < p → S w) → wpP P ops Q S p (k :: L) a w → K' a w) → if Region.wanted o (yielded ops a.tmps) = true then Oper.wp P o a w K' Q else K' (a.put o.dst undef) w) : wpP P ops Q S p L a w := by
  unfold wpP
  rw [show ops.size - L.length = (ops.size - (k :: L).length) + 1 from by simp; omega]
  refine ⟨fun h => (by rw [hr] at h; cases h), fun i hi => ?_⟩
  rw [hr] at hi
  simp at hi
  subst hi
  exact wpOp_step ho (fun K' hK => h K' (fun a w hS hW => hK a w ⟨hS, by rw [has_set]; exact hW⟩))

theorem wpP_two {k1 k2 : Nat} {L : List Nat} {o1 o2 : Oper} {a : Act} {w : World} (ho1 : ops[k1]? = some o1) (ho2 : ops[k2]? = some o2) (hl : L.length < ops.size) (hr : Region.ready .any ops (has ops.size L) = [k1, k2])
    (h1 : ∀ K' : Act → World → Prop, Go.Shut (∀ a w, (k1 < p → S w) → wpP P ops Q S p (k1 :: L) a w → K' a w) → if Region.wanted o1 (yielded ops a.tmps) = true then Oper.wp P o1 a w K' Q else K' (a.put o1.dst undef) w)
    (h2 : ∀ K' : Act → World → Prop, Go.Shut (∀ a w, (k2 < p → S w) → wpP P ops Q S p (k2 :: L) a w → K' a w) → if Region.wanted o2 (yielded ops a.tmps) = true then Oper.wp P o2 a w K' Q else K' (a.put o2.dst undef) w) : wpP P ops Q S p L a w := by
  unfold wpP
  rw [show ops.size - L.length = (ops.size - (L.length + 1)) + 1 from by omega]
  refine ⟨fun h => (by rw [hr] at h; cases h), fun i hi => ?_⟩
  rw [hr] at hi
  simp only [List.mem_cons, List.not_mem_nil, or_false] at hi
  rcases hi with rfl | rfl
  · exact wpOp_step ho1 (fun K' hK => h1 K' (fun a w hS hW => hK a w ⟨hS, by rw [has_set]; exact hW⟩))
  · exact wpOp_step ho2 (fun K' hK => h2 K' (fun a w hS hW => hK a w ⟨hS, by rw [has_set]; exact hW⟩))

theorem wpP_three {k1 k2 k3 : Nat} {L : List Nat} {o1 o2 o3 : Oper} {a : Act} {w : World} (ho1 : ops[k1]? = some o1) (ho2 : ops[k2]? = some o2) (ho3 : ops[k3]? = some o3) (hl : L.length < ops.size) (hr : Region.ready .any ops (has ops.size L) = [k1, k2, k3])
    (h1 : ∀ K' : Act → World → Prop, Go.Shut (∀ a w, (k1 < p → S w) → wpP P ops Q S p (k1 :: L) a w → K' a w) → if Region.wanted o1 (yielded ops a.tmps) = true then Oper.wp P o1 a w K' Q else K' (a.put o1.dst undef) w)
    (h2 : ∀ K' : Act → World → Prop, Go.Shut (∀ a w, (k2 < p → S w) → wpP P ops Q S p (k2 :: L) a w → K' a w) → if Region.wanted o2 (yielded ops a.tmps) = true then Oper.wp P o2 a w K' Q else K' (a.put o2.dst undef) w)
    (h3 : ∀ K' : Act → World → Prop, Go.Shut (∀ a w, (k3 < p → S w) → wpP P ops Q S p (k3 :: L) a w → K' a w) → if Region.wanted o3 (yielded ops a.tmps) = true then Oper.wp P o3 a w K' Q else K' (a.put o3.dst undef) w) : wpP P ops Q S p L a w := by
  unfold wpP
  rw [show ops.size - L.length = (ops.size - (L.length + 1)) + 1 from by omega]
  refine ⟨fun h => (by rw [hr] at h; cases h), fun i hi => ?_⟩
  rw [hr] at hi
  simp only [List.mem_cons, List.not_mem_nil, or_false] at hi
  rcases hi with rfl | rfl | rfl
  · exact wpOp_step ho1 (fun K' hK => h1 K' (fun a w hS hW => hK a w ⟨hS, by rw [has_set]; exact hW⟩))
  · exact wpOp_step ho2 (fun K' hK => h2 K' (fun a w hS hW => hK a w ⟨hS, by rw [has_set]; exact hW⟩))
  · exact wpOp_step ho3 (fun K' hK => h3 K' (fun a w hS hW => hK a w ⟨hS, by rw [has_set]; exact hW⟩))

theorem wpP_done {L : List Nat} {a : Act} {w : World} (hl : L.length = ops.size) (hr : Region.ready .any ops (has ops.size L) = []) (h : Q .normal a w) : wpP P ops Q S p L a w := by
  unfold wpP
  rw [hl, Nat.sub_self]
  exact ⟨hr, h⟩
end
end Go.Proofs.YtmfbojnnoonidaaGreatDoor
/- The program reads an image: the walk. -/
namespace Go.Proofs.YtmfbojnnoonidaaGreatDoor
open Go Go.RowKit Sp
set_option linter.unusedSimpArgs false
set_option linter.unusedVariables false
attribute [local go_sem ↓] Go.wp_at_zero Go.wp_at_succ

theorem TbV.apart {w : World} {base : Nat} {v : Value} {bs : List XBod} (h : TbV w base v bs) {g e : Nat} {cur : Array Value} (hh : w.heap[g]? = some (.cells cur e)) (hne : e ≠ 108) : ¬ v.ownBlock = some g := by
  obtain ⟨l, h1, _⟩ := h
  exact owns_apart h1 hh hne
theorem TbV.ge {w : World} {base : Nat} {v : Value} {bs : List XBod} (h : TbV w base v bs) : ∀ g, v.ownBlock = some g → base ≤ g := by
  obtain ⟨l, h1, _⟩ := h
  exact owns_ge h1

set_option maxHeartbeats 3200000 in
set_option maxRecDepth 100000 in
theorem xread_any (s : ByteArray) (w : World) (hs : s.size ≤ 2000) :
    Calls Tryz.prog 35 #[.string s] w fun en w' => But (fun _ => False) w w' ∧ ∃ g p, en = .returned (.tuple #[.pointer (some ⟨g, 0, none⟩), .int .i64 p]) ∧ w.heap.size ≤ g ∧
      ((∃ j, readP s = .error j ∧ p = (j : Int)) ∨ (p = -1 ∧ ∃ im, readP s = .ok im ∧ TextX w' g im)) := by
  go_enter Tryz.func35, Tryz.ntmps35
  go_wp2_with fail
  refine (xnew_any s w).mono ?_
  rintro en w0 ⟨rfl, hB0, hz0, hR0⟩
  have hbb : w.heap.size < w.heap.size + 1 := by omega
  go_wp2_with fail
  refine (xreadClasses_any w.heap.size (w.heap.size + 1) s _ _ w0 hs hR0 hbb (by omega)).mono ?_
  rintro en w1 ⟨rfl, hB1, v0, cs, j0, b0, hR1, hC1, hcl, hT1⟩
  obtain ⟨a0, cap0, hv0⟩ := hC1.len
  subst hv0
  have hz1 := hB1.size
  have hBF1 : But (fun k => k = w.heap.size ∨ w.heap.size + 1 ≤ k) w w1 := (hB0.mono (fun _ _ h => h.elim)).trans hB1
  clear hB0 hB1 hR0
  go_wp2_with fail
  refine (xreadMethods_any w.heap.size (w.heap.size + 1) s j0 b0 a0 cs.length cap0 _ w1 hs hcl hR1 hbb (by omega)).mono ?_
  rintro en w2 ⟨rfl, hB2, v1, ms, j1, b1, hR2, hM2, hml, hT2⟩
  obtain ⟨a1, cap1, hv1⟩ := owns_len hM2
  subst hv1
  have hC2 := hC1.but hB2 (fun g e cur _ _ hg h => by omega)
  have hz2 := hB2.size
  have hBF2 : But (fun k => k = w.heap.size ∨ w.heap.size + 1 ≤ k) w w2 := hBF1.next hB2 (fun _ _ h => Or.inl h)
  clear hB2 hR1 hC1 hBF1
  -- the classes, if there are any
  obtain ⟨SC, hSn, hcls⟩ : ∃ SC : List Cls, SC.length = cs.length ∧ ((b0 = false ∧ ∃ SC', clsP s 4 [] 0 = .ok (SC', j0) ∧ SC' = SC ∧ cs = SC.map toX ∧ WfC SC) ∨ (b0 = true ∧ clsP s 4 [] 0 = .error j0)) := by
    rcases hT1 with ⟨h1, SC, h2, h3, h4⟩ | h
    · exact ⟨SC, by rw [h3, List.length_map], Or.inl ⟨h1, SC, h2, rfl, h3, h4⟩⟩
    · exact ⟨List.replicate cs.length ⟨-1, []⟩, by simp, Or.inr h⟩
  have hgood : b1 = false → cs = SC.map toX ∧ WfC SC := by
    intro h
    rcases hT2 with ⟨_, h2⟩ | ⟨h2, _⟩
    · rcases hcls with ⟨_, _, _, _, h3⟩ | ⟨h3, _⟩
      · exact h3
      · rw [h3] at h2; simp [sigB] at h2
    · rw [h] at h2; cases h2
  obtain ⟨R, hRR⟩ : ∃ R, (if b1 = true then .error j1 else bodP s SC ms 6 [] j1) = R := ⟨_, rfl⟩
  have hstart : BodC (b1 = false) s SC ms R 6 [] j1 b1 := by
    cases b1 with
    | true => exact Or.inr ⟨rfl, hRR.symm⟩
    | false => exact Or.inl ⟨rfl, rfl, [], rfl, by simp, rfl, hRR⟩
  have HST := hid hstart
  have HGD := hid hgood
  have HFIN := hid (fun bs l X j2 j3 j4 b2 b3 b4 => read_fin (X := X) (bs := bs) (l := l) (j2 := j2) (j3 := j3) (j4 := j4) (b2 := b2) (b3 := b3) (b4 := b4) hcls hSn hT2 hRR)
  have HSN := hid hSn
  rw [← hSn] at hR2 hC2 hcl
  clear hstart hgood hT1 hT2 hcls hRR hSn
  go_wp2_with fail
  go_loopg [] 6 (fun mm wr => ∃ (a2 : Option Addr) (cap2 j : Nat) (bad' : Bool) (bs : List XBod), bs.length ≤ 6 ∧ w.heap.size + 1 ≤ wr.heap.size ∧ But (fun k => k = w.heap.size ∨ w.heap.size + 1 ≤ k) w wr ∧ XrB wr w.heap.size s j bad' (.slice a0 SC.length cap0) (.slice a1 ms.length cap1) (.slice a2 bs.length cap2) ∧ TcV wr (w.heap.size + 1) (.slice a0 SC.length cap0) cs ∧ TmV wr (w.heap.size + 1) (.slice a1 ms.length cap1) ms ∧ TbV wr (w.heap.size + 1) (.slice a2 bs.length cap2) bs ∧ Hid (BodC (b1 = false) s SC ms R mm bs j bad'))
  case atStart => exact ⟨none, 0, j1, b1, [], by simp, by omega, hBF2, hR2, hC2, hM2, ⟨[], owns_nil _ _ _ _, rfl, by simp⟩, HST.out⟩
  case round =>
    obtain ⟨a2, cap2, j, bad', bs, hbl, hzr, hBr, hRr, hCr, hMr, hTr, HBC⟩ := hrel
    have hmb := xmoreBodies_any w.heap.size s j bad' _ _ a2 bs.length cap2 wr hRr
    by_cases hgo : bs.length < 6 ∧ bad' = false ∧ pk s j ≠ 59
    · obtain ⟨hl6, rfl, hne⟩ := hgo
      rw [show (decide (bs.length < 6) && (!false && !decide (pk s j = 59))) = true from by simp [hl6, hne]] at hmb
      have HMB := hid hmb
      obtain ⟨hG, BS, hBS, hsd, hB6, hnx⟩ := HBC.out.next hcl hl6 hne
      obtain ⟨hcsx, hwf⟩ := HGD.out hG
      have HNX := hid hnx
      have HBS := hid hBS
      have HSD : Hid (∀ b ∈ BS, (b.cls = -1) ∨ SideB b) := hid (fun b hb => Or.inr (hsd b hb))
      have HCX := hid hcsx
      have HWF := hid hwf
      clear hmb hne hnx hBS hsd hcsx hwf HBC
      go_wp2_with fail
      refine HMB.out.mono ?_
      rintro en w3 ⟨rfl, k, rfl⟩
      go_wp2_with fail
      have hhd := xhead_any w.heap.size (w.heap.size + 1) s j a0 SC.length cap0 _ _ (wr.drewN k) ms BS hcl hml hB6 HSD.out hs (hRr.drewN k) (hMr.but (But.drewN (fun _ => False) _ _) (fun _ _ _ _ _ _ h => h)) (by rw [← HBS.out]; exact hTr.but (But.drewN (fun _ => False) _ _) (fun _ _ _ _ _ _ h => h)) hbb
      refine hhd.mono ?_
      rintro en w4 ⟨hB4, c, m, r, al, capl, lo, j4, bad4, rfl, hR4, hL4, hl4, hT4⟩
      clear hhd
      have hBr4 : But (· = w.heap.size) wr w4 := (But.drewN _ _ _).trans hB4
      have hC4 := hCr.but hBr4 (fun g e cur _ _ hg h => by omega)
      have hM4 := hMr.but hBr4 (fun g e cur _ _ hg h => by omega)
      have hTb4 := hTr.but hBr4 (fun g e cur _ _ hg h => by omega)
      have hBF4 : But (fun k => k = w.heap.size ∨ w.heap.size + 1 ≤ k) w w4 := hBr.next hBr4 (fun _ _ h => Or.inl h)
      have hz4 := hBr4.size
      have hL4' : BtB w4 (w.heap.size + 1) (.slice al lo.length capl) lo := World.ownsRow.mono hL4 (by show w.heap.size + 1 ≤ wr.heap.size; omega)
      have HN4 := hid (HNX.out c m r lo j4 bad4 hT4)
      clear hT4 HNX
      unfold hdV
      go_wp2_with fail
      have hB5 : But (fun _ => False) w4 (w4.alloc (.cells #[.int .u8 c.toNat, .int .i64 m, .int .u8 r.toNat, .slice al lo.length capl, .slice none 0 0] 108)) := But.alloc _ _ _
      revert hB5
      generalize (w4.alloc (.cells #[.int .u8 c.toNat, .int .i64 m, .int .u8 r.toNat, .slice al lo.length capl, .slice none 0 0] 108)) = w5
      intro hB5
      have hR5 := hR4.but hB5 (fun h => h)
      have hC5 := hC4.but hB5 (fun _ _ _ _ _ _ h => h)
      have hM5 := hM4.but hB5 (fun _ _ _ _ _ _ h => h)
      have hTb5 := hTb4.but hB5 (fun _ _ _ _ _ _ h => h)
      have hL5 := hL4'.but hB5 (fun _ _ h => h)
      have hz5 := hB5.size
      have hrb := xreadBody_all w.heap.size (w.heap.size + 1) s j4 bad4 SC a0 a1 a2 ms.length cap0 cap1 cap2 bs c r m al capl lo w5 (Or.inr ⟨HWF.out, by rw [← HCX.out]; exact hC5⟩) hcl hml hbl hl4 hs hR5 hTb5 hL5 hbb (by omega)
      unfold hdV at hrb
      refine hrb.mono ?_
      rintro en w6 ⟨rfl, hB6', a6, cap6, X, j6, bad6, hR6, hTb6, hX6, hT6⟩
      obtain ⟨m', hm', hC'⟩ := HN4.out X j6 bad6 hT6
      have HC' := hid hC'
      have hge := hTb5.ge
      have hC6 := hC5.but hB6' (fun g e cur hh he hg h => by
        rcases h with h | h
        · omega
        · exact hTb5.apart hh (by rcases he with he | he <;> (rw [he]; decide)) h)
      have hM6 := hM5.but hB6' (fun g e cur hh he hg h => by
        rcases h with h | h
        · omega
        · exact hTb5.apart hh (by rw [he]; decide) h)
      have hBF6 : But (fun k => k = w.heap.size ∨ w.heap.size + 1 ≤ k) w w6 := (hBF4.next hB5 (fun _ _ h => h.elim)).next hB6' (fun k hk h => by
        rcases h with h | h
        · exact Or.inl h
        · exact Or.inr (hge k h))
      have hz6 := hB6'.size
      clear hrb hT6 hC' HN4
      go_wp2_with fail
      go_roundg m'
      case measure => omega
      case rel => exact ⟨a6, cap6, j6, bad6, bs ++ [X], by simp; omega, by omega, hBF6, hR6, hC6, hM6, hTb6, HC'.out⟩
    · have hcond : (decide (bs.length < 6) && (!bad' && !decide (pk s j = 59))) = false := by
        by_cases h6 : bs.length < 6
        · cases bad' with
          | true => simp
          | false =>
            by_cases hp : pk s j = 59
            · simp [hp]
            · exact absurd ⟨h6, rfl, hp⟩ hgo
        · simp [h6]
      have hexit : ¬ bs.length < 6 ∨ (!bad' && !decide (pk s j = 59)) = false := by
        by_cases h6 : bs.length < 6
        · right
          simpa [h6] using hcond
        · exact Or.inl h6
      rw [hcond] at hmb
      have HMB := hid hmb
      have HBF := hid (HBC.out.fin hexit)
      clear hmb hcond hexit hgo HBC
      go_wp2_with fail
      refine HMB.out.mono ?_
      rintro en w3 ⟨rfl, k, rfl⟩
      go_wp2_with fail
      refine (xtake_any w.heap.size s j bad' _ _ _ _ 59 (by decide) hs (hRr.drewN k)).mono ?_
      rintro en w4 ⟨rfl, hB4, hR4⟩
      obtain ⟨TK, hTK⟩ : ∃ TK, tkP s 59 j bad' = TK := ⟨_, rfl⟩
      have hBF' := HBF.out
      rw [hTK] at hR4 hBF'
      obtain ⟨j2, b2⟩ := TK
      dsimp only at hR4 hBF'
      have HF2 := hid (fun l X j3 j4 b3 b4 => HFIN.out bs l X j2 j3 j4 b2 b3 b4 hBF')
      have hG2 : b2 = true ∨ b1 = false := by
        rcases hBF' with ⟨_, h, _⟩ | ⟨h, _⟩
        · exact Or.inr h
        · exact Or.inl h
      have HG2 := hid hG2
      clear hTK hBF' HBF HFIN hG2
      have hBr4 : But (· = w.heap.size) wr w4 := (But.drewN _ _ _).trans hB4
      have hz4 := hBr4.size
      go_wp2_with fail
      refine (xmainHead_any w.heap.size s j2 b2 a0 SC.length cap0 _ _ w4 hcl hs hR4).mono ?_
      rintro en w5 ⟨hB5, al, capl, lo, j3, b3, rfl, hR5, hL5, hl5, hT5⟩
      have hBr5 : But (· = w.heap.size) wr w5 := hBr4.trans hB5
      have hz5 := hB5.size
      have hT5' := hT5
      rw [HSN.out] at hT5'
      have HF3 := hid (fun X j4 b4 => HF2.out lo X j3 j4 b3 b4 hT5')
      have hG3 : b3 = true ∨ b1 = false := by
        rcases HG2.out with h | h
        · left
          rcases hT5 with ⟨_, h2⟩ | ⟨h2, _⟩
          · rw [h] at h2; simp [tysB] at h2
          · exact h2
        · exact Or.inr h
      have HG3 := hid hG3
      clear hT5 hT5' HF2 HG2 hG3
      unfold hdV
      go_wp2_with fail
      have hB6 : But (fun _ => False) w5 (w5.alloc (.cells #[.int .u8 45, .int .i64 0, .int .u8 105, .slice al lo.length capl, .slice none 0 0] 108)) := But.alloc _ _ _
      revert hB6
      generalize (w5.alloc (.cells #[.int .u8 45, .int .i64 0, .int .u8 105, .slice al lo.length capl, .slice none 0 0] 108)) = w6
      intro hB6
      have hBr6 : But (· = w.heap.size) wr w6 := hBr5.next hB6 (fun _ _ h => h.elim)
      have hR6 := hR5.but hB6 (fun h => h)
      have hC6 := hCr.but hBr6 (fun g e cur _ _ hg h => by omega)
      have hM6 := hMr.but hBr6 (fun g e cur _ _ hg h => by omega)
      have hTb6 := hTr.but hBr6 (fun g e cur _ _ hg h => by omega)
      have hL6 : BtB w6 (w.heap.size + 1) (.slice al lo.length capl) lo := World.ownsRow.mono (hL5.but hB6 (fun _ _ h => h)) (by omega)
      have hz6 := hB6.size
      have hgg : b3 = true ∨ (WfC SC ∧ TcV w6 (w.heap.size + 1) (.slice a0 SC.length cap0) (SC.map toX)) := by
        rcases HG3.out with h | h
        · exact Or.inl h
        · obtain ⟨h1, h2⟩ := HGD.out h
          exact Or.inr ⟨h2, by rw [← h1]; exact hC6⟩
      have hrb := xreadBody_all w.heap.size (w.heap.size + 1) s j3 b3 SC a0 a1 a2 ms.length cap0 cap1 cap2 bs 45 105 0 al capl lo w6 hgg hcl hml hbl (by omega) hs hR6 hTb6 hL6 hbb (by omega)
      unfold hdV at hrb
      refine Calls.mono hrb ?_
      rintro en w7 ⟨rfl, hB7, a7, cap7, X, j7, b7, hR7, hTb7, hX7, hT7⟩
      have HF4 := hid (HF3.out X j7 b7 hT7)
      have hge := hTb6.ge
      have hC7 := hC6.but hB7 (fun g e cur hh he hg h => by
        rcases h with h | h
        · omega
        · exact hTb6.apart hh (by rcases he with he | he <;> (rw [he]; decide)) h)
      have hM7 := hM6.but hB7 (fun g e cur hh he hg h => by
        rcases h with h | h
        · omega
        · exact hTb6.apart hh (by rw [he]; decide) h)
      have hBF7 : But (fun k => k = w.heap.size ∨ w.heap.size + 1 ≤ k) w w7 := (hBr.next hBr6 (fun _ _ h => Or.inl h)).next hB7 (fun k hk h => by
        rcases h with h | h
        · exact Or.inl h
        · exact Or.inr (hge k h))
      clear hrb hT7 HF3 hgg HG3 hL6 hL5
      go_wp2_with fail
      refine (xtakeEnd_any w.heap.size s j7 b7 _ _ _ w7 hs hR7).mono ?_
      rintro en w8 ⟨rfl, hB8, hR8⟩
      have hC8 := hC7.but hB8 (fun g e cur _ _ hg h => by omega)
      have hM8 := hM7.but hB8 (fun g e cur _ _ hg h => by omega)
      have hTb8 := hTb7.but hB8 (fun g e cur _ _ hg h => by omega)
      have hBF8 : But (fun _ => False) w w8 := (hBF7.next hB8 (fun _ _ h => Or.inl h)).mono (fun k hk h => by omega)
      revert HF4 hR8
      generalize (b7 || decide (j7 < s.size)) = b8
      intro HF4 hR8
      have hbl8 := hR8.lt
      rcases HF4.out with ⟨rfl, hrd⟩ | ⟨rfl, im, hrd, him1, him2, him3, him4⟩
      · have p4 := hR8.c4
        have p3 := hR8.c3
        have HRD := hid hrd
        clear hrd HF4
        go_wp2_with fail
        have hS0 : But (fun _ => False) w8 w8.drew := But.drew _ _
        refine wpP_begin (But (fun _ => False) w8) 7 (by kernel_rfl) ?_
        refine wpP_take (k := 2) (v := ?vA2) rfl (by decide) (by kernel_rfl) ?qA2 rfl hS0 ?yA2 ?rA2
        case yA2 => intro wS h; have q0 := ((h.cell (p := ⟨w.heap.size, 3, none⟩) hbl8 (fun h => h)).trans p3); clear h; go_simp; try rfl
        case qA2 => exact fun _ _ _ h => h
        dsimp only [Act.put]
        try simp only [puts]
        refine wpP_take (k := 3) (v := ?vA3) rfl (by decide) (by kernel_rfl) ?qA3 rfl hS0 ?yA3 ?rA3
        case yA3 => intro wS h; have q0 := ((h.cell (p := ⟨w.heap.size, 3, none⟩) hbl8 (fun h => h)).trans p3); clear h; go_simp; try rfl
        case qA3 => exact fun _ _ _ h => h
        dsimp only [Act.put]
        try simp only [puts]
        refine wpP_take (k := 4) (v := ?vA4) rfl (by decide) (by kernel_rfl) ?qA4 rfl hS0 ?yA4 ?rA4
        case yA4 => intro wS h; have q0 := ((h.cell (p := ⟨w.heap.size, 3, none⟩) hbl8 (fun h => h)).trans p3); clear h; go_simp; try rfl
        case qA4 => exact fun _ _ _ h => h
        dsimp only [Act.put]
        try simp only [puts]
        refine wpP_take (k := 5) (v := ?vA5) rfl (by decide) (by kernel_rfl) ?qA5 rfl hS0 ?yA5 ?rA5
        case yA5 => intro wS h; have q0 := ((h.cell (p := ⟨w.heap.size, 3, none⟩) hbl8 (fun h => h)).trans p3); clear h; go_simp; try rfl
        case qA5 => exact fun _ _ _ h => h
        dsimp only [Act.put]
        try simp only [puts]
        refine wpP_take (k := 0) (v := ?vA0) rfl (by decide) (by kernel_rfl) ?qA0 rfl hS0 ?yA0 ?rA0
        case yA0 => intro wS h; have q0 := ((h.cell (p := ⟨w.heap.size, 3, none⟩) hbl8 (fun h => h)).trans p3); clear h; go_simp; try rfl
        case qA0 => exact fun _ _ _ h => h
        dsimp only [Act.put]
        try simp only [puts]
        refine wpP_step (k := 1) (o := ?oA1) ?hoA1 ?hlA1 ?hrA1 ?stA1
        case hoA1 => rfl
        case hlA1 => decide
        case hrA1 => kernel_rfl
        case' stA1 =>
        intro KS hKS
        go_simp
        refine hKS.out _ _ (fun _ => hS0.trans (But.alloc _ _ _)) ?_
        clear hKS KS
        refine wpP_step (k := 6) (o := ?oA6) ?hoA6 ?hlA6 ?hrA6 ?stA6
        case hoA6 => rfl
        case hlA6 => decide
        case hrA6 => kernel_rfl
        case' stA6 =>
        intro KS hKS
        go_simp
        refine hKS.out _ _ (fun _ => hS0.trans (But.alloc _ _ _)) ?_
        clear hKS KS
        refine wpP_step (k := 7) (o := ?oA7) ?hoA7 ?hlA7 ?hrA7 ?stA7
        case hoA7 => rfl
        case hlA7 => decide
        case hrA7 => kernel_rfl
        case' stA7 =>
        intro KS hKS
        go_simp
        refine hKS.out _ _ (fun h => absurd h (by decide)) ?_
        clear hKS KS
        refine wpP_done rfl (by kernel_rfl) ?_
        have hz8 := hBF8.size
        go_wp2_with fail
        exact bodyPost_ret (v := .tuple #[.pointer (some ⟨w8.heap.size, 0, none⟩), .int .i64 j7]) (by simp [results, Tryz.results35, go_sem]) rfl ⟨hBF8.trans ((But.alloc _ _ _).trans (But.drew _ _)), w8.heap.size, j7, rfl, hz8, Or.inl ⟨j7, HRD.out, rfl⟩⟩
      · have p4 := hR8.c4
        have HRD := hid hrd
        have hTx : TextX w8 w.heap.size im := by
          refine ⟨?_, ?_, ?_⟩
          · rw [him1, ← him2]; exact hC8.tx hR8.c0 hbl8
          · rw [him3]; exact hM8.tx hR8.c1 hbl8
          · rw [him3, ← him4]; exact hTb8.tx hR8.c2 hbl8
        clear hrd HF4 him1 him2 him3 him4
        go_wp2_with fail
        exact bodyPost_ret (v := .tuple #[.pointer (some ⟨w.heap.size, 0, none⟩), .int .i64 (-1)]) (by simp [results, Tryz.results35, go_sem]) rfl ⟨hBF8, w.heap.size, -1, rfl, Nat.le_refl _, Or.inr ⟨rfl, im, HRD.out, hTx⟩⟩
end Go.Proofs.YtmfbojnnoonidaaGreatDoor
