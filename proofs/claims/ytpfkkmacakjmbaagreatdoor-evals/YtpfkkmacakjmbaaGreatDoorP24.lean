import Derived.Test.YtpfkkmacakjmbaaGreatDoorP22
set_option maxRecDepth 100000
set_option maxHeartbeats 6400000
namespace Go.Proofs.YtpfkkmacakjmbaaGreatDoor
open Go Go.RowKit Sp
set_option linter.unusedSimpArgs false
set_option linter.unusedVariables false
attribute [local go_sem ↓] Go.wp_at_zero Go.wp_at_succ
def codeB (s : ByteArray) (cs : List Cls) (ns nl i : Nat) (bad : Bool) : Except Nat (List Ins × Nat) := if bad = true then .error i else codeP s cs ns nl 100 [] i
def CodeC (s : ByteArray) (cs : List Cls) (ns nl : Nat) (R : Except Nat (List Ins × Nat)) (mm : Nat) (items : List XIt) (j : Nat) (bad : Bool) : Prop :=
 (bad = false ∧ ∃ is, items = is.map toXI ∧ is ≠ [] ∧ is.length + mm = 100 ∧ codeP s cs ns nl mm is j = R) ∨ (bad = true ∧ R = .error j)
section
variable {s : ByteArray} {cs : List Cls} {ns nl : Nat} {R : Except Nat (List Ins × Nat)}
theorem codeP_step {k : Nat} {is : List Ins} {j : Nat} (h : ¬ ((pk s j).toNat = 46 ∧ is ≠ [])) : codeP s cs ns nl (k + 1) is j = match insP s cs ns nl j with
  | .error j => .error j
  | .ok (x, j) => codeP s cs ns nl k (is ++ [x]) j := by
 rw [codeP, if_neg h]
 cases insP s cs ns nl j <;> rfl
theorem CodeC.start {i : Nat} {bad : Bool} (hR : codeB s cs ns nl i bad = R) {x : XIt} {j : Nat} {bad' : Bool} (h : InsR s cs ns nl i bad x j bad') : CodeC s cs ns nl R 99 [x] j bad' := by
 unfold codeB at hR
 unfold InsR insB at h
 cases bad with
 | true =>
  simp only [if_true] at h hR
  rcases h with ⟨_, y, h, _⟩ | ⟨h1, h2⟩
  ·cases h
  ·cases h2
   exact Or.inr ⟨h1, hR.symm⟩
 | false =>
  simp only [Bool.false_eq_true, if_false] at h hR
  rw [codeP_step (by simp)] at hR
  rcases h with ⟨h1, y, h2, h3⟩ | ⟨h1, h2⟩
  ·rw [h2] at hR
   exact Or.inl ⟨h1, [y], by simp [h3], by simp, by simp, hR⟩
  ·rw [h2] at hR
   exact Or.inr ⟨h1, hR.symm⟩
theorem CodeC.next {mm : Nat} {items : List XIt} {j : Nat} (h : CodeC s cs ns nl R mm items j false) (hl : items.length < 100) (hp : pk s j ≠ 46) {x : XIt} {j' : Nat} {bad' : Bool} (hi : InsR s cs ns nl j false x j' bad') : ∃ m', m' < mm ∧ CodeC s cs ns nl R m' (items ++ [x]) j' bad' := by
 rcases h with ⟨_, is, h1, h2, h3, h4⟩ | ⟨h, _⟩
 ·have hil : is.length < 100 := by rw [h1, List.length_map] at hl; exact hl
  obtain ⟨f, rfl⟩ : ∃ f, mm = f + 1 := ⟨mm - 1, by omega⟩
  rw [codeP_step (fun h => hp ((u8n (by decide)).1 h.1))] at h4
  unfold InsR insB at hi
  simp only [Bool.false_eq_true, if_false] at hi
  rcases hi with ⟨e1, y, e2, e3⟩ | ⟨e1, e2⟩
  ·rw [e2] at h4
   exact ⟨f, by omega, Or.inl ⟨e1, is ++ [y], by rw [h1, List.map_append, e3]; rfl, by simp, by simp; omega, h4⟩⟩
  ·rw [e2] at h4
   exact ⟨0, by omega, Or.inr ⟨e1, h4.symm⟩⟩
 ·cases h
theorem CodeC.fin {mm : Nat} {items : List XIt} {j : Nat} {bad : Bool} (h : CodeC s cs ns nl R mm items j bad) (hx : bad = true ∨ ¬ items.length < 100 ∨ pk s j = 46) :
  ((tkP s 46 j bad).2 = false ∧ ∃ is, R = .ok (is, (tkP s 46 j bad).1) ∧ items = is.map toXI) ∨ ((tkP s 46 j bad).2 = true ∧ R = .error (tkP s 46 j bad).1) := by
 rcases h with ⟨rfl, is, h1, h2, h3, h4⟩ | ⟨rfl, h2⟩
 ·by_cases hp : pk s j = 46
  ·left
   rw [tkP_ok hp]
   refine ⟨rfl, is, ?_, h1⟩
   rw [← h4]
   cases mm <;> simp [codeP, hp, h2]
  ·right
   rw [tkP_no (Or.inr hp)]
   refine ⟨rfl, ?_⟩
   have hm : mm = 0 := by
    rcases hx with h | h | h
    ·cases h
    ·rw [h1, List.length_map] at h; omega
    ·exact absurd h hp
   subst hm
   rw [← h4]
   have : ¬ ((pk s j).toNat = 46 ∧ is ≠ []) := fun h => hp ((u8n (by decide)).1 h.1)
   simp only [codeP, if_neg this]
 ·right
  rw [tkP_no (Or.inl rfl)]
  exact ⟨rfl, h2⟩
end
theorem xnew_any (s : ByteArray) (w : World) :
  Calls Tryz.prog 97 #[.string s] w fun en w' => en = .returned (.pointer (some ⟨w.heap.size, 0, none⟩)) ∧ But (fun _ => False) w w' ∧ w.heap.size < w'.heap.size ∧ XrB w' w.heap.size s 0 false (.slice none 0 0) (.slice none 0 0) ⟨.slice none 0 0, .int .u8 0, .int .i64 0, .int .u8 0, .slice none 0 0, .slice none 0 0, false⟩ := by
 go_enter Tryz.func97, Tryz.ntmps97
 go_wp2
 go_ret
 exact ⟨rfl, But.alloc _ _ _, by simp, heap_alloc_new _ _⟩
def HeadQ (s : ByteArray) (nc : Nat) (gs : List Sig) (BS : List Bod) (i : Nat) (a0 : Option Addr) (cap0 : Nat) (v1 : Value) (a2 : Option Addr) (n cap2 b base : Nat) (w' : World) : Prop :=
 ∃ (c : UInt8) (m : Nat) (r : UInt8) (ao : Option Addr) (cap : Nat) (l : List UInt8) (j : Nat) (bad' : Bool), XrB w' b s j bad' (.slice a0 nc cap0) v1 ⟨.slice a2 n cap2, .int .u8 (UInt8.toNat c), .int .i64 m, .int .u8 (UInt8.toNat r), .slice ao (List.length l) cap, .slice none 0 0, false⟩ ∧ BtB w' base (.slice ao l.length cap) l ∧ l.length ≤ 5 ∧
   ((bad' = false ∧ ∃ x t, headP s nc gs BS i = .ok ((x, m, t), j) ∧ c = UInt8.ofNat (65 + x) ∧ x < nc ∧ m < gs.length ∧ r = (methX gs m).ret ∧ l = c :: (methX gs m).arg :: t) ∨ (bad' = true ∧ headP s nc gs BS i = .error j))
def MainQ (s : ByteArray) (nc i : Nat) (bad : Bool) (a0 : Option Addr) (cap0 : Nat) (v1 : Value) (a2 : Option Addr) (n cap2 b base : Nat) (w' : World) : Prop :=
 ∃ (ao : Option Addr) (cap : Nat) (l : List UInt8) (j : Nat) (bad' : Bool), XrB w' b s j bad' (.slice a0 nc cap0) v1 ⟨.slice a2 n cap2, .int .u8 45, .int .i64 0, .int .u8 105, .slice ao (List.length l) cap, .slice none 0 0, true⟩ ∧ BtB w' base (.slice ao l.length cap) l ∧ l.length ≤ 3 ∧
   ((bad' = false ∧ tysB s nc 58 3 i bad = .ok (l, j)) ∨ (bad' = true ∧ tysB s nc 58 3 i bad = .error j))
theorem xnextBody_stop (b : Nat) (s : ByteArray) (i : Nat) (bad : Bool) (v0 v1 : Value) (v2 : RdV) (w : World) (hR : XrB w b s i bad v0 v1 v2) (hx : v2.main = true ∨ bad = true) :
  Calls Tryz.prog 100 #[.pointer (some ⟨b, 0, none⟩)] w fun e w' => e = .returned (.bool false) ∧ ∃ m, w' = w.drewN m := by
 have h4 := hR.c4
 have h5 := hR.d5
 cases hm : v2.main with
 | true =>
  rw [hm] at h5
  go_enter Tryz.func100, Tryz.ntmps100
  go_wp2_with fail
  exact bodyPost_ret (v := .bool false) (by simp [results, Tryz.results100, go_sem]) rfl ⟨rfl, 0, rfl⟩
 | false =>
  rw [hm] at h5
  have hb : bad = true := by rcases hx with h | h; (rw [hm] at h; cases h); exact h
  subst hb
  go_enter Tryz.func100, Tryz.ntmps100
  go_wp2_with fail
  exact bodyPost_ret (v := .bool false) (by simp [results, Tryz.results100, go_sem]) rfl ⟨rfl, 0, rfl⟩
theorem xnextBody_head (b base : Nat) (s : ByteArray) (i : Nat) (a0 a2 : Option Addr) (nc cap0 n cap2 : Nat) (v1 x0 x1 x2 x3 x4 : Value) (w : World) (gs : List Sig) (BS : List Bod) (xs : List XBod) (hxs : xs.map hdOf = (BS.map (toXB gs)).map hdOf) (hnc : nc ≤ 4) (hgs : gs.length ≤ 3) (hBS : BS.length ≤ 6) (hsb : ∀ b ∈ BS, (b.cls = -1) ∨ SideB b) (hs : s.size ≤ 2000)
  (hR : XrB w b s i false (.slice a0 nc cap0) v1 ⟨.slice a2 n cap2, x0, x1, x2, x3, x4, false⟩) (hM : TmV w base v1 gs) (hBd : TbV w base (.slice a2 n cap2) xs) (hb : b < base) (hn : n < 6) (hp : pk s i ≠ 59) :
  Calls Tryz.prog 100 #[.pointer (some ⟨b, 0, none⟩)] w fun en w' => But (· = b) w w' ∧ en = .returned (.bool true) ∧ HeadQ s nc gs BS i a0 cap0 v1 a2 n cap2 b w.heap.size w' := by
 have h2 := hR.c2
 have h4 := hR.c4
 have h5 := hR.d5
 have hnI : (n : Int) < 6 := by omega
 have hbw := hR.lt
 have hbef := xbefore_any b s i false _ _ _ w 59 hR
 rw [show (!false && !decide (pk s i = 59)) = true from by simp [hp]] at hbef
 have HBF := hid hbef
 have HHD := hid (fun k => xhead_any b base s i a0 nc cap0 v1 ⟨.slice a2 n cap2, x0, x1, x2, x3, x4, false⟩ (w.drewN k) gs BS xs hxs hnc hgs hBS hsb hs (hR.drewN k) (hM.but (But.drewN (fun _ => False) _ _) (fun _ _ _ _ _ _ h => h)) (hBd.but (But.drewN (fun _ => False) _ _) (fun _ _ _ _ _ _ h => h)) hb)
 clear hbef hp hM hBd hsb hBS hn hxs
 dsimp only at h2 h5
 go_enter Tryz.func100, Tryz.ntmps100
 go_wp2_with fail
 refine HBF.out.mono ?_
 rintro en w1 ⟨rfl, k, rfl⟩
 go_wp2_with fail
 refine (HHD.out k).mono ?_
 rintro en w2 ⟨hB2, c, m, r, ao, cap, l, j, bad', rfl, hR2, hL2, hl2, hT2⟩
 have HT2 := hid hT2
 have e0 := hR2.d0
 have e1 := hR2.d1
 have e2 := hR2.d2
 have e3 := hR2.d3
 have e4 := hR2.d4
 have g0 := hR2.fz 3
 have g1 := hR2.fz 4
 have g2 := hR2.fz 5
 have g3 := hR2.fz 6
 have g4 := hR2.fz 7
 clear hT2 h2 h4 h5 HBF HHD
 unfold hdV
 go_wp2_with fail
 have hR3 := hR2.setB (.int .u8 c.toNat) (.int .i64 m) (.int .u8 r.toNat) (.slice ao l.length cap) (.slice none 0 0)
 have hB3 : But (· = b) w2 (((((w2.setCell ⟨b, 3, none⟩ (.int .u8 c.toNat)).setCell ⟨b, 4, none⟩ (.int .i64 m)).setCell ⟨b, 5, none⟩ (.int .u8 r.toNat)).setCell ⟨b, 6, none⟩ (.slice ao l.length cap)).setCell ⟨b, 7, none⟩ (.slice none 0 0)) :=
  ((((But.setB _ _ _ _).trans (But.setB _ _ _ _)).trans (But.setB _ _ _ _)).trans (But.setB _ _ _ _)).trans (But.setB _ _ _ _)
 exact bodyPost_ret (v := .bool true) (by simp [results, Tryz.results100, go_sem]) rfl ⟨((But.drewN _ _ _).trans hB2).trans hB3, rfl, c, m, r, ao, cap, l, j, bad', hR3, BtB.but hL2 hB3 (fun g hg h => by have := owns_ge hL2 g hg; have : w.heap.size ≤ g := this; omega), hl2, HT2.out⟩
theorem xnextBody_main (b : Nat) (s : ByteArray) (i : Nat) (a0 a2 : Option Addr) (nc cap0 n cap2 : Nat) (v1 x0 x1 x2 x3 x4 : Value) (w : World) (hnc : nc ≤ 4) (hs : s.size ≤ 2000)
  (hR : XrB w b s i false (.slice a0 nc cap0) v1 ⟨.slice a2 n cap2, x0, x1, x2, x3, x4, false⟩) (hx : ¬ n < 6 ∨ pk s i = 59) :
  Calls Tryz.prog 100 #[.pointer (some ⟨b, 0, none⟩)] w fun en w' => But (· = b) w w' ∧ en = .returned (.bool true) ∧ MainQ s nc (tkP s 59 i false).1 (tkP s 59 i false).2 a0 cap0 v1 a2 n cap2 b w.heap.size w' := by
 have h2 := hR.c2
 have h4 := hR.c4
 have h5 := hR.d5
 have g5 := hR.fz 10
 have hbw := hR.lt
 dsimp only at h2 h5
 obtain ⟨TK, hTK⟩ : ∃ TK, tkP s 59 i false = TK := ⟨_, rfl⟩
 rw [hTK]
 obtain ⟨j1, bad1⟩ := TK
 dsimp only
 have HTT := hid (fun (wx : World) (h : XrB wx b s i false (.slice a0 nc cap0) v1 ⟨.slice a2 n cap2, x0, x1, x2, x3, x4, true⟩) => xtake_any b s i false _ _ _ wx 59 (by decide) hs h)
 rw [hTK] at HTT
 clear hTK
 have HFIN : Hid (∀ (w1 w2 w3 : World), But (· = b) w w1 → w.heap.size ≤ w1.heap.size → True) := hid (fun _ _ _ _ _ => trivial)
 by_cases hnI : (n : Int) < 6
 ·have hp : pk s i = 59 := by
   rcases hx with h | h
   ·omega
   ·exact h
  have hbef := xbefore_any b s i false _ _ _ w 59 hR
  rw [show (!false && !decide (pk s i = 59)) = false from by simp [hp]] at hbef
  have HBF := hid hbef
  clear hbef hp hx
  go_enter Tryz.func100, Tryz.ntmps100
  go_wp2_with fail
  refine HBF.out.mono ?_
  rintro en w1 ⟨rfl, k, rfl⟩
  have hRM := (hR.drewN k).setM true
  have hBM : But (· = b) w ((w.drewN k).setCell ⟨b, 10, none⟩ (.bool true)) := (But.drewN _ _ _).trans (But.setB _ _ _ _)
  have hzM := hBM.size
  go_wp2_with fail
  refine (HTT.out _ hRM).mono ?_
  rintro en w2 ⟨rfl, hB2, hR2⟩
  have hz2 := hB2.size
  have hBw2 := hBM.trans hB2
  clear h2 h4 h5 g5 HBF HTT hRM
  go_wp2_with fail
  refine (xmainHead_any b s j1 bad1 a0 nc cap0 _ _ w2 hnc hs hR2).mono ?_
  rintro en w3 ⟨hB3, ao, cap, l, j, bad', rfl, hR3, hL3, hl3, hT3⟩
  have HT3 := hid hT3
  have e0 := hR3.d0
  have e1 := hR3.d1
  have e2 := hR3.d2
  have e3 := hR3.d3
  have e4 := hR3.d4
  have g0 := hR3.fz 3
  have g1 := hR3.fz 4
  have g2 := hR3.fz 5
  have g3 := hR3.fz 6
  have g4 := hR3.fz 7
  clear hT3
  unfold hdV
  simp only [show (UInt8.toNat 45) = 45 from rfl, show (UInt8.toNat 105) = 105 from rfl]
  go_wp2_with fail
  have hR4 := hR3.setB (.int .u8 45) (.int .i64 0) (.int .u8 105) (.slice ao l.length cap) (.slice none 0 0)
  have hB4 : But (· = b) w3 (((((w3.setCell ⟨b, 3, none⟩ (.int .u8 45)).setCell ⟨b, 4, none⟩ (.int .i64 0)).setCell ⟨b, 5, none⟩ (.int .u8 105)).setCell ⟨b, 6, none⟩ (.slice ao l.length cap)).setCell ⟨b, 7, none⟩ (.slice none 0 0)) :=
   ((((But.setB _ _ _ _).trans (But.setB _ _ _ _)).trans (But.setB _ _ _ _)).trans (But.setB _ _ _ _)).trans (But.setB _ _ _ _)
  exact bodyPost_ret (v := .bool true) (by simp [results, Tryz.results100, go_sem]) rfl ⟨(hBw2.trans hB3).trans hB4, rfl, ao, cap, l, j, bad', hR4, BtB.but (World.ownsRow.mono hL3 (by omega)) hB4 (fun g hg h => by have := owns_ge hL3 g hg; omega), hl3, HT3.out⟩
 ·clear hx
  have hRM := hR.setM true
  have hBM : But (· = b) w (w.setCell ⟨b, 10, none⟩ (.bool true)) := But.setB _ _ _ _
  have hzM := hBM.size
  go_enter Tryz.func100, Tryz.ntmps100
  go_wp2_with fail
  refine (HTT.out _ hRM).mono ?_
  rintro en w2 ⟨rfl, hB2, hR2⟩
  have hz2 := hB2.size
  have hBw2 := hBM.trans hB2
  clear h2 h4 h5 g5 HTT hRM
  go_wp2_with fail
  refine (xmainHead_any b s j1 bad1 a0 nc cap0 _ _ w2 hnc hs hR2).mono ?_
  rintro en w3 ⟨hB3, ao, cap, l, j, bad', rfl, hR3, hL3, hl3, hT3⟩
  have HT3 := hid hT3
  have e0 := hR3.d0
  have e1 := hR3.d1
  have e2 := hR3.d2
  have e3 := hR3.d3
  have e4 := hR3.d4
  have g0 := hR3.fz 3
  have g1 := hR3.fz 4
  have g2 := hR3.fz 5
  have g3 := hR3.fz 6
  have g4 := hR3.fz 7
  clear hT3
  unfold hdV
  simp only [show (UInt8.toNat 45) = 45 from rfl, show (UInt8.toNat 105) = 105 from rfl]
  go_wp2_with fail
  have hR4 := hR3.setB (.int .u8 45) (.int .i64 0) (.int .u8 105) (.slice ao l.length cap) (.slice none 0 0)
  have hB4 : But (· = b) w3 (((((w3.setCell ⟨b, 3, none⟩ (.int .u8 45)).setCell ⟨b, 4, none⟩ (.int .i64 0)).setCell ⟨b, 5, none⟩ (.int .u8 105)).setCell ⟨b, 6, none⟩ (.slice ao l.length cap)).setCell ⟨b, 7, none⟩ (.slice none 0 0)) :=
   ((((But.setB _ _ _ _).trans (But.setB _ _ _ _)).trans (But.setB _ _ _ _)).trans (But.setB _ _ _ _)).trans (But.setB _ _ _ _)
  exact bodyPost_ret (v := .bool true) (by simp [results, Tryz.results100, go_sem]) rfl ⟨(hBw2.trans hB3).trans hB4, rfl, ao, cap, l, j, bad', hR4, BtB.but (World.ownsRow.mono hL3 (by omega)) hB4 (fun g hg h => by have := owns_ge hL3 g hg; omega), hl3, HT3.out⟩
def ResQ (s : ByteArray) (i : Nat) (bad : Bool) (b : Nat) (w : World) (en : Ending) (w' : World) : Prop :=
 ((bad || decide (i < s.size)) = true ∧ ∃ g, w.heap.size ≤ g ∧ en = .returned (.tuple #[.pointer (some ⟨g, 0, none⟩), .int .i64 i]) ∧ w'.heap[g]? = some (.cells #[.slice none 0 0, .slice none 0 0, .slice none 0 0] 109)) ∨
    ((bad || decide (i < s.size)) = false ∧ en = .returned (.tuple #[.pointer (some ⟨b, 0, none⟩), .int .i64 (-1)]))
theorem xresult_any (b : Nat) (s : ByteArray) (i : Nat) (bad : Bool) (v0 v1 : Value) (v2 : RdV) (w : World) (hR : XrB w b s i bad v0 v1 v2) :
  Calls Tryz.prog 103 #[.pointer (some ⟨b, 0, none⟩)] w fun en w' => But (fun _ => False) w w' ∧ ResQ s i bad b w en w' := by
 have p3 := hR.c3
 have p4 := hR.c4
 have p5 := hR.c5
 have hbl := hR.lt
 cases bad with
 | true =>
   go_enter Tryz.func103, Tryz.ntmps103
   go_wp2
   go_quiet (fail)
   go_wp2_with fail
   have hRV := hR.drewN nq
   have hBV : But (fun _ => False) w (w.drewN nq) := But.drewN _ _ _
   have hzV : w.heap.size ≤ (w.drewN nq).heap.size := hBV.size
   revert hRV hBV hzV
   generalize (w.drewN nq) = V
   intro hRV hBV hzV
   have p6 := hRV.c3
   have hblV := hRV.lt
   clear p3 p4 p5 hR
   have hS0 : But (fun _ => False) V V.drew := But.drew _ _
   refine wpP_begin (But (fun _ => False) V) 7 (by kernel_rfl) ?_
   refine wpP_take (k := 2) (v := ?vA2) rfl (by decide) (by kernel_rfl) (fun _ _ _ h => h) rfl hS0 ?yA2 ?rA2
   case yA2 => intro wS h; have q0 := ((h.cell (p := ⟨b, 8, none⟩) hblV (fun h => h)).trans p6); clear h; go_simp; try rfl
   dsimp only [Act.put]
   try simp only [puts]
   refine wpP_take (k := 3) (v := ?vA3) rfl (by decide) (by kernel_rfl) (fun _ _ _ h => h) rfl hS0 ?yA3 ?rA3
   case yA3 => intro wS h; have q0 := ((h.cell (p := ⟨b, 8, none⟩) hblV (fun h => h)).trans p6); clear h; go_simp; try rfl
   dsimp only [Act.put]
   try simp only [puts]
   refine wpP_take (k := 4) (v := ?vA4) rfl (by decide) (by kernel_rfl) (fun _ _ _ h => h) rfl hS0 ?yA4 ?rA4
   case yA4 => intro wS h; have q0 := ((h.cell (p := ⟨b, 8, none⟩) hblV (fun h => h)).trans p6); clear h; go_simp; try rfl
   dsimp only [Act.put]
   try simp only [puts]
   refine wpP_take (k := 5) (v := ?vA5) rfl (by decide) (by kernel_rfl) (fun _ _ _ h => h) rfl hS0 ?yA5 ?rA5
   case yA5 => intro wS h; have q0 := ((h.cell (p := ⟨b, 8, none⟩) hblV (fun h => h)).trans p6); clear h; go_simp; try rfl
   dsimp only [Act.put]
   try simp only [puts]
   refine wpP_take (k := 0) (v := ?vA0) rfl (by decide) (by kernel_rfl) (fun _ _ _ h => h) rfl hS0 ?yA0 ?rA0
   case yA0 => intro wS h; have q0 := ((h.cell (p := ⟨b, 8, none⟩) hblV (fun h => h)).trans p6); clear h; go_simp; try rfl
   dsimp only [Act.put]
   try simp only [puts]
   refine wpP_step (k := 1) rfl (by decide) (by kernel_rfl) ?_
   intro KS hKS
   go_simp
   refine hKS.out _ _ (fun _ => hS0.trans (But.alloc _ _ _)) ?_
   clear hKS KS
   refine wpP_step (k := 6) rfl (by decide) (by kernel_rfl) ?_
   intro KS hKS
   go_simp
   refine hKS.out _ _ (fun _ => hS0.trans (But.alloc _ _ _)) ?_
   clear hKS KS
   refine wpP_step (k := 7) rfl (by decide) (by kernel_rfl) ?_
   intro KS hKS
   go_simp
   refine hKS.out _ _ (fun h => absurd h (by decide)) ?_
   clear hKS KS
   refine wpP_done rfl (by kernel_rfl) ?_
   have hB9 : But (fun _ => False) V (V.drew.alloc (.cells #[.slice none 0 0, .slice none 0 0, .slice none 0 0] 109)) := (But.drew _ _).trans (But.alloc _ _ _)
   have hg9 := heap_alloc_new V.drew (.cells #[.slice none 0 0, .slice none 0 0, .slice none 0 0] 109)
   go_wp2_with fail
   exact bodyPost_ret (v := .tuple #[.pointer (some ⟨V.heap.size, 0, none⟩), .int .i64 i]) (by simp [results, Tryz.results103, go_sem]) rfl ⟨hBV.trans hB9, Or.inl ⟨rfl, V.heap.size, hzV, rfl, hg9⟩⟩
 | false =>
  by_cases hi : (i : Int) < (s.size : Int)
  ·have HI : Hid ((false || decide (i < s.size)) = true) := hid (by simp; omega)
   go_enter Tryz.func103, Tryz.ntmps103
   go_wp2
   go_quiet (fail)
   go_wp2_with fail
   have hRV := hR.drewN nq
   have hBV : But (fun _ => False) w (w.drewN nq) := But.drewN _ _ _
   have hzV : w.heap.size ≤ (w.drewN nq).heap.size := hBV.size
   revert hRV hBV hzV
   generalize (w.drewN nq) = V
   intro hRV hBV hzV
   have p6 := hRV.c3
   have hblV := hRV.lt
   clear p3 p4 p5 hR
   have hS0 : But (fun _ => False) V V.drew := But.drew _ _
   refine wpP_begin (But (fun _ => False) V) 7 (by kernel_rfl) ?_
   refine wpP_take (k := 2) (v := ?vB2) rfl (by decide) (by kernel_rfl) (fun _ _ _ h => h) rfl hS0 ?yB2 ?rB2
   case yB2 => intro wS h; have q0 := ((h.cell (p := ⟨b, 8, none⟩) hblV (fun h => h)).trans p6); clear h; go_simp; try rfl
   dsimp only [Act.put]
   try simp only [puts]
   refine wpP_take (k := 3) (v := ?vB3) rfl (by decide) (by kernel_rfl) (fun _ _ _ h => h) rfl hS0 ?yB3 ?rB3
   case yB3 => intro wS h; have q0 := ((h.cell (p := ⟨b, 8, none⟩) hblV (fun h => h)).trans p6); clear h; go_simp; try rfl
   dsimp only [Act.put]
   try simp only [puts]
   refine wpP_take (k := 4) (v := ?vB4) rfl (by decide) (by kernel_rfl) (fun _ _ _ h => h) rfl hS0 ?yB4 ?rB4
   case yB4 => intro wS h; have q0 := ((h.cell (p := ⟨b, 8, none⟩) hblV (fun h => h)).trans p6); clear h; go_simp; try rfl
   dsimp only [Act.put]
   try simp only [puts]
   refine wpP_take (k := 5) (v := ?vB5) rfl (by decide) (by kernel_rfl) (fun _ _ _ h => h) rfl hS0 ?yB5 ?rB5
   case yB5 => intro wS h; have q0 := ((h.cell (p := ⟨b, 8, none⟩) hblV (fun h => h)).trans p6); clear h; go_simp; try rfl
   dsimp only [Act.put]
   try simp only [puts]
   refine wpP_take (k := 0) (v := ?vB0) rfl (by decide) (by kernel_rfl) (fun _ _ _ h => h) rfl hS0 ?yB0 ?rB0
   case yB0 => intro wS h; have q0 := ((h.cell (p := ⟨b, 8, none⟩) hblV (fun h => h)).trans p6); clear h; go_simp; try rfl
   dsimp only [Act.put]
   try simp only [puts]
   refine wpP_step (k := 1) rfl (by decide) (by kernel_rfl) ?_
   intro KS hKS
   go_simp
   refine hKS.out _ _ (fun _ => hS0.trans (But.alloc _ _ _)) ?_
   clear hKS KS
   refine wpP_step (k := 6) rfl (by decide) (by kernel_rfl) ?_
   intro KS hKS
   go_simp
   refine hKS.out _ _ (fun _ => hS0.trans (But.alloc _ _ _)) ?_
   clear hKS KS
   refine wpP_step (k := 7) rfl (by decide) (by kernel_rfl) ?_
   intro KS hKS
   go_simp
   refine hKS.out _ _ (fun h => absurd h (by decide)) ?_
   clear hKS KS
   refine wpP_done rfl (by kernel_rfl) ?_
   have hB9 : But (fun _ => False) V (V.drew.alloc (.cells #[.slice none 0 0, .slice none 0 0, .slice none 0 0] 109)) := (But.drew _ _).trans (But.alloc _ _ _)
   have hg9 := heap_alloc_new V.drew (.cells #[.slice none 0 0, .slice none 0 0, .slice none 0 0] 109)
   go_wp2_with fail
   exact bodyPost_ret (v := .tuple #[.pointer (some ⟨V.heap.size, 0, none⟩), .int .i64 i]) (by simp [results, Tryz.results103, go_sem]) rfl ⟨hBV.trans hB9, Or.inl ⟨HI.out, V.heap.size, hzV, rfl, hg9⟩⟩
  ·have HI : Hid ((false || decide (i < s.size)) = false) := hid (by simp; omega)
   go_enter Tryz.func103, Tryz.ntmps103
   go_wp2
   go_quiet (fail)
   go_wp2_with fail
   exact bodyPost_ret (v := .tuple #[.pointer (some ⟨b, 0, none⟩), .int .i64 (-1)]) (by simp [results, Tryz.results103, go_sem]) rfl ⟨But.drewN _ _ _, Or.inr ⟨HI.out, rfl⟩⟩
def BodC (Gd : Prop) (s : ByteArray) (cs : List Cls) (gs : List Sig) (R : Except Nat (List Bod × Nat)) (mm : Nat) (bs : List XBod) (j : Nat) (bad : Bool) : Prop :=
 (bad = false ∧ Gd ∧ ∃ BS, bs = BS.map (toXB gs) ∧ (∀ b ∈ BS, SideB b) ∧ BS.length + mm = 6 ∧ bodP s cs gs mm BS j = R) ∨ (bad = true ∧ R = .error j)
section
variable {Gd : Prop} {s : ByteArray} {cs : List Cls} {gs : List Sig} {R : Except Nat (List Bod × Nat)}
theorem bodP_step {k : Nat} {BS : List Bod} {i : Nat} (h : (pk s i).toNat ≠ 59) : bodP s cs gs (k + 1) BS i = match headP s cs.length gs BS i with
  | .error j => .error j
  | .ok ((x, m, t), p) =>
   match codeP s cs gs.length (t.length + 2) 100 [] p with
   | .error q => .error q
   | .ok (is, q) => bodP s cs gs k (BS ++ [⟨x, m, UInt8.ofNat (65 + x) :: argOf gs m :: t, is⟩]) q := by
 unfold headP
 rw [bodP, if_neg h]
 cases letP s cs.length i with
 | error j => rfl
 | ok y =>
  obtain ⟨x, j⟩ := y
  simp only
  cases digP s gs.length j with
  | error l => rfl
  | ok z =>
   obtain ⟨m, l⟩ := z
   simp only
   split
   ·rfl
   ·cases tys s cs.length 58 3 [] l with
    | error p => rfl
    | ok t =>
     obtain ⟨t, p⟩ := t
     simp only
     cases codeP s cs gs.length (t.length + 2) 100 [] p <;> rfl
theorem BodC.fin {mm : Nat} {bs : List XBod} {j : Nat} {bad : Bool} (h : BodC Gd s cs gs R mm bs j bad) (hx : ¬ bs.length < 6 ∨ (!bad && !decide (pk s j = 59)) = false) :
  ((tkP s 59 j bad).2 = false ∧ Gd ∧ ∃ BS, R = .ok (BS, (tkP s 59 j bad).1) ∧ bs = BS.map (toXB gs) ∧ ∀ b ∈ BS, SideB b) ∨ ((tkP s 59 j bad).2 = true ∧ R = .error (tkP s 59 j bad).1) := by
 rcases h with ⟨rfl, hG, BS, h1, h2, h3, h4⟩ | ⟨rfl, h2⟩
 ·by_cases hp : pk s j = 59
  ·left
   rw [tkP_ok hp]
   refine ⟨rfl, hG, BS, ?_, h1, h2⟩
   rw [← h4]
   cases mm <;> simp [bodP, hp]
  ·right
   rw [tkP_no (Or.inr hp)]
   refine ⟨rfl, ?_⟩
   have hm : mm = 0 := by
    rcases hx with h | h
    ·rw [h1, List.length_map] at h; omega
    ·simp [hp] at h
   subst hm
   rw [← h4]
   have : (pk s j).toNat ≠ 59 := fun h => hp ((u8n (by decide)).1 h)
   simp [bodP, this]
 ·right
  rw [tkP_no (Or.inl rfl)]
  exact ⟨rfl, h2⟩
theorem methX_arg {m : Nat} (h : m < gs.length) : (methX gs m).arg = argOf gs m := by
 unfold methX argOf
 rw [List.getElem?_eq_getElem h]
 rfl
theorem BodC.next {mm : Nat} {bs : List XBod} {j : Nat} (h : BodC Gd s cs gs R mm bs j false) (hnc : cs.length ≤ 4) (hl : bs.length < 6) (hp : pk s j ≠ 59) :
  Gd ∧ ∃ BS, bs = BS.map (toXB gs) ∧ (∀ b ∈ BS, SideB b) ∧ BS.length ≤ 6 ∧ ∀ c m r l j1 bad1, ((bad1 = false ∧ ∃ x t, headP s cs.length gs BS j = .ok ((x, m, t), j1) ∧ c = UInt8.ofNat (65 + x) ∧ x < cs.length ∧ m < gs.length ∧ r = (methX gs m).ret ∧ l = c :: (methX gs m).arg :: t) ∨ (bad1 = true ∧ headP s cs.length gs BS j = .error j1)) →
   ∀ X j2 bad2, ((bad2 = false ∧ ∃ is, codeB s cs gs.length l.length j1 bad1 = .ok (is, j2) ∧ X = ⟨c, m, r, l, is.map toXI⟩) ∨ (bad2 = true ∧ codeB s cs gs.length l.length j1 bad1 = .error j2)) →
   ∃ m', m' < mm ∧ BodC Gd s cs gs R m' (bs ++ [X]) j2 bad2 := by
 rcases h with ⟨_, hG, BS, h1, h2, h3, h4⟩ | ⟨h, _⟩
 ·have hlb : BS.length < 6 := by rw [h1, List.length_map] at hl; exact hl
  refine ⟨hG, BS, h1, h2, by omega, ?_⟩
  intro c m r l j1 bad1 hh X j2 bad2 hc
  obtain ⟨f, rfl⟩ : ∃ f, mm = f + 1 := ⟨mm - 1, by omega⟩
  have hne : (pk s j).toNat ≠ 59 := fun h => hp ((u8n (by decide)).1 h)
  rw [bodP_step hne] at h4
  rcases hh with ⟨rfl, x, t, e1, e2, e3, e4, e5, e6⟩ | ⟨rfl, e1⟩
  ·rw [e1] at h4
   simp only at h4
   unfold codeB at hc
   simp only [Bool.false_eq_true, if_false] at hc
   rw [show l.length = t.length + 2 from by rw [e6]; rfl] at hc
   rcases hc with ⟨rfl, is, c1, c2⟩ | ⟨rfl, c1⟩
   ·rw [c1] at h4
    refine ⟨f, by omega, Or.inl ⟨rfl, hG, BS ++ [⟨x, m, UInt8.ofNat (65 + x) :: argOf gs m :: t, is⟩], ?_, ?_, by simp; omega, h4⟩⟩
    ·rw [h1, List.map_append, c2]
     simp only [List.map_cons, List.map_nil, toXB]
     congr 2
     rw [e6, e5, e2, methX_arg e4]
     have hx0 : ¬ ((x : Int) < 0) := by omega
     simp [hx0]
    ·intro b hb
     rcases List.mem_append.1 hb with hb | hb
     ·exact h2 b hb
     ·simp at hb
      subst hb
      exact ⟨by simp, by simp; omega, by simp⟩
   ·rw [c1] at h4
    exact ⟨0, by omega, Or.inr ⟨rfl, h4.symm⟩⟩
  ·rw [e1] at h4
   simp only at h4
   unfold codeB at hc
   simp only [if_true] at hc
   rcases hc with ⟨_, is, c1, _⟩ | ⟨rfl, c1⟩
   ·cases c1
   ·cases c1
    exact ⟨0, by omega, Or.inr ⟨rfl, h4.symm⟩⟩
 ·cases h
end
theorem TbV.apart {w : World} {base : Nat} {v : Value} {bs : List XBod} (h : TbV w base v bs) {g e : Nat} {cur : Array Value} (hh : w.heap[g]? = some (.cells cur e)) (hne : e ≠ 115) : ¬ v.ownBlock = some g := by
 obtain ⟨l, h1, _⟩ := h
 exact owns_apart h1 hh hne
theorem TbV.ge {w : World} {base : Nat} {v : Value} {bs : List XBod} (h : TbV w base v bs) : ∀ g, v.ownBlock = some g → base ≤ g := by
 obtain ⟨l, h1, _⟩ := h
 exact owns_ge h1
end Go.Proofs.YtpfkkmacakjmbaaGreatDoor
namespace Go.Proofs.YtpfkkmacakjmbaaGreatDoor
open Go Go.RowKit Sp
set_option linter.unusedSimpArgs false
set_option linter.unusedVariables false
theorem ofNat_kl {c : UInt8} {n : Nat} (h : isLet n c = true) (hn : n ≤ 4) : c = UInt8.ofNat (65 + (kl c).toNat) := by
 rw [← let_of h hn]
 congr 2
 unfold kl
 have : (UInt8.ofNat (65 + (c.toNat - 65))) = c := let_of h hn
 rw [this]
 omega
theorem letOf {n x : Nat} (h : x < n) (hn : n ≤ 4) : isLet n (UInt8.ofNat (65 + x)) = true ∧ kl (UInt8.ofNat (65 + x)) = x := by
 have hv : (UInt8.ofNat (65 + x)).toNat = 65 + x := by simp; omega
 constructor
 ·simp only [isLet, hv, Bool.and_eq_true, decide_eq_true_eq]; omega
 ·unfold kl; rw [hv]; omega
theorem bodyF_findF {cs : List Cls} {gs : List Sig} {BS : List Bod} (hw : WfC cs) (hn : cs.length ≤ 4) (hB : ∀ b ∈ BS, (b.cls = -1) ∨ SideB b) (m : Nat) :
  ∀ (f f' x : Nat), x < cs.length → x < f → x < f' → bodyF (cs.map toX) (BS.map (toXB gs)) m f (UInt8.ofNat (65 + x)) = findF cs BS m f' x := by
 intro f
 induction f with
 | zero => intro f' x _ h _; omega
 | succ f ih =>
  intro f' x hx h1 h2
  obtain ⟨g, rfl⟩ : ∃ g, f' = g + 1 := ⟨f' - 1, by omega⟩
  have hv : (UInt8.ofNat (65 + x)).toNat = 65 + x := by simp; omega
  have how := ownF_ownI (gs := gs) (m := m) hB (x := x) (by omega)
  rw [bodyF, if_neg (show ¬ (UInt8.ofNat (65 + x)).toNat = 45 by omega), how, findF, if_neg (show ¬ (x : Int) < 0 by omega)]
  split
  ·rfl
  ·obtain ⟨hl, hk⟩ := letOf hx hn
   have hp := parX_kl hw hn hl
   rw [hk] at hp
   have hlt := parOf_lt hw (p := (x : Int)) (by omega)
   rcases hp with ⟨e1, e2⟩ | ⟨e1, e2, e3⟩
   ·rw [e2]
    have e4 : ∀ k, bodyF (cs.map toX) (BS.map (toXB gs)) m k 45 = -1 := by
     intro k
     cases k with
     | zero => rfl
     | succ k => rw [bodyF]; simp
    have e5 : ∀ k, findF cs BS m k (parOf cs x) = -1 := by
     intro k
     cases k with
     | zero => rfl
     | succ k => rw [findF, if_pos e1]
    rw [e4, e5]
   ·have e6 := ofNat_kl e2 hn
    rw [e3] at e6
    rw [e6]
    have e7 : ((parOf cs x).toNat : Int) = parOf cs x := by omega
    have e8 : (parOf cs x).toNat < cs.length := by omega
    have := ih g (parOf cs x).toNat e8 (by omega) (by omega)
    rw [this, e7]
end Go.Proofs.YtpfkkmacakjmbaaGreatDoor
namespace Go.Proofs.YtpfkkmacakjmbaaGreatDoor
open Go Go.RowKit Sp
set_option linter.unusedSimpArgs false
set_option linter.unusedVariables false
attribute [local go_sem ↓] Go.wp_at_zero Go.wp_at_succ
theorem xtakes_112 (b : Nat) (cs : List XCls) (ms : List Sig) (p n : Nat) (k ans : UInt8) (w : World) {ap : Option Addr} {np cp : Nat} (hn : cs.length ≤ 100) (hT : TxC w b cs) :
  Calls Tryz.prog 140 #[.pointer (some ⟨b, 0, none⟩), .agg #[.int .i64 p, .int .u8 112, .int .u8 k.toNat, .int .i64 n, .slice ap np cp], .int .u8 ans.toNat] w fun e w' => But (fun _ => False) w w' ∧ ∃ v, e = .returned v ∧ BtB w' w.heap.size v [k, tatX (fldsX cs k) n] := by
 go_enter Tryz.func140, Tryz.ntmps140
 go_wp2_with fail
 have hBW : But (fun _ => False) w (w.alloc (.cells #[.int .i64 p, .int .u8 112, .int .u8 k.toNat, .int .i64 n, .slice ap np cp] 219)) := But.alloc _ _ _
 have hgW := heap_alloc_new w (.cells #[.int .i64 p, .int .u8 112, .int .u8 k.toNat, .int .i64 n, .slice ap np cp] 219)
 revert hBW hgW
 generalize (w.alloc (.cells #[.int .i64 p, .int .u8 112, .int .u8 k.toNat, .int .i64 n, .slice ap np cp] 219)) = W
 intro hBW hgW
 obtain ⟨k0, k1, k2, k3, k4⟩ := row5 hgW
 have gltW := lt_of_block hgW
 have HGW := hid hgW
 clear hgW
 have hS0 : But (fun _ => False) W W.drew := But.drew _ _
 have HCALL := hid (xft_any b cs k n W.drew hn ((hT.but hBW).but hS0))
 refine wpTx_begin (But (fun _ => False) W) 9 (by kernel_rfl) ?_
 have fSA := hid (fun wS (h : (But (fun _ => False) W) wS) => (And.intro ((h.cell (p := ⟨w.heap.size, 2, none⟩) gltW (fun h => h)).trans k2) ((h.cell (p := ⟨w.heap.size, 3, none⟩) gltW (fun h => h)).trans k3)))
 iterate 7 (refine wpTx_take (v := ?_) rfl (by kernel_rfl) (fun _ _ _ h => h) rfl hS0 ?_ ?_; rotate_left; (focus (intro wS h; obtain ⟨q0, q1⟩ := fSA.out wS h; clear h; go_simp; try rfl)); dsimp only [Act.put]; try simp only [puts])
 try clear fSA
 refine wpTx_step rfl (by kernel_rfl) ?_
 intro KS hKS
 go_simp
 refine HCALL.out.mono ?_
 rintro en wx ⟨rfl, hwx⟩
 rw [hwx]
 clear hwx wx HCALL
 refine hKS.out _ _ (fun _ => hS0) ?_
 clear hKS KS
 obtain ⟨z, hz'⟩ : ∃ z, tatX (fldsX cs k) n = z := ⟨_, rfl⟩
 rw [hz']
 have HZ := hid hz'
 clear hz'
 refine wpTx_step rfl (by kernel_rfl) ?_
 intro KS hKS
 go_simp
 refine hKS.out _ _ (fun _ => hS0.trans (But.alloc _ _ _)) ?_
 clear hKS KS
 refine wpTx_step rfl (by kernel_rfl) ?_
 intro KS hKS
 go_simp
 refine hKS.out _ _ (fun h => absurd h (by decide)) ?_
 clear hKS KS
 refine wpTx_done rfl (by kernel_rfl) ?_
 have hz := hBW.size
 go_wp2_with fail
 exact bodyPost_ret (v := .slice (some ⟨W.heap.size, 0, none⟩) 2 2) (by simp [results, Tryz.results140, go_sem]) rfl ⟨hBW.trans ((But.alloc _ _ _).trans (But.drew _ _)), _, rfl, by rw [HZ.out]; exact BtB.but (BtB.lit W w.heap.size hz [k, z] (by simp)) (But.drew (fun _ => False) _) (fun _ _ h => h)⟩
theorem xtakes_99 (b : Nat) (cs : List XCls) (ms : List Sig) (p n : Nat) (k ans : UInt8) (w : World) {ap : Option Addr} {np cp : Nat} (hm : ms.length ≤ 100) (hM : TxM w b ms) :
  Calls Tryz.prog 140 #[.pointer (some ⟨b, 0, none⟩), .agg #[.int .i64 p, .int .u8 99, .int .u8 k.toNat, .int .i64 n, .slice ap np cp], .int .u8 ans.toNat] w fun e w' => But (fun _ => False) w w' ∧ ∃ v, e = .returned v ∧ BtB w' w.heap.size v [k, (methX ms n).arg] := by
 go_enter Tryz.func140, Tryz.ntmps140
 go_wp2_with fail
 have hBW : But (fun _ => False) w (w.alloc (.cells #[.int .i64 p, .int .u8 99, .int .u8 k.toNat, .int .i64 n, .slice ap np cp] 219)) := But.alloc _ _ _
 have hgW := heap_alloc_new w (.cells #[.int .i64 p, .int .u8 99, .int .u8 k.toNat, .int .i64 n, .slice ap np cp] 219)
 revert hBW hgW
 generalize (w.alloc (.cells #[.int .i64 p, .int .u8 99, .int .u8 k.toNat, .int .i64 n, .slice ap np cp] 219)) = W
 intro hBW hgW
 obtain ⟨k0, k1, k2, k3, k4⟩ := row5 hgW
 have gltW := lt_of_block hgW
 have HGW := hid hgW
 clear hgW
 have hS0 : But (fun _ => False) W W.drew := But.drew _ _
 have HCALL := hid (xmethodAt_any b ms n W.drew hm ((hM.but hBW).but hS0))
 refine wpTx_begin (But (fun _ => False) W) 8 (by kernel_rfl) ?_
 have fSA := hid (fun wS (h : (But (fun _ => False) W) wS) => (And.intro ((h.cell (p := ⟨w.heap.size, 2, none⟩) gltW (fun h => h)).trans k2) ((h.cell (p := ⟨w.heap.size, 3, none⟩) gltW (fun h => h)).trans k3)))
 iterate 5 (refine wpTx_take (v := ?_) rfl (by kernel_rfl) (fun _ _ _ h => h) rfl hS0 ?_ ?_; rotate_left; (focus (intro wS h; obtain ⟨q0, q1⟩ := fSA.out wS h; clear h; go_simp; try rfl)); dsimp only [Act.put]; try simp only [puts])
 try clear fSA
 refine wpTx_step rfl (by kernel_rfl) ?_
 intro KS hKS
 go_simp
 refine HCALL.out.mono ?_
 rintro en wx ⟨rfl, hwx⟩
 clear HCALL
 have hSx := hS0.trans hwx
 refine hKS.out _ _ (fun _ => hSx) ?_
 clear hKS KS
 obtain ⟨z, hz'⟩ : ∃ z, methX ms n = z := ⟨_, rfl⟩
 rw [hz']
 have HZ := hid hz'
 clear hz'
 obtain ⟨za, zr⟩ := z
 dsimp only
 refine wpTx_step rfl (by kernel_rfl) ?_
 intro KS hKS
 go_simp
 refine hKS.out _ _ (fun _ => hSx) ?_
 clear hKS KS
 refine wpTx_step rfl (by kernel_rfl) ?_
 intro KS hKS
 go_simp
 refine hKS.out _ _ (fun _ => hSx.trans (But.alloc _ _ _)) ?_
 clear hKS KS
 refine wpTx_step rfl (by kernel_rfl) ?_
 intro KS hKS
 go_simp
 refine hKS.out _ _ (fun h => absurd h (by decide)) ?_
 clear hKS KS
 refine wpTx_done rfl (by kernel_rfl) ?_
 have hz := hBW.size
 go_wp2_with fail
 have hzx := hSx.size
 exact bodyPost_ret (v := .slice (some ⟨wx.heap.size, 0, none⟩) 2 2) (by simp [results, Tryz.results140, go_sem]) rfl ⟨(hBW.trans hSx).trans (But.alloc _ _ _), _, rfl, by rw [HZ.out]; exact BtB.lit wx w.heap.size (by omega) [k, za] (by simp)⟩
theorem xtakes_any (b : Nat) (cs : List XCls) (ms : List Sig) (p n : Nat) (c k ans : UInt8) (w : World) {ap : Option Addr} {np cp : Nat} (hn : cs.length ≤ 100) (hm : ms.length ≤ 100) (hT : TxC w b cs) (hM : TxM w b ms) :
  Calls Tryz.prog 140 #[.pointer (some ⟨b, 0, none⟩), .agg #[.int .i64 p, .int .u8 c.toNat, .int .u8 k.toNat, .int .i64 n, .slice ap np cp], .int .u8 ans.toNat] w fun e w' => But (fun _ => False) w w' ∧ ∃ v, e = .returned v ∧ BtB w' w.heap.size v (takesX cs ms c k n ans) := by
 by_cases h112 : c.toNat = 112
 ·have hc : c = 112 := UInt8.toNat_inj.1 h112
  subst hc
  exact xtakes_112 b cs ms p n k ans w hn hT
 by_cases h99 : c.toNat = 99
 ·have hc : c = 99 := UInt8.toNat_inj.1 h99
  subst hc
  exact xtakes_99 b cs ms p n k ans w hm hM
 exact xtakes_plain b cs ms p n c k ans w h112 h99
end Go.Proofs.YtpfkkmacakjmbaaGreatDoor
