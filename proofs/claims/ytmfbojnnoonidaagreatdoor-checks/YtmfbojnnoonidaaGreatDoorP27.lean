import Derived.Test.YtmfbojnnoonidaaGreatDoorP26
/- The program adds a body. -/
namespace Go.Proofs.YtmfbojnnoonidaaGreatDoor
open Go Go.RowKit Sp
set_option linter.unusedSimpArgs false
set_option linter.unusedVariables false
attribute [local go_sem ↓] Go.wp_at_zero Go.wp_at_succ

theorem info_xbod : (Tryz.prog.info? 108).map (fun i => (i.zero, i.size, i.bytes)) = some (some (.agg #[.int .u8 0, .int .i64 0, .int .u8 0, .slice none 0 0, .slice none 0 0]), 5, 72) := by kernel_rfl
theorem info_xit : (Tryz.prog.info? 150).map (fun i => (i.zero, i.size, i.bytes)) = some (some (.agg #[.int .i64 0, .int .u8 0, .int .u8 0, .int .i64 0]), 4, 24) := by kernel_rfl

set_option maxHeartbeats 1600000 in
set_option maxRecDepth 100000 in
theorem xaddBody_any (b base : Nat) (s : ByteArray) (i : Nat) (bad : Bool) (v0 v1 : Value) (a2 : Option Addr) (cap2 : Nat) (bs : List XBod) (X : XBod) (al ai : Option Addr) (capl capi : Nat) (w : World) (hnb : bs.length ≤ 7)
    (hR : XrB w b s i bad v0 v1 (.slice a2 bs.length cap2)) (hT : TbV w base (.slice a2 bs.length cap2) bs) (hl : BtB w base (.slice al X.locals.length capl) X.locals) (hi : ItB w base (.slice ai X.items.length capi) X.items) (hb : b < base) (hbase : base ≤ w.heap.size) :
    Calls Tryz.prog 113 #[.pointer (some ⟨b, 0, none⟩), hdV X.cls X.meth X.ans (.slice al X.locals.length capl) (.slice ai X.items.length capi)] w fun en w' => en = .returned (.tuple #[]) ∧ But (fun k => k = b ∨ (Value.slice a2 bs.length cap2).ownBlock = some k) w w' ∧
      ∃ a2' cap2', XrB w' b s i bad v0 v1 (.slice a2' (bs ++ [X]).length cap2') ∧ TbV w' base (.slice a2' (bs ++ [X]).length cap2') (bs ++ [X]) := by
  obtain ⟨i0, hi0, hz0, hz1, hz2⟩ := info_parts info_xbod
  obtain ⟨l, hO, hm, hf⟩ := hT
  have hll : l.length = bs.length := by rw [← hm]; simp
  have HLL := hid hll
  rw [← hll] at hR hO hnb ⊢
  clear hll
  have hbw := hR.lt
  have hBW : But (fun _ => False) w (w.alloc (.cells (hdCells X.cls X.meth X.ans (.slice al X.locals.length capl) (.slice ai X.items.length capi)) 108)) := But.alloc _ _ _
  have hgW := heap_alloc_new w (.cells (hdCells X.cls X.meth X.ans (.slice al X.locals.length capl) (.slice ai X.items.length capi)) 108)
  have hlt := owns_lt hO
  unfold hdV hdCells at *
  go_enter Tryz.func113, Tryz.ntmps113
  go_wp2_with fail
  revert hBW hgW
  generalize (w.alloc (.cells #[.int .u8 X.cls.toNat, .int .i64 X.meth, .int .u8 X.ans.toNat, .slice al X.locals.length capl, .slice ai X.items.length capi] 108)) = W
  intro hBW hgW
  have hRW := hR.but hBW (fun h => h)
  have hOW := owns_but hO hBW (fun _ _ h => h)
  have e2 := hRW.c2
  have g2 := hRW.fz 2
  have bltW := hRW.lt
  have gltW := lt_of_block hgW
  obtain ⟨k0, k1, k2, k3, k4⟩ := row5 hgW
  have ab : (Value.slice a2 l.length cap2).ownBlock ≠ some b := fun h => by have := owns_ge hO _ h; omega
  have agk : (Value.slice a2 l.length cap2).ownBlock ≠ some w.heap.size := fun h => by have := hlt _ h; omega
  have hS0 : But (fun k => (Value.slice a2 l.length cap2).ownBlock = some k) W W.drew := But.drew _ _
  have hbW : base ≤ W.heap.size := by have := hBW.size; omega
  have HGW := hid hgW
  have HM := hid hm
  clear hgW hm
  refine wpTx_begin (But (fun k => (Value.slice a2 l.length cap2).ownBlock = some k) W) 9 (by kernel_rfl) ?_
  have fSA := hid (fun wS (h : (But (fun k => (Value.slice a2 l.length cap2).ownBlock = some k) W) wS) => (And.intro ((h.cell (p := ⟨b, 2, none⟩) bltW ab).trans e2) (And.intro ((h.cell (p := ⟨w.heap.size, 0, none⟩) gltW agk).trans k0) (And.intro ((h.cell (p := ⟨w.heap.size, 1, none⟩) gltW agk).trans k1) (And.intro ((h.cell (p := ⟨w.heap.size, 2, none⟩) gltW agk).trans k2) (And.intro ((h.cell (p := ⟨w.heap.size, 3, none⟩) gltW agk).trans k3) ((h.cell (p := ⟨w.heap.size, 4, none⟩) gltW agk).trans k4)))))))
  refine wpTx_take (v := ?vA0) rfl (by kernel_rfl) ?qA0 rfl hS0 ?yA0 ?rA0
  case yA0 => intro wS h; obtain ⟨q0, q1, q2, q3, q4, q5⟩ := fSA.out wS h; clear h; go_simp; try rfl
  case qA0 => exact fun _ _ _ h => h
  dsimp only [Act.put]
  try simp only [puts]
  refine wpTx_take (v := ?vA1) rfl (by kernel_rfl) ?qA1 rfl hS0 ?yA1 ?rA1
  case yA1 => intro wS h; obtain ⟨q0, q1, q2, q3, q4, q5⟩ := fSA.out wS h; clear h; go_simp; try rfl
  case qA1 => exact fun _ _ _ h => h
  dsimp only [Act.put]
  try simp only [puts]
  refine wpTx_take (v := ?vA2) rfl (by kernel_rfl) ?qA2 rfl hS0 ?yA2 ?rA2
  case yA2 => intro wS h; obtain ⟨q0, q1, q2, q3, q4, q5⟩ := fSA.out wS h; clear h; go_simp; try rfl
  case qA2 => exact fun _ _ _ h => h
  dsimp only [Act.put]
  try simp only [puts]
  refine wpTx_take (v := ?vA3) rfl (by kernel_rfl) ?qA3 rfl hS0 ?yA3 ?rA3
  case yA3 => intro wS h; obtain ⟨q0, q1, q2, q3, q4, q5⟩ := fSA.out wS h; clear h; go_simp; try rfl
  case qA3 => exact fun _ _ _ h => h
  dsimp only [Act.put]
  try simp only [puts]
  refine wpTx_take (v := ?vA4) rfl (by kernel_rfl) ?qA4 rfl hS0 ?yA4 ?rA4
  case yA4 => intro wS h; obtain ⟨q0, q1, q2, q3, q4, q5⟩ := fSA.out wS h; clear h; go_simp; try rfl
  case qA4 => exact fun _ _ _ h => h
  dsimp only [Act.put]
  try simp only [puts]
  refine wpTx_take (v := ?vA5) rfl (by kernel_rfl) ?qA5 rfl hS0 ?yA5 ?rA5
  case yA5 => intro wS h; obtain ⟨q0, q1, q2, q3, q4, q5⟩ := fSA.out wS h; clear h; go_simp; try rfl
  case qA5 => exact fun _ _ _ h => h
  dsimp only [Act.put]
  try simp only [puts]
  refine wpTx_take (v := ?vA6) rfl (by kernel_rfl) ?qA6 rfl hS0 ?yA6 ?rA6
  case yA6 => intro wS h; obtain ⟨q0, q1, q2, q3, q4, q5⟩ := fSA.out wS h; clear h; go_simp; try rfl
  case qA6 => exact fun _ _ _ h => h
  dsimp only [Act.put]
  try simp only [puts]
  try clear fSA
  refine wpTx_step (o := ?oA7) (rest := ?rsA7) ?hoA7 ?hrA7 ?stA7
  case hoA7 => rfl
  case hrA7 => kernel_rfl
  case' stA7 =>
  intro KS hKS
  go_simp
  refine hKS.out _ _ (fun _ => (But.alloc _ _ _).trans (But.drew _ _)) ?_
  clear hKS KS
  refine wpTx_step (o := ?oA8) (rest := ?rsA8) ?hoA8 ?hrA8 ?stA8
  case hoA8 => rfl
  case hrA8 => kernel_rfl
  case' stA8 =>
  intro KS hKS
  refine step_append_lies _ (by rfl) _ _ _ (by rfl) base 108 i0 _ 5 72 (by kernel_rfl) hi0 hz0 hz1 hz2 rfl (by omega) _ l.length (xbCells l) (by rfl) ((hOW.alloc _).drew)
        ⟨W.heap.size, 0, none⟩ 1 1 [.int .u8 X.cls.toNat, .int .i64 X.meth, .int .u8 X.ans.toNat, .slice al X.locals.length capl, .slice ai X.items.length capi] (by rfl) (by rfl) (World.news_of_block (cs := #[.int .u8 X.cls.toNat, .int .i64 X.meth, .int .u8 X.ans.toNat, .slice al X.locals.length capl, .slice ai X.items.length capi]) (t := 108) (fr := (0, 0)) (heap_alloc_new W _)) (by simp [Value.oneCell'])
        (by omega) (by unfold maxLen; omega) (by omega) (by simp; omega) (W.heap.size + 1) (by simp) ?_
  intro gg cap3 w2 hown2 hgrow hat hlt2
  have hSW : But (fun k => (Value.slice a2 l.length cap2).ownBlock = some k) W w2 := ((But.alloc _ _ _).trans (But.drew _ _)).trans (but_grown hgrow)
  refine hKS.out _ _ (fun _ => hSW) ?_
  clear hKS KS
  have y0 := (hSW.cell (p := ⟨b, 2, none⟩) bltW ab).trans e2
  have y1 := (hSW.frozen (p := ⟨b, 2, none⟩) bltW ab).trans g2
  refine wpTx_step (o := ?oA9) (rest := ?rsA9) ?hoA9 ?hrA9 ?stA9
  case hoA9 => rfl
  case hrA9 => kernel_rfl
  case' stA9 =>
  intro KS hKS
  go_simp
  refine hKS.out _ _ (fun h => absurd h (by decide)) ?_
  clear hKS KS
  refine wpTx_step (o := ?oA10) (rest := ?rsA10) ?hoA10 ?hrA10 ?stA10
  case hoA10 => rfl
  case hrA10 => kernel_rfl
  case' stA10 =>
  intro KS hKS
  go_simp
  refine hKS.out _ _ (fun h => absurd h (by decide)) ?_
  clear hKS KS
  refine wpTx_step (o := ?oA11) (rest := ?rsA11) ?hoA11 ?hrA11 ?stA11
  case hoA11 => rfl
  case hrA11 => kernel_rfl
  case' stA11 =>
  intro KS hKS
  go_simp
  refine hKS.out _ _ (fun h => absurd h (by decide)) ?_
  clear hKS KS
  refine wpTx_step (o := ?oA12) (rest := ?rsA12) ?hoA12 ?hrA12 ?stA12
  case hoA12 => rfl
  case hrA12 => kernel_rfl
  case' stA12 =>
  intro KS hKS
  go_simp
  refine hKS.out _ _ (fun h => absurd h (by decide)) ?_
  clear hKS KS
  refine wpTx_done rfl (by kernel_rfl) ?_
  have hgg := owns_ge hown2 gg rfl
  have hR3 := (hRW.but hSW ab).set2 (.slice (some ⟨gg, 0, none⟩) (l.length + 1) cap3)
  have hBW3 : But (fun k => k = b ∨ (Value.slice a2 l.length cap2).ownBlock = some k) W (w2.setCell ⟨b, 2, none⟩ (.slice (some ⟨gg, 0, none⟩) (l.length + 1) cap3)) := (hSW.mono (fun _ _ h => Or.inr h)).next (But.setB _ _ _ _) (fun _ _ h => Or.inl h)
  have hO3 := owns_but hown2 (But.setB w2 b 2 (.slice (some ⟨gg, 0, none⟩) (l.length + 1) cap3)) (fun g hg h => by have := owns_ge hown2 g hg; omega)
  have hF3 : ∀ x ∈ l ++ [(X, .slice al X.locals.length capl, .slice ai X.items.length capi)], BtB (w2.setCell ⟨b, 2, none⟩ (.slice (some ⟨gg, 0, none⟩) (l.length + 1) cap3)) base x.2.1 x.1.locals ∧ ItB (w2.setCell ⟨b, 2, none⟩ (.slice (some ⟨gg, 0, none⟩) (l.length + 1) cap3)) base x.2.2 x.1.items := by
    have hoff : ∀ g cur e, W.heap[g]? = some (.cells cur e) → e ≠ 108 → base ≤ g → ¬ (g = b ∨ (Value.slice a2 l.length cap2).ownBlock = some g) := by
      intro g cur e hh he hg h
      rcases h with h | h
      · omega
      · exact owns_apart hOW hh he h
    intro x hx
    rcases List.mem_append.1 hx with hx | hx
    · have h1 := hf x hx
      exact ⟨owns_off (h1.1.but hBW (fun _ _ h => h)) hBW3 (fun g cur hh hg => hoff g cur _ hh (by decide) hg), owns_off (owns_but h1.2 hBW (fun _ _ h => h)) hBW3 (fun g cur hh hg => hoff g cur _ hh (by decide) hg)⟩
    · simp at hx
      subst hx
      exact ⟨owns_off (hl.but hBW (fun _ _ h => h)) hBW3 (fun g cur hh hg => hoff g cur _ hh (by decide) hg), owns_off (owns_but hi hBW (fun _ _ h => h)) hBW3 (fun g cur hh hg => hoff g cur _ hh (by decide) hg)⟩
  have hC3 : TbV (w2.setCell ⟨b, 2, none⟩ (.slice (some ⟨gg, 0, none⟩) (l.length + 1) cap3)) base (.slice (some ⟨gg, 0, none⟩) (l.length + 1) cap3) (bs ++ [X]) :=
    ⟨l ++ [(X, .slice al X.locals.length capl, .slice ai X.items.length capi)], by rw [xbCells_snoc, List.length_append]; exact hO3, by rw [List.map_append, HM.out]; rfl, hF3⟩
  have hB3 : But (fun k => k = b ∨ (Value.slice a2 l.length cap2).ownBlock = some k) w (w2.setCell ⟨b, 2, none⟩ (.slice (some ⟨gg, 0, none⟩) (l.length + 1) cap3)) := (hBW.mono (fun _ _ h => h.elim)).trans hBW3
  clear hF3 hBW3 hO3
  generalize (w2.setCell ⟨b, 2, none⟩ (.slice (some ⟨gg, 0, none⟩) (l.length + 1) cap3)) = W3 at *
  clear y0 y1 e2 g2 k0 k1 k2 k3 k4 hSW hgrow
  have hlen : (bs ++ [X]).length = l.length + 1 := by rw [List.length_append, ← HLL.out]; rfl
  have HLN := hid hlen
  clear hlen
  go_wp2_with fail
  go_end0
  refine ⟨rfl, hB3, some ⟨gg, 0, none⟩, cap3, ?_⟩
  rw [HLN.out]
  exact ⟨hR3, hC3⟩
end Go.Proofs.YtmfbojnnoonidaaGreatDoor
/- The program reads a body. -/
namespace Go.Proofs.YtmfbojnnoonidaaGreatDoor
open Go Go.RowKit Sp
set_option linter.unusedSimpArgs false
set_option linter.unusedVariables false
attribute [local go_sem ↓] Go.wp_at_zero Go.wp_at_succ

def codeB (s : ByteArray) (cs : List Cls) (ns nl i : Nat) (bad : Bool) : Except Nat (List Ins × Nat) := if bad = true then .error i else codeP s cs ns nl 100 [] i
def CodeC (s : ByteArray) (cs : List Cls) (ns nl : Nat) (R : Except Nat (List Ins × Nat)) (mm : Nat) (items : List XIt) (j : Nat) (bad : Bool) : Prop :=
  (bad = false ∧ ∃ is, items = is.map toXI ∧ is ≠ [] ∧ is.length + mm = 100 ∧ codeP s cs ns nl mm is j = R) ∨ (bad = true ∧ R = .error j)

section
variable {s : ByteArray} {cs : List Cls} {ns nl : Nat} {R : Except Nat (List Ins × Nat)}
theorem codeP_step {k : Nat} {is : List Ins} {j : Nat} (h : ¬ ((pk s j).toNat = 46 ∧ is ≠ [])) : codeP s cs ns nl (k + 1) is j = match insP s cs ns nl j with
    | .error j => .error j
    | .ok (x, j) => codeP s cs ns nl k (is ++ [x]) j := by
  rw [codeP, if_neg h]
  cases insP s cs ns nl j <;> rfl

theorem CodeC.start {i : Nat} {bad : Bool} (hR : codeB s cs ns nl i bad = R) {x : XIt} {j : Nat} {bad' : Bool} (h : InsR s cs ns nl i bad x j bad') : CodeC s cs ns nl R 99 [x] j bad' := by
  unfold codeB at hR
  unfold InsR insB at h
  cases bad with
  | true =>
    simp only [if_true] at h hR
    rcases h with ⟨_, y, h, _⟩ | ⟨h1, h2⟩
    · cases h
    · cases h2
      exact Or.inr ⟨h1, hR.symm⟩
  | false =>
    simp only [Bool.false_eq_true, if_false] at h hR
    rw [codeP_step (by simp)] at hR
    rcases h with ⟨h1, y, h2, h3⟩ | ⟨h1, h2⟩
    · rw [h2] at hR
      exact Or.inl ⟨h1, [y], by simp [h3], by simp, by simp, hR⟩
    · rw [h2] at hR
      exact Or.inr ⟨h1, hR.symm⟩

theorem CodeC.next {mm : Nat} {items : List XIt} {j : Nat} (h : CodeC s cs ns nl R mm items j false) (hl : items.length < 100) (hp : pk s j ≠ 46) {x : XIt} {j' : Nat} {bad' : Bool} (hi : InsR s cs ns nl j false x j' bad') : ∃ m', m' < mm ∧ CodeC s cs ns nl R m' (items ++ [x]) j' bad' := by
  rcases h with ⟨_, is, h1, h2, h3, h4⟩ | ⟨h, _⟩
  · have hil : is.length < 100 := by rw [h1, List.length_map] at hl; exact hl
    obtain ⟨f, rfl⟩ : ∃ f, mm = f + 1 := ⟨mm - 1, by omega⟩
    rw [codeP_step (fun h => hp ((u8n (by decide)).1 h.1))] at h4
    unfold InsR insB at hi
    simp only [Bool.false_eq_true, if_false] at hi
    rcases hi with ⟨e1, y, e2, e3⟩ | ⟨e1, e2⟩
    · rw [e2] at h4
      exact ⟨f, by omega, Or.inl ⟨e1, is ++ [y], by rw [h1, List.map_append, e3]; rfl, by simp, by simp; omega, h4⟩⟩
    · rw [e2] at h4
      exact ⟨0, by omega, Or.inr ⟨e1, h4.symm⟩⟩
  · cases h

theorem CodeC.fin {mm : Nat} {items : List XIt} {j : Nat} {bad : Bool} (h : CodeC s cs ns nl R mm items j bad) (hx : bad = true ∨ ¬ items.length < 100 ∨ pk s j = 46) :
    ((tkP s 46 j bad).2 = false ∧ ∃ is, R = .ok (is, (tkP s 46 j bad).1) ∧ items = is.map toXI) ∨ ((tkP s 46 j bad).2 = true ∧ R = .error (tkP s 46 j bad).1) := by
  rcases h with ⟨rfl, is, h1, h2, h3, h4⟩ | ⟨rfl, h2⟩
  · by_cases hp : pk s j = 46
    · left
      rw [tkP_ok hp]
      refine ⟨rfl, is, ?_, h1⟩
      rw [← h4]
      cases mm <;> simp [codeP, hp, h2]
    · right
      rw [tkP_no (Or.inr hp)]
      refine ⟨rfl, ?_⟩
      have hm : mm = 0 := by
        rcases hx with h | h | h
        · cases h
        · rw [h1, List.length_map] at h; omega
        · exact absurd h hp
      subst hm
      rw [← h4]
      have : ¬ ((pk s j).toNat = 46 ∧ is ≠ []) := fun h => hp ((u8n (by decide)).1 h.1)
      simp only [codeP, if_neg this]
  · right
    rw [tkP_no (Or.inl rfl)]
    exact ⟨rfl, h2⟩
end

set_option maxHeartbeats 1600000 in
set_option maxRecDepth 100000 in
theorem xreadBody_any (b base : Nat) (s : ByteArray) (i : Nat) (bad : Bool) (SC : List Cls) (a0 a1 a2 : Option Addr) (ng cap0 cap1 cap2 : Nat) (bs : List XBod) (c r : UInt8) (m : Nat) (al : Option Addr) (capl : Nat) (lo : List UInt8) (w : World)
    (hwf : WfC SC) (hnc : SC.length ≤ 4) (hng : ng ≤ 3) (hnb : bs.length ≤ 6) (hlo : lo.length ≤ 5) (hs : s.size ≤ 2000)
    (hR : XrB w b s i bad (.slice a0 SC.length cap0) (.slice a1 ng cap1) (.slice a2 bs.length cap2)) (hC : TcV w base (.slice a0 SC.length cap0) (SC.map toX)) (hT : TbV w base (.slice a2 bs.length cap2) bs) (hl : BtB w base (.slice al lo.length capl) lo) (hb : b < base) (hbase : base ≤ w.heap.size) :
    Calls Tryz.prog 66 #[.pointer (some ⟨b, 0, none⟩), hdV c m r (.slice al lo.length capl) (.slice none 0 0)] w fun en w' => en = .returned (.tuple #[]) ∧ But (fun k => k = b ∨ (Value.slice a2 bs.length cap2).ownBlock = some k) w w' ∧
      ∃ a2' cap2' X j bad', XrB w' b s j bad' (.slice a0 SC.length cap0) (.slice a1 ng cap1) (.slice a2' (bs ++ [X]).length cap2') ∧ TbV w' base (.slice a2' (bs ++ [X]).length cap2') (bs ++ [X]) ∧ (XBod.items X).length ≤ 100 ∧
      ((bad' = false ∧ ∃ is, codeB s SC ng lo.length i bad = .ok (is, j) ∧ X = ⟨c, m, r, lo, is.map toXI⟩) ∨ (bad' = true ∧ codeB s SC ng lo.length i bad = .error j)) := by
  obtain ⟨R, hRR⟩ : ∃ R, codeB s SC ng lo.length i bad = R := ⟨_, rfl⟩
  rw [hRR]
  have HRR := hid hRR
  clear hRR
  obtain ⟨i0, hi0, hz0, hz1, hz2⟩ := info_parts info_xit
  have hbw := hR.lt
  have hBW : But (fun _ => False) w (w.alloc (.cells (hdCells c m r (.slice al lo.length capl) (.slice none 0 0)) 108)) := But.alloc _ _ _
  have hgW := heap_alloc_new w (.cells (hdCells c m r (.slice al lo.length capl) (.slice none 0 0)) 108)
  have HC := hid (fun (w' : World) (h : But (· = b) w w') => hC.but h (fun g e cur _ _ hg he => by omega))
  have HT := hid (fun (w' : World) (h : But (· = b) w w') => hT.but h (fun g e cur _ _ hg he => by omega))
  have HL := hid (fun (w' : World) (h : But (· = b) w w') => hl.but h (fun g hg he => by have := owns_ge hl g hg; omega))
  have HWF := hid hwf
  have HINS := hid (fun (w' : World) (i' : Nat) (bad' : Bool) (h : But (· = b) w w') (hr : XrB w' b s i' bad' (.slice a0 SC.length cap0) (.slice a1 ng cap1) (.slice a2 bs.length cap2)) => xinstr_any b base s i' SC a0 a1 ng lo.length cap0 cap1 _ w' bad' hwf hnc hng (by omega) hs hr (HC.out w' h) hb)
  clear hC hT hl hwf
  unfold hdV hdCells at *
  go_enter Tryz.func66, Tryz.ntmps66
  go_wp2_with fail
  revert hBW hgW
  generalize (w.alloc (.cells #[.int .u8 c.toNat, .int .i64 m, .int .u8 r.toNat, .slice al lo.length capl, .slice none 0 0] 108)) = W
  intro hBW hgW
  have hRW := hR.but hBW (fun h => h)
  have hBW' : But (· = b) w W := hBW.mono (fun _ _ h => h.elim)
  have hgl := lt_of_block hgW
  have HGW := hid hgW
  clear hgW
  refine (HINS.out W i bad hBW' hRW).mono ?_
  rintro en w1 ⟨hB1, x, j1, bad1, rfl, hR1, hI1⟩
  have HCC := hid (CodeC.start HRR.out hI1)
  have hg1 := (hB1.block w.heap.size hgl (by omega)).trans HGW.out
  have hBw1 := hBW'.trans hB1
  clear hI1 HRR
  unfold itV
  go_wp2_with fail
  have hB2 : But (fun _ => False) w1 ((w1.alloc (.cells #[.int .i64 x.place, .int .u8 x.op.toNat, .int .u8 x.cls.toNat, .int .i64 x.num] 150)).alloc (.cells #[.int .i64 x.place, .int .u8 x.op.toNat, .int .u8 x.cls.toNat, .int .i64 x.num] 150)) := (But.alloc _ _ _).trans (But.alloc _ _ _)
  have hI2 : ItB ((w1.alloc (.cells #[.int .i64 x.place, .int .u8 x.op.toNat, .int .u8 x.cls.toNat, .int .i64 x.num] 150)).alloc (.cells #[.int .i64 x.place, .int .u8 x.op.toNat, .int .u8 x.cls.toNat, .int .i64 x.num] 150)) w1.heap.size (.slice (some ⟨w1.heap.size + 1, 0, none⟩) 1 1) [x] :=
    ⟨rfl, Or.inr ⟨w1.heap.size + 1, 1, _, rfl, by omega, heap_alloc_at (by simp) _, by simp, by unfold maxLen; omega, rfl, rfl⟩⟩
  revert hB2 hI2
  generalize ((w1.alloc (.cells #[.int .i64 x.place, .int .u8 x.op.toNat, .int .u8 x.cls.toNat, .int .i64 x.num] 150)).alloc (.cells #[.int .i64 x.place, .int .u8 x.op.toNat, .int .u8 x.cls.toNat, .int .i64 x.num] 150)) = w2
  intro hB2 hI2
  have hR2 := hR1.but hB2 (fun h => h)
  have hBw2 : But (· = b) w w2 := hBw1.next hB2 (fun _ _ h => h.elim)
  have hg2 := (hB2.block w.heap.size (lt_of_block hg1) (fun h => h)).trans hg1
  have HG2 := hid hg2
  have hz1' := hB1.size
  have hz2' := hB2.size
  clear hg2 hg1 hR1 hB2
  go_loopg [5] 99 (fun mm vs wr => ∃ (ao : Option Addr) (cap j : Nat) (bad' : Bool) (items : List XIt), vs = .slice ao items.length cap ∧ items.length ≤ 100 ∧ W.heap.size ≤ wr.heap.size ∧ But (· = b) w wr ∧ XrB wr b s j bad' (.slice a0 SC.length cap0) (.slice a1 ng cap1) (.slice a2 bs.length cap2) ∧ ItB wr W.heap.size (.slice ao items.length cap) items ∧ Hid (wr.heap[w.heap.size]? = some (.cells #[.int .u8 c.toNat, .int .i64 m, .int .u8 r.toNat, .slice al lo.length capl, .slice none 0 0] 108)) ∧ Hid (CodeC s SC ng lo.length R mm items j bad'))
  case atStart => exact ⟨_, 1, j1, bad1, [x], rfl, by simp, Nat.le_trans hz1' hz2', hBw2, hR2, World.ownsRow.mono hI2 hz1', HG2, HCC.out⟩
  case round =>
    obtain ⟨ao, cap, j, bad', items, rfl, hil, hWr, hBr, hRr, hIt, HGr, HC1⟩ := hrel
    have hszr := hBr.size
    have hbr := hRr.lt
    have HF := hid (fun h => HC1.out.fin h)
    by_cases hlt : items.length < 100
    · have hlI : (items.length : Int) < 100 := by omega
      by_cases hgo : bad' = false ∧ pk s j ≠ 46
      · obtain ⟨rfl, hne⟩ := hgo
        have hbv : (!false && !decide (pk s j = 46)) = true := by simp [hne]
        have hbef := xbefore_any b s j false _ _ _ wr 46 hRr
        rw [hbv] at hbef
        have HBF := hid hbef
        have HNX := hid (fun x j' bad' => HC1.out.next hlt hne (x := x) (j' := j') (bad' := bad'))
        clear hbv hbef hne HC1 HF
        obtain ⟨q0, q1, q2, q3, q4⟩ := row5 HGr.out
        go_wp2_with fail
        refine HBF.out.mono ?_
        rintro en w3 ⟨rfl, k, rfl⟩
        go_wp2_with fail
        refine (HINS.out (wr.drewN k) j false (hBr.trans (But.drewN _ _ _)) (hRr.drewN k)).mono ?_
        rintro en w4 ⟨hB4, y, j4, bad4, rfl, hR4, hI4⟩
        obtain ⟨m', hm', hC'⟩ := HNX.out y j4 bad4 hI4
        have HC' := hid hC'
        have hBr4 : But (· = b) wr w4 := (But.drewN _ _ _).trans hB4
        have hBw4 : But (· = b) w w4 := hBr.trans hBr4
        have hIt4 : w4.ownsRow W.heap.size 150 4 (.slice ao items.length cap) items.length (itCells items) := owns_but hIt hBr4 (fun g hg h => by have := owns_ge hIt g hg; omega)
        have hg4 := (hBr4.block w.heap.size (lt_of_block HGr.out) (by omega)).trans HGr.out
        have HG4 := hid hg4
        have hIge := owns_ge hIt4
        have hz4 := hBw4.size
        have hzr := hBr4.size
        have hWr4 : W.heap.size ≤ w4.heap.size := by omega
        clear hI4 hC' HNX hg4 q0 q1 q2 q3 q4
        unfold itV
        go_wp2_with (at_builtin; refine wpList_append_lies _ rfl _ _ _ rfl W.heap.size 150 i0 _ 4 24 (by kernel_rfl) hi0 hz0 hz1 hz2 rfl (by omega) _ items.length (itCells items) rfl ((hIt4.alloc _).alloc _) ⟨w4.heap.size + 1, 0, none⟩ 1 1 [.int .i64 y.place, .int .u8 y.op.toNat, .int .u8 y.cls.toNat, .int .i64 y.num] rfl rfl (World.news_of_block (cs := #[.int .i64 y.place, .int .u8 y.op.toNat, .int .u8 y.cls.toNat, .int .i64 y.num]) (t := 150) (fr := (0, 0)) (heap_alloc_at (by simp) _)) (by simp [Value.oneCell']) (by omega) (by unfold maxLen; omega) (by omega) (by simp; omega) (w4.heap.size + 2) (by simp) ?_)
        intro gg cap3 w5 hown2 hgrow hat hlt2
        have hSW : But (fun k' => (Value.slice ao items.length cap).ownBlock = some k') w4 w5 := ((But.alloc _ _ _).trans (But.alloc _ _ _)).trans (but_grown hgrow)
        have hBw5 : But (· = b) w w5 := hBw4.next hSW (fun k' hk' h => absurd (hIge k' h) (by omega))
        have hR5 := hR4.but hSW (fun h => by have := hIge _ h; omega)
        have hg5 := (hSW.block w.heap.size (by omega) (fun h => by have := hIge _ h; omega)).trans HG4.out
        have HG5 := hid hg5
        have hIt5 : ItB w5 W.heap.size (.slice (some ⟨gg, 0, none⟩) (items ++ [y]).length cap3) (items ++ [y]) := by
          unfold ItB
          rw [List.length_append, itCells_snoc]
          exact hown2
        clear hg5
        go_wp2_with fail
        go_roundg m'
        case measure => omega
        case rel => exact ⟨_, cap3, j4, bad4, items ++ [y], by simp, by simp; omega, Nat.le_trans hWr4 hSW.size, hBw5, hR5, hIt5, HG5, HC'.out⟩
      · have hbv : (!bad' && !decide (pk s j = 46)) = false := by
          cases bad' with
          | true => rfl
          | false =>
            by_cases h : pk s j = 46
            · simp [h]
            · exact absurd ⟨rfl, h⟩ hgo
        have hx : bad' = true ∨ ¬ items.length < 100 ∨ pk s j = 46 := by
          cases bad' with
          | true => exact Or.inl rfl
          | false =>
            right; right
            by_cases h : pk s j = 46
            · exact h
            · exact absurd ⟨rfl, h⟩ hgo
        have HX := hid hx
        have hbef := xbefore_any b s j bad' _ _ _ wr 46 hRr
        rw [hbv] at hbef
        have HBF := hid hbef
        clear hbv hbef hx hgo HC1
        go_wp2_with fail
        refine HBF.out.mono ?_
        rintro en w3 ⟨rfl, k, rfl⟩
        go_wp2_with fail
        refine (xtake_any b s j bad' _ _ _ _ 46 (by decide) hs (hRr.drewN k)).mono ?_
        rintro en w2 ⟨rfl, hB2, hR2⟩
        have hF2 := HF.out HX.out
        obtain ⟨TK, hTK⟩ : ∃ TK, tkP s 46 j bad' = TK := ⟨_, rfl⟩
        rw [hTK] at hR2 hF2
        have HF2 := hid hF2
        clear hTK hF2 HF
        obtain ⟨j2, bad2⟩ := TK
        dsimp only at hR2 HF2
        have hBr2 : But (· = b) wr w2 := (But.drewN _ _ _).trans hB2
        have hBw2 : But (· = b) w w2 := hBr.trans hBr2
        have hg2 := (hBr2.block w.heap.size (lt_of_block HGr.out) (by omega)).trans HGr.out
        have hI2 : ItB w2 W.heap.size (.slice ao items.length cap) items := owns_but hIt hBr2 (fun g hg h => by have := owns_ge hIt g hg; omega)
        obtain ⟨q0, q1, q2, q3, q4⟩ := row5 hg2
        have f4 : w2.frozen? ⟨w.heap.size, 4, none⟩ = false := frozen_of_row w2 w.heap.size 4 _ _ hg2
        have hB3 := But.setB w2 w.heap.size 4 (.slice ao items.length cap)
        have hR3 := hR2.but hB3 (by omega)
        have hBw3 : But (· = b) w (w2.setCell ⟨w.heap.size, 4, none⟩ (.slice ao items.length cap)) := hBw2.next hB3 (fun k hk h => by omega)
        have hI3 : ItB (w2.setCell ⟨w.heap.size, 4, none⟩ (.slice ao items.length cap)) base (.slice ao items.length cap) items := World.ownsRow.mono (owns_but hI2 hB3 (fun g hg h => by have := owns_ge hI2 g hg; omega)) (by omega)
        have hz3 := hBw3.size
        have hadd := xaddBody_any b base s j2 bad2 _ _ a2 cap2 bs ⟨c, m, r, lo, items⟩ al ao capl cap _ (by omega) hR3 (HT.out _ hBw3) (HL.out _ hBw3) hI3 hb (by omega)
        have HADD := hid hadd
        have HB3 := hid hBw3
        clear hadd hI3 hR3 hB3 hBw3 hg2 hz3
        unfold hdV at HADD
        go_wp2_with fail
        refine HADD.out.mono ?_
        rintro en w5 ⟨rfl, hB5, a5, cap5, hR5, hT5⟩
        go_wp2_with fail
        go_end0
        refine ⟨rfl, (HB3.out.mono (fun _ _ h => Or.inl h)).trans hB5, a5, cap5, ⟨c, m, r, lo, items⟩, j2, bad2, hR5, hT5, hil, ?_⟩
        rcases HF2.out with ⟨h1, is, h2, h3⟩ | h
        · exact Or.inl ⟨h1, is, h2, by rw [h3]⟩
        · exact Or.inr h
    · have hlI : ¬ (items.length : Int) < 100 := by omega
      clear HC1
      go_wp2_with fail
      refine (xtake_any b s j bad' _ _ _ _ 46 (by decide) hs hRr).mono ?_
      rintro en w2 ⟨rfl, hB2, hR2⟩
      have hF2 := HF.out (Or.inr (Or.inl hlt))
      obtain ⟨TK, hTK⟩ : ∃ TK, tkP s 46 j bad' = TK := ⟨_, rfl⟩
      rw [hTK] at hR2 hF2
      have HF2 := hid hF2
      clear hTK hF2 HF
      obtain ⟨j2, bad2⟩ := TK
      dsimp only at hR2 HF2
      have hBr2 : But (· = b) wr w2 := hB2
      have hBw2 : But (· = b) w w2 := hBr.trans hBr2
      have hg2 := (hBr2.block w.heap.size (lt_of_block HGr.out) (by omega)).trans HGr.out
      have hI2 : ItB w2 W.heap.size (.slice ao items.length cap) items := owns_but hIt hBr2 (fun g hg h => by have := owns_ge hIt g hg; omega)
      obtain ⟨q0, q1, q2, q3, q4⟩ := row5 hg2
      have f4 : w2.frozen? ⟨w.heap.size, 4, none⟩ = false := frozen_of_row w2 w.heap.size 4 _ _ hg2
      have hB3 := But.setB w2 w.heap.size 4 (.slice ao items.length cap)
      have hR3 := hR2.but hB3 (by omega)
      have hBw3 : But (· = b) w (w2.setCell ⟨w.heap.size, 4, none⟩ (.slice ao items.length cap)) := hBw2.next hB3 (fun k hk h => by omega)
      have hI3 : ItB (w2.setCell ⟨w.heap.size, 4, none⟩ (.slice ao items.length cap)) base (.slice ao items.length cap) items := World.ownsRow.mono (owns_but hI2 hB3 (fun g hg h => by have := owns_ge hI2 g hg; omega)) (by omega)
      have hz3 := hBw3.size
      have hadd := xaddBody_any b base s j2 bad2 _ _ a2 cap2 bs ⟨c, m, r, lo, items⟩ al ao capl cap _ (by omega) hR3 (HT.out _ hBw3) (HL.out _ hBw3) hI3 hb (by omega)
      have HADD := hid hadd
      have HB3 := hid hBw3
      clear hadd hI3 hR3 hB3 hBw3 hg2 hz3
      unfold hdV at HADD
      go_wp2_with fail
      refine HADD.out.mono ?_
      rintro en w5 ⟨rfl, hB5, a5, cap5, hR5, hT5⟩
      go_wp2_with fail
      go_end0
      refine ⟨rfl, (HB3.out.mono (fun _ _ h => Or.inl h)).trans hB5, a5, cap5, ⟨c, m, r, lo, items⟩, j2, bad2, hR5, hT5, hil, ?_⟩
      rcases HF2.out with ⟨h1, is, h2, h3⟩ | h
      · exact Or.inl ⟨h1, is, h2, by rw [h3]⟩
      · exact Or.inr h
end Go.Proofs.YtmfbojnnoonidaaGreatDoor
