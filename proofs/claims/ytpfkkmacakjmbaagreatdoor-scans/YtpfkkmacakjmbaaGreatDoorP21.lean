import Derived.Test.YtpfkkmacakjmbaaGreatDoorP20
import Derived.Test.YtpfkkmacakjmbaaGreatDoorP01
set_option maxRecDepth 100000
set_option maxHeartbeats 6400000
namespace Go.Proofs.YtpfkkmacakjmbaaGreatDoor
open Go Go.RowKit Sp
set_option linter.unusedSimpArgs false
set_option linter.unusedVariables false
attribute [local go_sem ↓] Go.wp_at_zero Go.wp_at_succ
theorem ins_oper {s : ByteArray} {SC : List Cls} {ng nl i : Nat} {c : UInt8} {x : XIt} {j : Nat} {bad' : Bool} (hnc : SC.length ≤ 4) (hpc : pk s i = c) (hn : ¬ (c.toNat = 114 ∨ c.toNat = 119 ∨ c.toNat = 43 ∨ c.toNat = 45 ∨ c.toNat = 42 ∨ c.toNat = 47 ∨ c.toNat = 60 ∨ c.toNat = 61 ∨ c.toNat = 101 ∨ c.toNat = 122 ∨ c.toNat = 100 ∨ c.toNat = 116 ∨ c.toNat = 107 ∨ c.toNat = 106 ∨ c.toNat = 102))
  (h : operX s SC ng nl i c (i + 1) false = (x, j, bad')) : InsR s SC ng nl i false x j bad' := by
 unfold operX at h
 by_cases h1 : c.toNat = 108 ∨ c.toNat = 115
 ·rw [if_pos h1] at h
  obtain ⟨rfl, rfl, rfl⟩ := (by simpa using h : _ ∧ _ ∧ _)
  exact ins_dig (n := nl) hpc (Or.inr ⟨h1, rfl⟩) rfl
 rw [if_neg h1] at h
 by_cases h2 : c.toNat = 110 ∨ c.toNat = 120
 ·rw [if_pos h2] at h
  obtain ⟨rfl, rfl, rfl⟩ := (by simpa using h : _ ∧ _ ∧ _)
  exact ins_cls hnc hpc h2 rfl
 rw [if_neg h2] at h
 by_cases h3 : c.toNat = 103 ∨ c.toNat = 112
 ·rw [if_pos h3] at h
  obtain ⟨rfl, rfl, rfl⟩ := (by simpa using h : _ ∧ _ ∧ _)
  exact ins_fld hnc hpc h3 rfl rfl
 rw [if_neg h3] at h
 by_cases h4 : c.toNat = 99
 ·rw [if_pos h4] at h
  obtain ⟨rfl, rfl, rfl⟩ := (by simpa using h : _ ∧ _ ∧ _)
  exact ins_call hnc hpc h4 rfl rfl
 rw [if_neg h4] at h
 obtain ⟨rfl, rfl, rfl⟩ := (by simpa using h : _ ∧ _ ∧ _)
 try simp only [Bool.false_eq_true, if_false]
 refine ins_no ?_
 rw [hpc]
 simp only [letters, List.contains_eq_mem, List.mem_cons, List.not_mem_nil, or_false, decide_eq_false_iff_not]
 omega
theorem oper_end {s : ByteArray} {SC : List Cls} {ng nl i : Nat} : operX s SC ng nl i 0 i true = (⟨i, 0, 45, 0, none, 0, 0⟩, i, true) := by
 unfold operX
 simp
section
variable (b base : Nat) (s : ByteArray) (i : Nat) (SC : List Cls) (a0 a1 al : Option Addr) (ng nl cap0 cap1 capl : Nat) (v2 : RdV) (w : World)
end
theorem info_xbod : (Tryz.prog.info? 115).map (fun i => (i.zero, i.size, i.bytes)) = some (some (.agg #[.int .u8 0, .int .i64 0, .int .u8 0, .slice none 0 0, .slice none 0 0]), 5, 72) := by kernel_rfl
theorem info_xit : (Tryz.prog.info? 219).map (fun i => (i.zero, i.size, i.bytes)) = some (some (.agg #[.int .i64 0, .int .u8 0, .int .u8 0, .int .i64 0, .slice none 0 0]), 5, 48) := by kernel_rfl
theorem itCells_one (l : List XIt) : ∀ u ∈ itCells l, u.oneCell' = true := by
 intro u hu
 obtain ⟨x, _, hx⟩ := List.mem_flatMap.1 hu
 simp only [List.mem_cons, List.not_mem_nil, or_false] at hx
 rcases hx with h | h | h | h | h <;> (rw [h]; rfl)
theorem run_copy_its (w : World) (ty : TypeId) (base bx : Nat) (v xv : Value) (m : List XIt) (hown : ItB w base v []) (hx : ItB w bx xv m) (hlen : m.length ≤ 100000) (hbase : base ≤ w.heap.size) :
  ∃ v' w', (Builtin.append_ #[113, 113] ty #[v, xv]).run Tryz.prog w = .ok v' w' ∧ ItB w' base v' m ∧ But (fun k => v.ownBlock = some k) w w' ∧ (v'.ownBlock = v.ownBlock ∨ v'.ownBlock = some w.heap.size) := by
 obtain ⟨i0, hi0, hz0, hz1, hz2⟩ := info_parts info_xit
 have hu : Tryz.prog.underlying 113 = some (.slice 219) := by kernel_rfl
 obtain ⟨ax, cx, rfl⟩ := owns_len hx
 cases ax with
 | none =>
  have hm : m.length = 0 := by
   rcases Nat.eq_zero_or_pos m.length with h | h
   ·exact h
   ·obtain ⟨g, hg, _⟩ := owns_two hx h
    cases hg
  have hm0 : m = [] := List.length_eq_zero_iff.1 hm
  subst hm0
  have hc : ∃ ao cap, v = .slice ao 0 cap := by
   obtain ⟨ao, cap, h⟩ := owns_len hown
   exact ⟨ao, cap, h⟩
  obtain ⟨ao, cap, rfl⟩ := hc
  refine ⟨_, w, run_append_nothing w _ _ ty 219 i0 hu hi0 ao 0 cap (by omega) _ (by rw [hz1]; exact Src.ofNil w hu cx), hown, But.refl _ _, Or.inl rfl⟩
 | some ad =>
  have hcell : ∀ j u, (itCells m)[j]? = some u → w.cell? (ad.add j) = some u := by
   intro j u hj
   obtain ⟨g, cap', hv, hc, _⟩ := owns_cell hx hj
   have h1 : ad = ⟨g, 0, none⟩ := by
    have h2 := congrArg (fun v => match v with | Value.slice a _ _ => a | _ => none) hv
    exact Option.some.inj h2
   rw [h1]
   have e : (⟨g, 0, none⟩ : Addr).add j = ⟨g, j, none⟩ := by simp [Addr.add]; exact fun h => h.symm
   rw [e]
   exact hc
  obtain ⟨v', w', hr, h2, h3, _, h5⟩ := run_append_own_at (P := Tryz.prog) w base _ ty 219 i0 _ 5 48 hu hi0 hz0 hz1 hz2 rfl (by omega) v 0 (itCells []) hown ad m.length cx (itCells m) (itCells_len m) hcell (itCells_one m) (by unfold maxLen; omega) (by omega) hbase
  refine ⟨v', w', hr, ?_, but_grown h3, h5⟩
  unfold ItB
  rw [Nat.zero_add] at h2
  exact h2
theorem wpList_copy_its {w : World} {ops : Array Oper} {rest : List Oper} {o : Oper} {a : Act} {Q : Exit → Act → World → Prop} (hgd : o.guard = none) (s x : Operand)
  (ho : o.op = .call { callee := .builtin .append, args := #[s, x], argTypes := #[113, 113] }) (base bx : Nat) (v xv : Value) (m : List XIt) (hs : a.eval s = v) (hx : a.eval x = xv) (hown : ItB w base v []) (hxo : ItB w bx xv m) (hlen : m.length ≤ 100000) (hbase : base ≤ w.heap.size)
  (h : ∀ ao cap w', ItB w' base (.slice ao m.length cap) m → But (fun k => v.ownBlock = some k) w w' → wpList Tryz.prog ops Q rest (a.put o.dst (.slice ao m.length cap)) w') : wpList Tryz.prog ops Q (o :: rest) a w := by
 refine wpList_plain hgd fun K hK => ?_
 obtain ⟨v', w', hr, h1, h2, h3⟩ := run_copy_its w o.type base bx v xv m hown hxo hlen hbase
 obtain ⟨ao, cap, rfl⟩ := owns_len h1
 unfold Oper.wp execOp
 simp only [ho, resolve, invoke, builtin, Sem.run_bind, Sem.run_pure, Result.andThen_ok, List.map_toArray, List.map_cons, List.map_nil, hs, hx, hr]
 exact hK _ _ (h ao cap w' h1 h2)
theorem ItB.empty (w : World) : ItB (w.alloc (.cells #[] 219)) w.heap.size (.slice (some ⟨w.heap.size, 0, none⟩) 0 0) [] :=
 ⟨rfl, Or.inr ⟨w.heap.size, 0, #[], rfl, Nat.le_refl _, heap_alloc_new w _, by simp, by unfold maxLen; omega, rfl, rfl⟩⟩
theorem xendBody_any (b base bx : Nat) (s : ByteArray) (i : Nat) (bad mn : Bool) (v0 v1 vi : Value) (a2 : Option Addr) (cap2 : Nat) (bs : List XBod) (X : XBod) (al ai : Option Addr) (capl capi : Nat) (w : World) (hnb : bs.length ≤ 7) (hni : X.items.length ≤ 100) (hs : s.size ≤ 2000)
  (hR : XrB w b s i bad v0 v1 ⟨.slice a2 bs.length cap2, .int .u8 X.cls.toNat, .int .i64 X.meth, .int .u8 X.ans.toNat, .slice al X.locals.length capl, vi, mn⟩) (hT : TbV w base (.slice a2 bs.length cap2) bs) (hl : BtB w base (.slice al X.locals.length capl) X.locals) (hi : ItB w bx (.slice ai X.items.length capi) X.items) (hb : b < base) (hbx : b < bx) (hbase : base ≤ w.heap.size) :
  Calls Tryz.prog 102 #[.pointer (some ⟨b, 0, none⟩), .slice ai X.items.length capi] w fun en w' => en = .returned (.tuple #[]) ∧ But (fun k => k = b ∨ (Value.slice a2 bs.length cap2).ownBlock = some k) w w' ∧
   ∃ a2' cap2' vi', XrB w' b s (tkP s 46 i bad).1 (tkP s 46 i bad).2 v0 v1 ⟨.slice a2' (bs ++ [X]).length cap2', .int .u8 X.cls.toNat, .int .i64 X.meth, .int .u8 X.ans.toNat, .slice al X.locals.length capl, vi', mn⟩ ∧ TbV w' base (.slice a2' (bs ++ [X]).length cap2') (bs ++ [X]) := by
 obtain ⟨i0, hi0, hz0, hz1, hz2⟩ := info_parts info_xbod
 obtain ⟨l, hO, hm, hf⟩ := hT
 have hll : l.length = bs.length := by rw [← hm]; simp
 have HLL := hid hll
 rw [← hll] at hR hO hnb ⊢
 clear hll
 have hbw := hR.lt
 have htk := xtake_any b s i bad _ _ _ _ 46 (by decide) hs hR
 obtain ⟨TK, hTK⟩ : ∃ TK, tkP s 46 i bad = TK := ⟨_, rfl⟩
 rw [hTK] at htk ⊢
 clear hTK
 obtain ⟨j1, bad1⟩ := TK
 dsimp only at htk ⊢
 have HTK := hid htk
 clear htk
 go_enter Tryz.func102, Tryz.ntmps102
 go_wp2_with fail
 refine HTK.out.mono ?_
 rintro en w1 ⟨rfl, hB1, hR1⟩
 have hI1 : ItB w1 bx (.slice ai X.items.length capi) X.items := owns_but hi hB1 (fun g hg h => by have := owns_ge hi g hg; omega)
 have hz1' := hB1.size
 have hE := ItB.empty w1
 have hR1e := hR1.but (But.alloc (fun _ => False) w1 (.cells #[] 219)) (fun h => h)
 go_wp2_with (at_builtin; refine wpList_copy_its rfl _ _ rfl w1.heap.size bx _ _ X.items rfl rfl hE (owns_but hI1 (But.alloc (fun _ => False) _ _) (fun _ _ h => h)) (by omega) (by simp) ?_)
 intro ao cap w2 hI2 hB2
 have hB12 : But (fun _ => False) w1 w2 := (But.alloc (fun _ => False) _ _).next hB2 (fun k hk h => by simp [Value.ownBlock] at h; omega)
 have hR2 := hR1.but hB12 (fun h => h)
 have c7 := hR2.d4
 have g7 := hR2.fz 7
 have hz2' := hB12.size
 clear hI1 hE hR1e
 go_wp2_with fail
 have hR3 := hR2.setI (.slice ao X.items.length cap)
 have hB23 : But (· = b) w2 (w2.setCell ⟨b, 7, none⟩ (.slice ao X.items.length cap)) := But.setB _ _ _ _
 have hI3 : ItB (w2.setCell ⟨b, 7, none⟩ (.slice ao X.items.length cap)) w1.heap.size (.slice ao X.items.length cap) X.items := owns_but hI2 hB23 (fun g hg h => by have := owns_ge hI2 g hg; omega)
 have hBW : But (· = b) w (w2.setCell ⟨b, 7, none⟩ (.slice ao X.items.length cap)) := (hB1.next hB12 (fun _ _ h => h.elim)).trans hB23
 revert hR3 hI3 hBW
 generalize (w2.setCell ⟨b, 7, none⟩ (.slice ao X.items.length cap)) = W
 intro hRW hI3 hBW
 have hiW : ItB W base (.slice ao X.items.length cap) X.items := World.ownsRow.mono hI3 (by omega)
 clear hB23 hI3 hI2 hB2 c7 g7 hR2 hR1 hi
 dsimp only at hRW
 have hOW := owns_but hO hBW (fun g hg h => by have := owns_ge hO g hg; omega)
 have hlt := owns_lt hO
 have e2 := hRW.c2
 have e3 := hRW.d0
 have e4 := hRW.d1
 have e5 := hRW.d2
 have e6 := hRW.d3
 have e7 := hRW.d4
 have g2 := hRW.fz 2
 have bltW := hRW.lt
 dsimp only at e2 e3 e4 e5 e6 e7
 have ab : (Value.slice a2 l.length cap2).ownBlock ≠ some b := fun h => by have := owns_ge hO _ h; omega
 have hS0 : But (fun k => (Value.slice a2 l.length cap2).ownBlock = some k) W W.drew := But.drew _ _
 have hbW : base ≤ W.heap.size := by have := hBW.size; omega
 have HM := hid hm
 clear hm HTK
 refine wpTx_begin (But (fun k => (Value.slice a2 l.length cap2).ownBlock = some k) W) 12 (by kernel_rfl) ?_
 have fSA := hid (fun wS (h : (But (fun k => (Value.slice a2 l.length cap2).ownBlock = some k) W) wS) => (And.intro ((h.cell (p := ⟨b, 2, none⟩) bltW ab).trans e2) (And.intro ((h.cell (p := ⟨b, 3, none⟩) bltW ab).trans e3) (And.intro ((h.cell (p := ⟨b, 4, none⟩) bltW ab).trans e4) (And.intro ((h.cell (p := ⟨b, 5, none⟩) bltW ab).trans e5) (And.intro ((h.cell (p := ⟨b, 6, none⟩) bltW ab).trans e6) ((h.cell (p := ⟨b, 7, none⟩) bltW ab).trans e7)))))))
 iterate 10 (refine wpTx_take (v := ?_) rfl (by kernel_rfl) (fun _ _ _ h => h) rfl hS0 ?_ ?_; rotate_left; (focus (intro wS h; obtain ⟨q0, q1, q2, q3, q4, q5⟩ := fSA.out wS h; clear h; go_simp; try rfl)); dsimp only [Act.put]; try simp only [puts])
 try clear fSA
 refine wpTx_step rfl (by kernel_rfl) ?_
 intro KS hKS
 go_simp
 refine hKS.out _ _ (fun _ => (But.alloc _ _ _).trans (But.drew _ _)) ?_
 clear hKS KS
 refine wpTx_step rfl (by kernel_rfl) ?_
 intro KS hKS
 refine step_append_lies _ (by rfl) _ _ _ (by rfl) base 115 i0 _ 5 72 (by kernel_rfl) hi0 hz0 hz1 hz2 rfl (by omega) _ l.length (xbCells l) (by rfl) ((hOW.alloc _).drew)
    ⟨W.heap.size, 0, none⟩ 1 1 [.int .u8 X.cls.toNat, .int .i64 X.meth, .int .u8 X.ans.toNat, .slice al X.locals.length capl, .slice ao X.items.length cap] (by rfl) (by rfl) (World.news_of_block (cs := #[.int .u8 X.cls.toNat, .int .i64 X.meth, .int .u8 X.ans.toNat, .slice al X.locals.length capl, .slice ao X.items.length cap]) (t := 115) (fr := (0, 0)) (heap_alloc_new W _)) (by simp [Value.oneCell'])
    (by omega) (by unfold maxLen; omega) (by omega) (by simp; omega) (W.heap.size + 1) (by simp) ?_
 intro gg cap3 w4 hown2 hgrow hat hlt2
 have hSW : But (fun k => (Value.slice a2 l.length cap2).ownBlock = some k) W w4 := ((But.alloc _ _ _).trans (But.drew _ _)).trans (but_grown hgrow)
 refine hKS.out _ _ (fun _ => hSW) ?_
 clear hKS KS
 have y0 := (hSW.cell (p := ⟨b, 2, none⟩) bltW ab).trans e2
 have y1 := (hSW.frozen (p := ⟨b, 2, none⟩) bltW ab).trans g2
 refine wpTx_step rfl (by kernel_rfl) ?_
 intro KS hKS
 go_simp
 refine hKS.out _ _ (fun h => absurd h (by decide)) ?_
 clear hKS KS
 refine wpTx_step rfl (by kernel_rfl) ?_
 intro KS hKS
 go_simp
 refine hKS.out _ _ (fun h => absurd h (by decide)) ?_
 clear hKS KS
 refine wpTx_step rfl (by kernel_rfl) ?_
 intro KS hKS
 go_simp
 refine hKS.out _ _ (fun h => absurd h (by decide)) ?_
 clear hKS KS
 refine wpTx_step rfl (by kernel_rfl) ?_
 intro KS hKS
 go_simp
 refine hKS.out _ _ (fun h => absurd h (by decide)) ?_
 clear hKS KS
 refine wpTx_done rfl (by kernel_rfl) ?_
 have hgg := owns_ge hown2 gg rfl
 have hR3 := (hRW.but hSW ab).set2 (.slice (some ⟨gg, 0, none⟩) (l.length + 1) cap3)
 have hBW3 : But (fun k => k = b ∨ (Value.slice a2 l.length cap2).ownBlock = some k) W (w4.setCell ⟨b, 2, none⟩ (.slice (some ⟨gg, 0, none⟩) (l.length + 1) cap3)) := (hSW.mono (fun _ _ h => Or.inr h)).next (But.setB _ _ _ _) (fun _ _ h => Or.inl h)
 have hO3 := owns_but hown2 (But.setB w4 b 2 (.slice (some ⟨gg, 0, none⟩) (l.length + 1) cap3)) (fun g hg h => by have := owns_ge hown2 g hg; omega)
 have hF3 : ∀ x ∈ l ++ [(X, .slice al X.locals.length capl, .slice ao X.items.length cap)], BtB (w4.setCell ⟨b, 2, none⟩ (.slice (some ⟨gg, 0, none⟩) (l.length + 1) cap3)) base x.2.1 x.1.locals ∧ ItB (w4.setCell ⟨b, 2, none⟩ (.slice (some ⟨gg, 0, none⟩) (l.length + 1) cap3)) base x.2.2 x.1.items := by
  have hoff : ∀ g cur e, W.heap[g]? = some (.cells cur e) → e ≠ 115 → base ≤ g → ¬ (g = b ∨ (Value.slice a2 l.length cap2).ownBlock = some g) := by
   intro g cur e hh he hg h
   rcases h with h | h
   ·omega
   ·exact owns_apart hOW hh he h
  intro x hx
  rcases List.mem_append.1 hx with hx | hx
  ·have h1 := hf x hx
   exact ⟨owns_off (BtB.but h1.1 hBW (fun g hg h => by have := owns_ge h1.1 g hg; omega)) hBW3 (fun g cur hh hg => hoff g cur _ hh (by decide) hg), owns_off (owns_but h1.2 hBW (fun g hg h => by have := owns_ge h1.2 g hg; omega)) hBW3 (fun g cur hh hg => hoff g cur _ hh (by decide) hg)⟩
  ·simp at hx
   subst hx
   exact ⟨owns_off (hl.but hBW (fun g hg h => by have := owns_ge hl g hg; omega)) hBW3 (fun g cur hh hg => hoff g cur _ hh (by decide) hg), owns_off hiW hBW3 (fun g cur hh hg => hoff g cur _ hh (by decide) hg)⟩
 have hC3 : TbV (w4.setCell ⟨b, 2, none⟩ (.slice (some ⟨gg, 0, none⟩) (l.length + 1) cap3)) base (.slice (some ⟨gg, 0, none⟩) (l.length + 1) cap3) (bs ++ [X]) :=
  ⟨l ++ [(X, .slice al X.locals.length capl, .slice ao X.items.length cap)], by rw [xbCells_snoc, List.length_append]; exact hO3, by rw [List.map_append, HM.out]; rfl, hF3⟩
 have hB3 : But (fun k => k = b ∨ (Value.slice a2 l.length cap2).ownBlock = some k) w (w4.setCell ⟨b, 2, none⟩ (.slice (some ⟨gg, 0, none⟩) (l.length + 1) cap3)) := (hBW.mono (fun _ _ h => Or.inl h)).trans hBW3
 clear hF3 hBW3 hO3
 generalize (w4.setCell ⟨b, 2, none⟩ (.slice (some ⟨gg, 0, none⟩) (l.length + 1) cap3)) = W3 at *
 clear y0 y1 e2 e3 e4 e5 e6 e7 g2 hSW hgrow
 have hlen : (bs ++ [X]).length = l.length + 1 := by rw [List.length_append, ← HLL.out]; rfl
 have HLN := hid hlen
 clear hlen
 dsimp only at hR3
 go_wp2_with fail
 go_end0
 refine ⟨rfl, hB3, some ⟨gg, 0, none⟩, cap3, .slice ao X.items.length cap, ?_⟩
 rw [HLN.out]
 exact ⟨hR3, hC3⟩
def codeB (s : ByteArray) (cs : List Cls) (ns nl i : Nat) (bad : Bool) : Except Nat (List Ins × Nat) := if bad = true then .error i else codeP s cs ns nl 100 [] i
def CodeC (s : ByteArray) (cs : List Cls) (ns nl : Nat) (R : Except Nat (List Ins × Nat)) (mm : Nat) (items : List XIt) (j : Nat) (bad : Bool) : Prop :=
 (bad = false ∧ ∃ is, items = is.map toXI ∧ is ≠ [] ∧ is.length + mm = 100 ∧ codeP s cs ns nl mm is j = R) ∨ (bad = true ∧ R = .error j)
section
variable {s : ByteArray} {cs : List Cls} {ns nl : Nat} {R : Except Nat (List Ins × Nat)}
theorem codeP_step {k : Nat} {is : List Ins} {j : Nat} (h : ¬ ((pk s j).toNat = 46 ∧ is ≠ [])) : codeP s cs ns nl (k + 1) is j = match insP s cs ns nl j with
  | .error j => .error j
  | .ok (x, j) => codeP s cs ns nl k (is ++ [x]) j := by
 rw [codeP, if_neg h]
 cases insP s cs ns nl j <;> rfl
theorem CodeC.start {i : Nat} {bad : Bool} (hR : codeB s cs ns nl i bad = R) {x : XIt} {j : Nat} {bad' : Bool} (h : InsR s cs ns nl i bad x j bad') : CodeC s cs ns nl R 99 [x] j bad' := by
 unfold codeB at hR
 unfold InsR insB at h
 cases bad with
 | true =>
  simp only [if_true] at h hR
  rcases h with ⟨_, y, h, _⟩ | ⟨h1, h2⟩
  ·cases h
  ·cases h2
   exact Or.inr ⟨h1, hR.symm⟩
 | false =>
  simp only [Bool.false_eq_true, if_false] at h hR
  rw [codeP_step (by simp)] at hR
  rcases h with ⟨h1, y, h2, h3⟩ | ⟨h1, h2⟩
  ·rw [h2] at hR
   exact Or.inl ⟨h1, [y], by simp [h3], by simp, by simp, hR⟩
  ·rw [h2] at hR
   exact Or.inr ⟨h1, hR.symm⟩
theorem CodeC.next {mm : Nat} {items : List XIt} {j : Nat} (h : CodeC s cs ns nl R mm items j false) (hl : items.length < 100) (hp : pk s j ≠ 46) {x : XIt} {j' : Nat} {bad' : Bool} (hi : InsR s cs ns nl j false x j' bad') : ∃ m', m' < mm ∧ CodeC s cs ns nl R m' (items ++ [x]) j' bad' := by
 rcases h with ⟨_, is, h1, h2, h3, h4⟩ | ⟨h, _⟩
 ·have hil : is.length < 100 := by rw [h1, List.length_map] at hl; exact hl
  obtain ⟨f, rfl⟩ : ∃ f, mm = f + 1 := ⟨mm - 1, by omega⟩
  rw [codeP_step (fun h => hp ((u8n (by decide)).1 h.1))] at h4
  unfold InsR insB at hi
  simp only [Bool.false_eq_true, if_false] at hi
  rcases hi with ⟨e1, y, e2, e3⟩ | ⟨e1, e2⟩
  ·rw [e2] at h4
   exact ⟨f, by omega, Or.inl ⟨e1, is ++ [y], by rw [h1, List.map_append, e3]; rfl, by simp, by simp; omega, h4⟩⟩
  ·rw [e2] at h4
   exact ⟨0, by omega, Or.inr ⟨e1, h4.symm⟩⟩
 ·cases h
theorem CodeC.fin {mm : Nat} {items : List XIt} {j : Nat} {bad : Bool} (h : CodeC s cs ns nl R mm items j bad) (hx : bad = true ∨ ¬ items.length < 100 ∨ pk s j = 46) :
  ((tkP s 46 j bad).2 = false ∧ ∃ is, R = .ok (is, (tkP s 46 j bad).1) ∧ items = is.map toXI) ∨ ((tkP s 46 j bad).2 = true ∧ R = .error (tkP s 46 j bad).1) := by
 rcases h with ⟨rfl, is, h1, h2, h3, h4⟩ | ⟨rfl, h2⟩
 ·by_cases hp : pk s j = 46
  ·left
   rw [tkP_ok hp]
   refine ⟨rfl, is, ?_, h1⟩
   rw [← h4]
   cases mm <;> simp [codeP, hp, h2]
  ·right
   rw [tkP_no (Or.inr hp)]
   refine ⟨rfl, ?_⟩
   have hm : mm = 0 := by
    rcases hx with h | h | h
    ·cases h
    ·rw [h1, List.length_map] at h; omega
    ·exact absurd h hp
   subst hm
   rw [← h4]
   have : ¬ ((pk s j).toNat = 46 ∧ is ≠ []) := fun h => hp ((u8n (by decide)).1 h.1)
   simp only [codeP, if_neg this]
 ·right
  rw [tkP_no (Or.inl rfl)]
  exact ⟨rfl, h2⟩
end
theorem xnew_any (s : ByteArray) (w : World) :
  Calls Tryz.prog 97 #[.string s] w fun en w' => en = .returned (.pointer (some ⟨w.heap.size, 0, none⟩)) ∧ But (fun _ => False) w w' ∧ w.heap.size < w'.heap.size ∧ XrB w' w.heap.size s 0 false (.slice none 0 0) (.slice none 0 0) ⟨.slice none 0 0, .int .u8 0, .int .i64 0, .int .u8 0, .slice none 0 0, .slice none 0 0, false⟩ := by
 go_enter Tryz.func97, Tryz.ntmps97
 go_wp2
 go_ret
 exact ⟨rfl, But.alloc _ _ _, by simp, heap_alloc_new _ _⟩
def HeadQ (s : ByteArray) (nc : Nat) (gs : List Sig) (BS : List Bod) (i : Nat) (a0 : Option Addr) (cap0 : Nat) (v1 : Value) (a2 : Option Addr) (n cap2 b base : Nat) (w' : World) : Prop :=
 ∃ (c : UInt8) (m : Nat) (r : UInt8) (ao : Option Addr) (cap : Nat) (l : List UInt8) (j : Nat) (bad' : Bool), XrB w' b s j bad' (.slice a0 nc cap0) v1 ⟨.slice a2 n cap2, .int .u8 (UInt8.toNat c), .int .i64 m, .int .u8 (UInt8.toNat r), .slice ao (List.length l) cap, .slice none 0 0, false⟩ ∧ BtB w' base (.slice ao l.length cap) l ∧ l.length ≤ 5 ∧
   ((bad' = false ∧ ∃ x t, headP s nc gs BS i = .ok ((x, m, t), j) ∧ c = UInt8.ofNat (65 + x) ∧ x < nc ∧ m < gs.length ∧ r = (methX gs m).ret ∧ l = c :: (methX gs m).arg :: t) ∨ (bad' = true ∧ headP s nc gs BS i = .error j))
def MainQ (s : ByteArray) (nc i : Nat) (bad : Bool) (a0 : Option Addr) (cap0 : Nat) (v1 : Value) (a2 : Option Addr) (n cap2 b base : Nat) (w' : World) : Prop :=
 ∃ (ao : Option Addr) (cap : Nat) (l : List UInt8) (j : Nat) (bad' : Bool), XrB w' b s j bad' (.slice a0 nc cap0) v1 ⟨.slice a2 n cap2, .int .u8 45, .int .i64 0, .int .u8 105, .slice ao (List.length l) cap, .slice none 0 0, true⟩ ∧ BtB w' base (.slice ao l.length cap) l ∧ l.length ≤ 3 ∧
   ((bad' = false ∧ tysB s nc 58 3 i bad = .ok (l, j)) ∨ (bad' = true ∧ tysB s nc 58 3 i bad = .error j))
theorem xnextBody_stop (b : Nat) (s : ByteArray) (i : Nat) (bad : Bool) (v0 v1 : Value) (v2 : RdV) (w : World) (hR : XrB w b s i bad v0 v1 v2) (hx : v2.main = true ∨ bad = true) :
  Calls Tryz.prog 100 #[.pointer (some ⟨b, 0, none⟩)] w fun e w' => e = .returned (.bool false) ∧ ∃ m, w' = w.drewN m := by
 have h4 := hR.c4
 have h5 := hR.d5
 cases hm : v2.main with
 | true =>
  rw [hm] at h5
  go_enter Tryz.func100, Tryz.ntmps100
  go_wp2_with fail
  exact bodyPost_ret (v := .bool false) (by simp [results, Tryz.results100, go_sem]) rfl ⟨rfl, 0, rfl⟩
 | false =>
  rw [hm] at h5
  have hb : bad = true := by rcases hx with h | h; (rw [hm] at h; cases h); exact h
  subst hb
  go_enter Tryz.func100, Tryz.ntmps100
  go_wp2_with fail
  exact bodyPost_ret (v := .bool false) (by simp [results, Tryz.results100, go_sem]) rfl ⟨rfl, 0, rfl⟩
theorem xnextBody_head (b base : Nat) (s : ByteArray) (i : Nat) (a0 a2 : Option Addr) (nc cap0 n cap2 : Nat) (v1 x0 x1 x2 x3 x4 : Value) (w : World) (gs : List Sig) (BS : List Bod) (xs : List XBod) (hxs : xs.map hdOf = (BS.map (toXB gs)).map hdOf) (hnc : nc ≤ 4) (hgs : gs.length ≤ 3) (hBS : BS.length ≤ 6) (hsb : ∀ b ∈ BS, (b.cls = -1) ∨ SideB b) (hs : s.size ≤ 2000)
  (hR : XrB w b s i false (.slice a0 nc cap0) v1 ⟨.slice a2 n cap2, x0, x1, x2, x3, x4, false⟩) (hM : TmV w base v1 gs) (hBd : TbV w base (.slice a2 n cap2) xs) (hb : b < base) (hn : n < 6) (hp : pk s i ≠ 59) :
  Calls Tryz.prog 100 #[.pointer (some ⟨b, 0, none⟩)] w fun en w' => But (· = b) w w' ∧ en = .returned (.bool true) ∧ HeadQ s nc gs BS i a0 cap0 v1 a2 n cap2 b w.heap.size w' := by
 have h2 := hR.c2
 have h4 := hR.c4
 have h5 := hR.d5
 have hnI : (n : Int) < 6 := by omega
 have hbw := hR.lt
 have hbef := xbefore_any b s i false _ _ _ w 59 hR
 rw [show (!false && !decide (pk s i = 59)) = true from by simp [hp]] at hbef
 have HBF := hid hbef
 have HHD := hid (fun k => xhead_any b base s i a0 nc cap0 v1 ⟨.slice a2 n cap2, x0, x1, x2, x3, x4, false⟩ (w.drewN k) gs BS xs hxs hnc hgs hBS hsb hs (hR.drewN k) (hM.but (But.drewN (fun _ => False) _ _) (fun _ _ _ _ _ _ h => h)) (hBd.but (But.drewN (fun _ => False) _ _) (fun _ _ _ _ _ _ h => h)) hb)
 clear hbef hp hM hBd hsb hBS hn hxs
 dsimp only at h2 h5
 go_enter Tryz.func100, Tryz.ntmps100
 go_wp2_with fail
 refine HBF.out.mono ?_
 rintro en w1 ⟨rfl, k, rfl⟩
 go_wp2_with fail
 refine (HHD.out k).mono ?_
 rintro en w2 ⟨hB2, c, m, r, ao, cap, l, j, bad', rfl, hR2, hL2, hl2, hT2⟩
 have HT2 := hid hT2
 have e0 := hR2.d0
 have e1 := hR2.d1
 have e2 := hR2.d2
 have e3 := hR2.d3
 have e4 := hR2.d4
 have g0 := hR2.fz 3
 have g1 := hR2.fz 4
 have g2 := hR2.fz 5
 have g3 := hR2.fz 6
 have g4 := hR2.fz 7
 clear hT2 h2 h4 h5 HBF HHD
 unfold hdV
 go_wp2_with fail
 have hR3 := hR2.setB (.int .u8 c.toNat) (.int .i64 m) (.int .u8 r.toNat) (.slice ao l.length cap) (.slice none 0 0)
 have hB3 : But (· = b) w2 (((((w2.setCell ⟨b, 3, none⟩ (.int .u8 c.toNat)).setCell ⟨b, 4, none⟩ (.int .i64 m)).setCell ⟨b, 5, none⟩ (.int .u8 r.toNat)).setCell ⟨b, 6, none⟩ (.slice ao l.length cap)).setCell ⟨b, 7, none⟩ (.slice none 0 0)) :=
  ((((But.setB _ _ _ _).trans (But.setB _ _ _ _)).trans (But.setB _ _ _ _)).trans (But.setB _ _ _ _)).trans (But.setB _ _ _ _)
 exact bodyPost_ret (v := .bool true) (by simp [results, Tryz.results100, go_sem]) rfl ⟨((But.drewN _ _ _).trans hB2).trans hB3, rfl, c, m, r, ao, cap, l, j, bad', hR3, BtB.but hL2 hB3 (fun g hg h => by have := owns_ge hL2 g hg; have : w.heap.size ≤ g := this; omega), hl2, HT2.out⟩
theorem xnextBody_main (b : Nat) (s : ByteArray) (i : Nat) (a0 a2 : Option Addr) (nc cap0 n cap2 : Nat) (v1 x0 x1 x2 x3 x4 : Value) (w : World) (hnc : nc ≤ 4) (hs : s.size ≤ 2000)
  (hR : XrB w b s i false (.slice a0 nc cap0) v1 ⟨.slice a2 n cap2, x0, x1, x2, x3, x4, false⟩) (hx : ¬ n < 6 ∨ pk s i = 59) :
  Calls Tryz.prog 100 #[.pointer (some ⟨b, 0, none⟩)] w fun en w' => But (· = b) w w' ∧ en = .returned (.bool true) ∧ MainQ s nc (tkP s 59 i false).1 (tkP s 59 i false).2 a0 cap0 v1 a2 n cap2 b w.heap.size w' := by
 have h2 := hR.c2
 have h4 := hR.c4
 have h5 := hR.d5
 have g5 := hR.fz 10
 have hbw := hR.lt
 dsimp only at h2 h5
 obtain ⟨TK, hTK⟩ : ∃ TK, tkP s 59 i false = TK := ⟨_, rfl⟩
 rw [hTK]
 obtain ⟨j1, bad1⟩ := TK
 dsimp only
 have HTT := hid (fun (wx : World) (h : XrB wx b s i false (.slice a0 nc cap0) v1 ⟨.slice a2 n cap2, x0, x1, x2, x3, x4, true⟩) => xtake_any b s i false _ _ _ wx 59 (by decide) hs h)
 rw [hTK] at HTT
 clear hTK
 have HFIN : Hid (∀ (w1 w2 w3 : World), But (· = b) w w1 → w.heap.size ≤ w1.heap.size → True) := hid (fun _ _ _ _ _ => trivial)
 by_cases hnI : (n : Int) < 6
 ·have hp : pk s i = 59 := by
   rcases hx with h | h
   ·omega
   ·exact h
  have hbef := xbefore_any b s i false _ _ _ w 59 hR
  rw [show (!false && !decide (pk s i = 59)) = false from by simp [hp]] at hbef
  have HBF := hid hbef
  clear hbef hp hx
  go_enter Tryz.func100, Tryz.ntmps100
  go_wp2_with fail
  refine HBF.out.mono ?_
  rintro en w1 ⟨rfl, k, rfl⟩
  have hRM := (hR.drewN k).setM true
  have hBM : But (· = b) w ((w.drewN k).setCell ⟨b, 10, none⟩ (.bool true)) := (But.drewN _ _ _).trans (But.setB _ _ _ _)
  have hzM := hBM.size
  go_wp2_with fail
  refine (HTT.out _ hRM).mono ?_
  rintro en w2 ⟨rfl, hB2, hR2⟩
  have hz2 := hB2.size
  have hBw2 := hBM.trans hB2
  clear h2 h4 h5 g5 HBF HTT hRM
  go_wp2_with fail
  refine (xmainHead_any b s j1 bad1 a0 nc cap0 _ _ w2 hnc hs hR2).mono ?_
  rintro en w3 ⟨hB3, ao, cap, l, j, bad', rfl, hR3, hL3, hl3, hT3⟩
  have HT3 := hid hT3
  have e0 := hR3.d0
  have e1 := hR3.d1
  have e2 := hR3.d2
  have e3 := hR3.d3
  have e4 := hR3.d4
  have g0 := hR3.fz 3
  have g1 := hR3.fz 4
  have g2 := hR3.fz 5
  have g3 := hR3.fz 6
  have g4 := hR3.fz 7
  clear hT3
  unfold hdV
  simp only [show (UInt8.toNat 45) = 45 from rfl, show (UInt8.toNat 105) = 105 from rfl]
  go_wp2_with fail
  have hR4 := hR3.setB (.int .u8 45) (.int .i64 0) (.int .u8 105) (.slice ao l.length cap) (.slice none 0 0)
  have hB4 : But (· = b) w3 (((((w3.setCell ⟨b, 3, none⟩ (.int .u8 45)).setCell ⟨b, 4, none⟩ (.int .i64 0)).setCell ⟨b, 5, none⟩ (.int .u8 105)).setCell ⟨b, 6, none⟩ (.slice ao l.length cap)).setCell ⟨b, 7, none⟩ (.slice none 0 0)) :=
   ((((But.setB _ _ _ _).trans (But.setB _ _ _ _)).trans (But.setB _ _ _ _)).trans (But.setB _ _ _ _)).trans (But.setB _ _ _ _)
  exact bodyPost_ret (v := .bool true) (by simp [results, Tryz.results100, go_sem]) rfl ⟨(hBw2.trans hB3).trans hB4, rfl, ao, cap, l, j, bad', hR4, BtB.but (World.ownsRow.mono hL3 (by omega)) hB4 (fun g hg h => by have := owns_ge hL3 g hg; omega), hl3, HT3.out⟩
 ·clear hx
  have hRM := hR.setM true
  have hBM : But (· = b) w (w.setCell ⟨b, 10, none⟩ (.bool true)) := But.setB _ _ _ _
  have hzM := hBM.size
  go_enter Tryz.func100, Tryz.ntmps100
  go_wp2_with fail
  refine (HTT.out _ hRM).mono ?_
  rintro en w2 ⟨rfl, hB2, hR2⟩
  have hz2 := hB2.size
  have hBw2 := hBM.trans hB2
  clear h2 h4 h5 g5 HTT hRM
  go_wp2_with fail
  refine (xmainHead_any b s j1 bad1 a0 nc cap0 _ _ w2 hnc hs hR2).mono ?_
  rintro en w3 ⟨hB3, ao, cap, l, j, bad', rfl, hR3, hL3, hl3, hT3⟩
  have HT3 := hid hT3
  have e0 := hR3.d0
  have e1 := hR3.d1
  have e2 := hR3.d2
  have e3 := hR3.d3
  have e4 := hR3.d4
  have g0 := hR3.fz 3
  have g1 := hR3.fz 4
  have g2 := hR3.fz 5
  have g3 := hR3.fz 6
  have g4 := hR3.fz 7
  clear hT3
  unfold hdV
  simp only [show (UInt8.toNat 45) = 45 from rfl, show (UInt8.toNat 105) = 105 from rfl]
  go_wp2_with fail
  have hR4 := hR3.setB (.int .u8 45) (.int .i64 0) (.int .u8 105) (.slice ao l.length cap) (.slice none 0 0)
  have hB4 : But (· = b) w3 (((((w3.setCell ⟨b, 3, none⟩ (.int .u8 45)).setCell ⟨b, 4, none⟩ (.int .i64 0)).setCell ⟨b, 5, none⟩ (.int .u8 105)).setCell ⟨b, 6, none⟩ (.slice ao l.length cap)).setCell ⟨b, 7, none⟩ (.slice none 0 0)) :=
   ((((But.setB _ _ _ _).trans (But.setB _ _ _ _)).trans (But.setB _ _ _ _)).trans (But.setB _ _ _ _)).trans (But.setB _ _ _ _)
  exact bodyPost_ret (v := .bool true) (by simp [results, Tryz.results100, go_sem]) rfl ⟨(hBw2.trans hB3).trans hB4, rfl, ao, cap, l, j, bad', hR4, BtB.but (World.ownsRow.mono hL3 (by omega)) hB4 (fun g hg h => by have := owns_ge hL3 g hg; omega), hl3, HT3.out⟩
def ResQ (s : ByteArray) (i : Nat) (bad : Bool) (b : Nat) (w : World) (en : Ending) (w' : World) : Prop :=
 ((bad || decide (i < s.size)) = true ∧ ∃ g, w.heap.size ≤ g ∧ en = .returned (.tuple #[.pointer (some ⟨g, 0, none⟩), .int .i64 i]) ∧ w'.heap[g]? = some (.cells #[.slice none 0 0, .slice none 0 0, .slice none 0 0] 109)) ∨
    ((bad || decide (i < s.size)) = false ∧ en = .returned (.tuple #[.pointer (some ⟨b, 0, none⟩), .int .i64 (-1)]))
theorem xresult_any (b : Nat) (s : ByteArray) (i : Nat) (bad : Bool) (v0 v1 : Value) (v2 : RdV) (w : World) (hR : XrB w b s i bad v0 v1 v2) :
  Calls Tryz.prog 103 #[.pointer (some ⟨b, 0, none⟩)] w fun en w' => But (fun _ => False) w w' ∧ ResQ s i bad b w en w' := by
 have p3 := hR.c3
 have p4 := hR.c4
 have p5 := hR.c5
 have hbl := hR.lt
 cases bad with
 | true =>
   go_enter Tryz.func103, Tryz.ntmps103
   go_wp2
   go_quiet (fail)
   go_wp2_with fail
   have hRV := hR.drewN nq
   have hBV : But (fun _ => False) w (w.drewN nq) := But.drewN _ _ _
   have hzV : w.heap.size ≤ (w.drewN nq).heap.size := hBV.size
   revert hRV hBV hzV
   generalize (w.drewN nq) = V
   intro hRV hBV hzV
   have p6 := hRV.c3
   have hblV := hRV.lt
   clear p3 p4 p5 hR
   have hS0 : But (fun _ => False) V V.drew := But.drew _ _
   refine wpP_begin (But (fun _ => False) V) 7 (by kernel_rfl) ?_
   refine wpP_take (k := 2) (v := ?vA2) rfl (by decide) (by kernel_rfl) (fun _ _ _ h => h) rfl hS0 ?yA2 ?rA2
   case yA2 => intro wS h; have q0 := ((h.cell (p := ⟨b, 8, none⟩) hblV (fun h => h)).trans p6); clear h; go_simp; try rfl
   dsimp only [Act.put]
   try simp only [puts]
   refine wpP_take (k := 3) (v := ?vA3) rfl (by decide) (by kernel_rfl) (fun _ _ _ h => h) rfl hS0 ?yA3 ?rA3
   case yA3 => intro wS h; have q0 := ((h.cell (p := ⟨b, 8, none⟩) hblV (fun h => h)).trans p6); clear h; go_simp; try rfl
   dsimp only [Act.put]
   try simp only [puts]
   refine wpP_take (k := 4) (v := ?vA4) rfl (by decide) (by kernel_rfl) (fun _ _ _ h => h) rfl hS0 ?yA4 ?rA4
   case yA4 => intro wS h; have q0 := ((h.cell (p := ⟨b, 8, none⟩) hblV (fun h => h)).trans p6); clear h; go_simp; try rfl
   dsimp only [Act.put]
   try simp only [puts]
   refine wpP_take (k := 5) (v := ?vA5) rfl (by decide) (by kernel_rfl) (fun _ _ _ h => h) rfl hS0 ?yA5 ?rA5
   case yA5 => intro wS h; have q0 := ((h.cell (p := ⟨b, 8, none⟩) hblV (fun h => h)).trans p6); clear h; go_simp; try rfl
   dsimp only [Act.put]
   try simp only [puts]
   refine wpP_take (k := 0) (v := ?vA0) rfl (by decide) (by kernel_rfl) (fun _ _ _ h => h) rfl hS0 ?yA0 ?rA0
   case yA0 => intro wS h; have q0 := ((h.cell (p := ⟨b, 8, none⟩) hblV (fun h => h)).trans p6); clear h; go_simp; try rfl
   dsimp only [Act.put]
   try simp only [puts]
   refine wpP_step (k := 1) rfl (by decide) (by kernel_rfl) ?_
   intro KS hKS
   go_simp
   refine hKS.out _ _ (fun _ => hS0.trans (But.alloc _ _ _)) ?_
   clear hKS KS
   refine wpP_step (k := 6) rfl (by decide) (by kernel_rfl) ?_
   intro KS hKS
   go_simp
   refine hKS.out _ _ (fun _ => hS0.trans (But.alloc _ _ _)) ?_
   clear hKS KS
   refine wpP_step (k := 7) rfl (by decide) (by kernel_rfl) ?_
   intro KS hKS
   go_simp
   refine hKS.out _ _ (fun h => absurd h (by decide)) ?_
   clear hKS KS
   refine wpP_done rfl (by kernel_rfl) ?_
   have hB9 : But (fun _ => False) V (V.drew.alloc (.cells #[.slice none 0 0, .slice none 0 0, .slice none 0 0] 109)) := (But.drew _ _).trans (But.alloc _ _ _)
   have hg9 := heap_alloc_new V.drew (.cells #[.slice none 0 0, .slice none 0 0, .slice none 0 0] 109)
   go_wp2_with fail
   exact bodyPost_ret (v := .tuple #[.pointer (some ⟨V.heap.size, 0, none⟩), .int .i64 i]) (by simp [results, Tryz.results103, go_sem]) rfl ⟨hBV.trans hB9, Or.inl ⟨rfl, V.heap.size, hzV, rfl, hg9⟩⟩
 | false =>
  by_cases hi : (i : Int) < (s.size : Int)
  ·have HI : Hid ((false || decide (i < s.size)) = true) := hid (by simp; omega)
   go_enter Tryz.func103, Tryz.ntmps103
   go_wp2
   go_quiet (fail)
   go_wp2_with fail
   have hRV := hR.drewN nq
   have hBV : But (fun _ => False) w (w.drewN nq) := But.drewN _ _ _
   have hzV : w.heap.size ≤ (w.drewN nq).heap.size := hBV.size
   revert hRV hBV hzV
   generalize (w.drewN nq) = V
   intro hRV hBV hzV
   have p6 := hRV.c3
   have hblV := hRV.lt
   clear p3 p4 p5 hR
   have hS0 : But (fun _ => False) V V.drew := But.drew _ _
   refine wpP_begin (But (fun _ => False) V) 7 (by kernel_rfl) ?_
   refine wpP_take (k := 2) (v := ?vB2) rfl (by decide) (by kernel_rfl) (fun _ _ _ h => h) rfl hS0 ?yB2 ?rB2
   case yB2 => intro wS h; have q0 := ((h.cell (p := ⟨b, 8, none⟩) hblV (fun h => h)).trans p6); clear h; go_simp; try rfl
   dsimp only [Act.put]
   try simp only [puts]
   refine wpP_take (k := 3) (v := ?vB3) rfl (by decide) (by kernel_rfl) (fun _ _ _ h => h) rfl hS0 ?yB3 ?rB3
   case yB3 => intro wS h; have q0 := ((h.cell (p := ⟨b, 8, none⟩) hblV (fun h => h)).trans p6); clear h; go_simp; try rfl
   dsimp only [Act.put]
   try simp only [puts]
   refine wpP_take (k := 4) (v := ?vB4) rfl (by decide) (by kernel_rfl) (fun _ _ _ h => h) rfl hS0 ?yB4 ?rB4
   case yB4 => intro wS h; have q0 := ((h.cell (p := ⟨b, 8, none⟩) hblV (fun h => h)).trans p6); clear h; go_simp; try rfl
   dsimp only [Act.put]
   try simp only [puts]
   refine wpP_take (k := 5) (v := ?vB5) rfl (by decide) (by kernel_rfl) (fun _ _ _ h => h) rfl hS0 ?yB5 ?rB5
   case yB5 => intro wS h; have q0 := ((h.cell (p := ⟨b, 8, none⟩) hblV (fun h => h)).trans p6); clear h; go_simp; try rfl
   dsimp only [Act.put]
   try simp only [puts]
   refine wpP_take (k := 0) (v := ?vB0) rfl (by decide) (by kernel_rfl) (fun _ _ _ h => h) rfl hS0 ?yB0 ?rB0
   case yB0 => intro wS h; have q0 := ((h.cell (p := ⟨b, 8, none⟩) hblV (fun h => h)).trans p6); clear h; go_simp; try rfl
   dsimp only [Act.put]
   try simp only [puts]
   refine wpP_step (k := 1) rfl (by decide) (by kernel_rfl) ?_
   intro KS hKS
   go_simp
   refine hKS.out _ _ (fun _ => hS0.trans (But.alloc _ _ _)) ?_
   clear hKS KS
   refine wpP_step (k := 6) rfl (by decide) (by kernel_rfl) ?_
   intro KS hKS
   go_simp
   refine hKS.out _ _ (fun _ => hS0.trans (But.alloc _ _ _)) ?_
   clear hKS KS
   refine wpP_step (k := 7) rfl (by decide) (by kernel_rfl) ?_
   intro KS hKS
   go_simp
   refine hKS.out _ _ (fun h => absurd h (by decide)) ?_
   clear hKS KS
   refine wpP_done rfl (by kernel_rfl) ?_
   have hB9 : But (fun _ => False) V (V.drew.alloc (.cells #[.slice none 0 0, .slice none 0 0, .slice none 0 0] 109)) := (But.drew _ _).trans (But.alloc _ _ _)
   have hg9 := heap_alloc_new V.drew (.cells #[.slice none 0 0, .slice none 0 0, .slice none 0 0] 109)
   go_wp2_with fail
   exact bodyPost_ret (v := .tuple #[.pointer (some ⟨V.heap.size, 0, none⟩), .int .i64 i]) (by simp [results, Tryz.results103, go_sem]) rfl ⟨hBV.trans hB9, Or.inl ⟨HI.out, V.heap.size, hzV, rfl, hg9⟩⟩
  ·have HI : Hid ((false || decide (i < s.size)) = false) := hid (by simp; omega)
   go_enter Tryz.func103, Tryz.ntmps103
   go_wp2
   go_quiet (fail)
   go_wp2_with fail
   exact bodyPost_ret (v := .tuple #[.pointer (some ⟨b, 0, none⟩), .int .i64 (-1)]) (by simp [results, Tryz.results103, go_sem]) rfl ⟨But.drewN _ _ _, Or.inr ⟨HI.out, rfl⟩⟩
end Go.Proofs.YtpfkkmacakjmbaaGreatDoor
