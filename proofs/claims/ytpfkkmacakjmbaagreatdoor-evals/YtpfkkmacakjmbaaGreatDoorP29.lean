import Derived.Test.YtpfkkmacakjmbaaGreatDoorP28
set_option maxRecDepth 100000
set_option maxHeartbeats 6400000
namespace Go.Proofs.YtpfkkmacakjmbaaGreatDoor
open Go Go.RowKit Sp
set_option linter.unusedSimpArgs false
set_option linter.unusedVariables false
attribute [local go_sem ↓] Go.wp_at_zero Go.wp_at_succ
theorem ptrInfo : (Tryz.prog.info? 315).map (fun i => (i.zero, i.size, i.bytes)) = some (some (.pointer none), 1, 8) := by kernel_rfl
section
variable {P : Nat → Prop} {w0 w : World} {be bw tx bl : Nat} {inp : ByteArray} {s : Ev} {lv vo vb : Value} {l : List V} {gs : List Nat} {fv : List Value}
theorem snoc_at {α : Type} {xs : List α} {x u : α} {i : Nat} (h : (xs ++ [x])[i]? = some u) : (i < xs.length ∧ xs[i]? = some u) ∨ (i = xs.length ∧ u = x) := by
 rcases Nat.lt_or_ge i xs.length with hl | hl
 ·rw [List.getElem?_append_left hl] at h; exact Or.inl ⟨hl, h⟩
 ·rw [List.getElem?_append_right hl] at h
  cases hq : i - xs.length with
  | zero => rw [hq] at h; cases h; exact Or.inr ⟨by omega, rfl⟩
  | succ q => rw [hq] at h; simp at h
theorem StQ.newOb {w2 : World} {gq base : Nat} {vf vb' : Value} {o : Ob} (h : StQ P w0 w be bw tx inp s bl lv l vo vb gs fv) (ho : XoB w gq (65 + o.cls) vf) (hf : w.ownsRow base 168 2 vf o.fs.length (xvalCells o.fs)) (hb : w0.heap.size ≤ base)
  (hq : w0.heap.size ≤ gq ∧ ¬ P gq ∧ gq ∉ gs) (hfn : ∀ g, vf.ownBlock = some g → ¬ P g ∧ lv.ownBlock ≠ some g ∧ ∀ v ∈ fv, v.ownBlock ≠ some g) (hB : But (fun k => vb.ownBlock = some k) w w2) (hown : w2.ownsRow w0.heap.size 315 1 vb' (s.heap.length + 1) (ptrCells gs ++ [.pointer (some ⟨gq, 0, none⟩)])) (hP : ∀ g, vb'.ownBlock = some g → ¬ P g) :
  StQ P w0 (w2.setCell ⟨bw, 4, none⟩ vb') be bw tx inp { s with heap := s.heap ++ [o] } bl lv l vo vb' (gs ++ [gq]) (fv ++ [vf]) := by
 have hS : But (· = bw) w2 (w2.setCell ⟨bw, 4, none⟩ vb') := But.setB _ _ _ _
 have hkw : XwB w2 bw tx inp (min s.read inp.size : Nat) vo vb := h.wd.but hB (owns_offE h.ob h.wd (by decide))
 have row : ∀ {v : Value} {t b n z : Nat} {xs : List Value}, t ≠ 315 → t ≠ 211 → w.ownsRow b t z v n xs → (w2.setCell ⟨bw, 4, none⟩ vb').ownsRow b t z v n xs := fun h1 h2 hr => owns_but (owns_but hr hB (fun g hg => owns_apartE hr h.ob h1 hg)) hS (fun g hg e => owns_offE hr h.wd h2 (e ▸ hg))
 have blk : ∀ {k t : Nat} {c : Array Value} {fr : Nat × Nat}, t ≠ 315 → t ≠ 211 → w.heap[k]? = some (.cells c t fr) → (w2.setCell ⟨bw, 4, none⟩ vb').heap[k]? = some (.cells c t fr) := fun h1 h2 hk => by
  have e1 := (hB.block _ (lt_of_block hk) (fun hv => owns_offE h.ob hk (Ne.symm h1) hv)).trans hk
  exact (hS.block _ (lt_of_block e1) (off_type hk h.wd (Ne.symm h2))).trans e1
 refine ⟨(h.old.next hB (fun k hk hv => by have := (h.k5 hv).1; omega)).next hS (fun k hk e => by have e : k = bw := e; have := h.k2.1; omega), blk (by decide) (by decide) h.ev, hkw.set4 vb', row (by decide) (by decide) h.out, ?_, by simp [h.lg], by simp [h.lf], ?_, ?_, blk (by decide) (by decide) h.lb, row (by decide) (by decide) h.lo, ?_, ?_, ?_, ?_⟩
 ·rw [List.length_append, show ptrCells (gs ++ [gq]) = ptrCells gs ++ [.pointer (some ⟨gq, 0, none⟩)] from by simp [ptrCells]]
  exact owns_but hown hS (fun g hg e => owns_offE hown hkw (by decide) (e ▸ hg))
 ·intro k o' g v hk hg hv
  rcases snoc_at hk with ⟨h1, h2⟩ | ⟨h1, rfl⟩
  ·rcases snoc_at hg with ⟨h3, h4⟩ | ⟨h3, _⟩
   ·rcases snoc_at hv with ⟨h5, h6⟩ | ⟨h5, _⟩
    ·obtain ⟨x, y⟩ := h.obs k o' g v h2 h4 h6
     exact ⟨blk (by decide) (by decide) x, row (by decide) (by decide) y⟩
    ·rw [h.lf] at h5; omega
   ·rw [h.lg] at h3; omega
  ·rcases snoc_at hg with ⟨h3, _⟩ | ⟨_, rfl⟩
   ·rw [h.lg] at h3; omega
   ·rcases snoc_at hv with ⟨h5, _⟩ | ⟨_, rfl⟩
    ·rw [h.lf] at h5; omega
    ·exact ⟨blk (by decide) (by decide) ho, owns_mono (row (by decide) (by decide) hf) hb⟩
 ·intro j k g hj hk
  rcases snoc_at hj with ⟨h1, h2⟩ | ⟨h1, rfl⟩
  ·rcases snoc_at hk with ⟨h3, h4⟩ | ⟨h3, rfl⟩
   ·exact h.nd j k g h2 h4
   ·exact absurd (List.mem_of_getElem? h2) hq.2.2
  ·rcases snoc_at hk with ⟨h3, h4⟩ | ⟨h3, _⟩
   ·exact absurd (List.mem_of_getElem? h4) hq.2.2
   ·omega
 ·intro k hk
  rcases hk with rfl | rfl | rfl | hk | hk | hk | hk | ⟨v, hv, hk⟩
  ·exact h.k1
  ·exact h.k2
  ·exact h.k3
  ·exact h.k4 hk
  ·exact ⟨owns_ge hown k hk, hP k hk⟩
  ·exact h.k6 hk
  ·rcases List.mem_append.1 hk with hk | hk
   ·exact h.k7 hk
   ·rw [List.mem_singleton] at hk; subst hk; exact ⟨hq.1, hq.2.1⟩
  ·rcases List.mem_append.1 hv with hv | hv
   ·exact h.k8 hv hk
   ·rw [List.mem_singleton] at hv; subst hv; exact ⟨Nat.le_trans hb (owns_ge hf k hk), (hfn k hk).1⟩
 ·intro k hk
  obtain ⟨a, b⟩ := h.pl k hk
  have e1 := hB.block k a (fun hv => (h.k5 hv).2 hk)
  have e2 := hS.block k (Nat.lt_of_lt_of_le a hB.size) (fun e => h.k2.2 (e ▸ hk))
  refine ⟨by rw [size_setCell]; exact Nat.lt_of_lt_of_le a hB.size, fun c fz e => ?_⟩
  rw [e2, e1] at e
  exact b c fz e
 ·intro v hv g hg
  rcases List.mem_append.1 hv with hv | hv
  ·exact h.sl v hv g hg
  ·rw [List.mem_singleton] at hv; subst hv; exact (hfn g hg).2.1
 ·intro j k v v' g hj hk hg hg'
  rcases snoc_at hj with ⟨h1, h2⟩ | ⟨h1, rfl⟩
  ·rcases snoc_at hk with ⟨h3, h4⟩ | ⟨h3, rfl⟩
   ·exact h.sf j k v v' g h2 h4 hg hg'
   ·exact absurd hg ((hfn g hg').2.2 v (List.mem_of_getElem? h2))
  ·rcases snoc_at hk with ⟨h3, h4⟩ | ⟨h3, rfl⟩
   ·exact absurd hg' ((hfn g hg).2.2 v' (List.mem_of_getElem? h4))
   ·omega
theorem newObject_any (h : StQ P w0 w be bw tx inp s bl lv l vo vb gs fv) (h4 : s.heap.length ≤ 4000) (cs : List XCls) (hn : cs.length ≤ 100) (hT : TxC w0 tx cs) (c : UInt8) (o : Ob) (hc : c.toNat = 65 + o.cls) (ts : List UInt8) (hts : fldsX cs c = ts) (ht5 : ts.length ≤ 100) (hof : o.fs = ts.map plainV) :
  Calls Tryz.prog 236 #[.pointer (some ⟨bw, 0, none⟩), .int .u8 c.toNat] w fun en w' => But (FrQ P w0) w w' ∧ en = .returned (xAgg (.o s.heap.length)) ∧ ∃ vb' gs' fv', StQ P w0 w' be bw tx inp { s with heap := s.heap ++ [o] } bl lv l vo vb' gs' fv' := by
 have HF := hid (fun X (hX : But (fun _ => False) w X) => xfc_any tx cs c X hn (hT.but (h.old.trans hX)))
 rw [hts] at HF
 have hmk := make_val ts.length (by omega)
 have c0 := h.wd.c0
 have hbl := h.wd.lt
 obtain ⟨ab, capb, rfl⟩ := owns_len h.ob
 have c4 := h.wd.c4
 have z4 := h.wd.fz 4
 have hOb := h.ob
 have h0w := h.old.size
 have HH := hid h
 have HC := hid hc
 have HO := hid hof
 clear h hc hts hof
 have hgA : bw < w.heap.size + 1 := by omega
 have hgB : bw < w.heap.size + 1 + 1 := by omega
 have hgC : bw < w.heap.size + 1 + 1 + 1 := by omega
 obtain ⟨i0, hi0, hz0, hz1, hz2⟩ := info_parts ptrInfo
 obtain ⟨W, hWW⟩ : ∃ W, ((w.alloc (.cells #[.int .i32 0, .int .i64 0] 168)).alloc (.cells (zeroV ts.length).toArray 168)).alloc (.cells #[.int .u8 c.toNat, .slice (some ⟨w.heap.size + 1, 0, none⟩) ts.length ts.length, .int .i64 0] 318) = W := ⟨_, rfl⟩
 have hBW : But (fun _ => False) w W := by rw [← hWW]; exact ((But.alloc _ _ _).trans (But.alloc _ _ _)).trans (But.alloc _ _ _)
 have hsW : W.heap.size = w.heap.size + 1 + 1 + 1 := by rw [← hWW]; simp
 have hgR : ResX W w.heap.size := by rw [← hWW]; exact ⟨0, 0, (((But.alloc (fun _ => False) _ _).trans (But.alloc _ _ _)).block _ (by simp) (fun h => h)).trans (heap_alloc_new w _)⟩
 have hgF : W.heap[w.heap.size + 1]? = some (.cells (zeroV ts.length).toArray 168) := by rw [← hWW]; exact ((But.alloc (fun _ => False) _ _).block _ (by simp) (fun h => h)).trans (heap_alloc_at (by simp) _)
 have hgO : W.heap[w.heap.size + 1 + 1]? = some (.cells #[.int .u8 c.toNat, .slice (some ⟨w.heap.size + 1, 0, none⟩) ts.length ts.length, .int .i64 0] 318) := by rw [← hWW]; exact heap_alloc_at (by simp) _
 have HWW := hid hWW
 clear hWW
 have hOW := owns_but hOb hBW (fun _ _ h => h)
 go_enter Tryz.func236, Tryz.ntmps236
 go_wp2_with fail
 refine (HF.out _ (But.alloc _ _ _)).mono ?_
 rintro en w1 ⟨rfl, hw1⟩
 rw [hw1]
 clear hw1 w1
 go_wp2_with (at_builtin; rw [HWW.out]; refine wpList_append_lies _ rfl _ _ _ rfl w0.heap.size 315 i0 _ 1 8 (by kernel_rfl) hi0 hz0 hz1 hz2 rfl (by omega) _ s.heap.length (ptrCells gs) rfl (owns_but hOW (But.alloc (fun _ => False) _ _) (fun _ _ h => h)) ⟨w.heap.size + 1 + 1 + 1, 0, none⟩ 1 1 [.pointer (some ⟨w.heap.size + 1 + 1, 0, none⟩)] rfl rfl (World.news_of_block (cs := #[.pointer (some ⟨w.heap.size + 1 + 1, 0, none⟩)]) (t := 315) (fr := (0, 0)) (heap_alloc_at hsW _)) (by simp [Value.oneCell']) (by omega) (by unfold maxLen; omega) (by omega) (by simp; omega) (w.heap.size + 1 + 1 + 1 + 1) (by simp [hsW]) ?_)
 intro gg cap2 w2 hown2 hgrow hat hlt2
 have hSW : But (fun k => (Value.slice ab s.heap.length capb).ownBlock = some k) W w2 := (But.alloc _ _ _).trans (but_grown hgrow)
 have hnb : (Value.slice ab s.heap.length capb).ownBlock ≠ some bw := owns_offE hOb HH.out.wd (by decide)
 have hbW : bw < W.heap.size := by omega
 have y4 := (hSW.cell (p := ⟨bw, 4, none⟩) hbW hnb).trans ((hBW.cell (p := ⟨bw, 4, none⟩) hbl (fun h => h)).trans c4)
 have y5 := (hSW.frozen (p := ⟨bw, 4, none⟩) hbW hnb).trans ((hBW.frozen (p := ⟨bw, 4, none⟩) hbl (fun h => h)).trans z4)
 have hb2 : bw < w2.heap.size := Nat.lt_of_lt_of_le hbW hSW.size
 have hr2 : ResX w2 w.heap.size := hgR.but hSW (fun hv => by have := owns_lt hOb _ hv; omega)
 have hlo : ∀ k, OwnQ be bw bl vo (.slice ab s.heap.length capb) lv gs fv k → k < w.heap.size := fun k hk => HH.out.lt hk
 have hs3 := (HH.out.new hBW).newOb (o := o) (gq := w.heap.size + 1 + 1) (vf := .slice (some ⟨w.heap.size + 1, 0, none⟩) ts.length ts.length) (vb' := .slice (some ⟨gg, 0, none⟩) (s.heap.length + 1) cap2) (by rw [← HC.out]; exact hgO) (by rw [HO.out, List.length_map]; exact made_row (base := w.heap.size) (by omega) hgF (by omega)) h0w
  ⟨by omega, fun hp => by have := (HH.out.pl _ hp).1; omega, fun hm => by have := hlo _ (Or.inr (Or.inr (Or.inr (Or.inr (Or.inr (Or.inr (Or.inl hm))))))); omega⟩
  (fun g hg => by
   simp only [Value.ownBlock, Option.some.injEq] at hg
   subst hg
   exact ⟨fun hp => by have := (HH.out.pl _ hp).1; omega, fun hl => by have := hlo _ (Or.inr (Or.inr (Or.inr (Or.inr (Or.inr (Or.inl hl)))))); omega, fun v hv hl => by have := hlo _ (Or.inr (Or.inr (Or.inr (Or.inr (Or.inr (Or.inr (Or.inr ⟨v, hv, hl⟩))))))); omega⟩)
  hSW hown2 (fun g hg hp => by
   simp only [Value.ownBlock, Option.some.injEq] at hg
   subst hg
   rcases hat with hat | hat
   ·exact (HH.out.k5 hat).2 hp
   ·have := (HH.out.pl _ hp).1; omega)
 have hB3 : But (FrQ P w0) w (w2.setCell ⟨bw, 4, none⟩ (.slice (some ⟨gg, 0, none⟩) (s.heap.length + 1) cap2)) := ((hBW.mono (fun _ _ h => h.elim)).trans (hSW.mono (fun k _ hv => HH.out.k5 hv))).trans (But.setCell w2 (a := ⟨bw, 4, none⟩) (F := FrQ P w0) HH.out.k2 _)
 have hr3 := hr2.but (But.setB w2 bw 4 (.slice (some ⟨gg, 0, none⟩) (s.heap.length + 1) cap2)) (fun e => by have e : w.heap.size = bw := e; omega)
 have hOO : ∀ k, OwnQ be bw bl vo (.slice (some ⟨gg, 0, none⟩) (s.heap.length + 1) cap2) lv (gs ++ [w.heap.size + 1 + 1]) (fv ++ [.slice (some ⟨w.heap.size + 1, 0, none⟩) ts.length ts.length]) k → k ≠ w.heap.size := by
  intro k hk
  have old : ∀ {k}, OwnQ be bw bl vo (.slice ab s.heap.length capb) lv gs fv k → k ≠ w.heap.size := fun hk => by have := hlo _ hk; omega
  rcases hk with rfl | rfl | rfl | hk | hk | hk | hk | ⟨v, hv, hk⟩
  ·exact old (Or.inl rfl)
  ·exact old (Or.inr (Or.inl rfl))
  ·exact old (Or.inr (Or.inr (Or.inl rfl)))
  ·exact old (Or.inr (Or.inr (Or.inr (Or.inl hk))))
  ·simp only [Value.ownBlock, Option.some.injEq] at hk
   subst hk
   rcases hat with hat | hat
   ·exact old (Or.inr (Or.inr (Or.inr (Or.inr (Or.inl hat)))))
   ·omega
  ·exact old (Or.inr (Or.inr (Or.inr (Or.inr (Or.inr (Or.inl hk))))))
  ·rcases List.mem_append.1 hk with hk | hk
   ·exact old (Or.inr (Or.inr (Or.inr (Or.inr (Or.inr (Or.inr (Or.inl hk)))))))
   ·rw [List.mem_singleton] at hk; omega
  ·rcases List.mem_append.1 hv with hv | hv
   ·exact old (Or.inr (Or.inr (Or.inr (Or.inr (Or.inr (Or.inr (Or.inr ⟨v, hv, hk⟩)))))))
   ·rw [List.mem_singleton] at hv; subst hv; simp only [Value.ownBlock, Option.some.injEq] at hk; omega
 have HPL : Hid (∀ k, P k → k < w.heap.size) := fun k hk => (HH.out.pl k hk).1
 obtain ⟨K9, N9, r0, r1, f0, f1, hrl⟩ := hr2.parts
 have hne : ¬ bw = w.heap.size := by omega
 have hne2 : ¬ w.heap.size = bw := by omega
 clear HF hmk c0 c4 z4 HO HC hgF hgO hgR hOW hOb hown2 hgrow hat HWW hr2 hSW HH
 go_wp2_with fail
 exact retX1 Tryz.results236 rfl rfl (hr3.put _ _) ⟨hB3.next (but_put _ _ _ _) (fun k hk e => by have e : k = w.heap.size := e; omega), rfl, _, _, _,
  hs3.but (but_put _ _ _ _) (fun k e => by have e : k = w.heap.size := e; omega) (fun k hk e => hOO k hk e) (fun k hk e => by have e : k = w.heap.size := e; have := HPL.out k hk; omega)⟩
end
theorem byteInfo : (Tryz.prog.info? 5).map (fun i => (i.zero, i.size, i.bytes)) = some (some (.int .u8 0), 1, 1) := by kernel_rfl
theorem but_below {w w' : World} (h : But (fun _ => False) w w') : Below w.heap.size w w' := h.toBelow (Nat.le_refl _) (fun _ h => h.elim)
section
variable {P : Nat → Prop} {w0 w w' : World} {be bw tx bl : Nat} {inp : ByteArray} {s : Ev} {lv vo vb : Value} {l : List V} {gs : List Nat} {fv : List Value}
structure BytesTurned (w0 w w' : World) : Prop where
 bel : Below w0.heap.size w w'
 kept : ∀ (k : Nat) o, w.heap[k]? = some o → (∀ c fz, o ≠ .cells c 5 fz) → w'.heap[k]? = some o
theorem BytesTurned.frame (h : StQ P w0 w be bw tx inp s bl lv l vo vb gs fv) (ht : BytesTurned w0 w w') : But (FrQ P w0) w w' := by
 refine ⟨ht.bel.os, ht.bel.tape, ht.bel.output, ht.bel.size, fun k hk hf => ?_⟩
 by_cases h0 : k < w0.heap.size
 ·exact ht.bel.block k h0
 ·have hp : P k := Classical.byContradiction fun hp => hf ⟨by omega, hp⟩
  rw [ht.kept k _ (Array.getElem?_eq_getElem hk) (fun c fz e => (h.pl k hp).2 c fz (by rw [Array.getElem?_eq_getElem hk, e])), Array.getElem?_eq_getElem hk]
theorem StQ.say {vo' : Value} {o : List UInt8} (h : StQ P w0 w be bw tx inp s bl lv l vo vb gs fv) (ht : BytesTurned w0 w w') (hrow : w'.ownsRow w0.heap.size 5 1 vo' o.length (Lib.byteCells o)) :
  StQ P w0 (w'.setCell ⟨bw, 3, none⟩ vo') be bw tx inp { s with out := o } bl lv l vo' vb gs fv := by
 have hS : But (· = bw) w' (w'.setCell ⟨bw, 3, none⟩ vo') := But.setB _ _ _ _
 have blk0 : ∀ {k t : Nat} {c : Array Value} {fr : Nat × Nat}, t ≠ 5 → w.heap[k]? = some (.cells c t fr) → w'.heap[k]? = some (.cells c t fr) := fun h1 hk => ht.kept _ _ hk (fun c fz e => by injection e with _ e2; exact h1 e2)
 have hwd : XwB w' bw tx inp (min s.read inp.size : Nat) vo vb := blk0 (by decide) h.wd
 have blk : ∀ {k t : Nat} {c : Array Value} {fr : Nat × Nat}, t ≠ 5 → t ≠ 211 → w.heap[k]? = some (.cells c t fr) → (w'.setCell ⟨bw, 3, none⟩ vo').heap[k]? = some (.cells c t fr) := fun h1 h2 hk => (hS.block _ (lt_of_block (blk0 h1 hk)) (off_type hk h.wd (Ne.symm h2))).trans (blk0 h1 hk)
 have row : ∀ {v : Value} {t b n z : Nat} {xs : List Value}, t ≠ 5 → t ≠ 211 → w.ownsRow b t z v n xs → (w'.setCell ⟨bw, 3, none⟩ vo').ownsRow b t z v n xs := fun h1 h2 hr => by
  refine ⟨hr.1, ?_⟩
  rcases hr.2 with hr2 | ⟨g, cap, cur, hv, hg, hh, r⟩
  ·exact Or.inl hr2
  ·exact Or.inr ⟨g, cap, cur, hv, hg, blk h1 h2 hh, r⟩
 have hbel : But (fun _ => False) w0 w' := ⟨ht.bel.os.trans h.old.os, ht.bel.tape.trans h.old.tape, ht.bel.output.trans h.old.output, Nat.le_trans h.old.size ht.bel.size, fun k hk _ => (ht.bel.block k hk).trans (h.old.block k hk (fun h => h))⟩
 have hnP : ∀ g, vo'.ownBlock = some g → ¬ P g := fun g hg hp => by
  obtain ⟨cur, hc⟩ := owns_type hrow hg
  obtain ⟨a, b⟩ := h.pl g hp
  have e1 := ht.kept g _ (Array.getElem?_eq_getElem a) (fun c fz e => b c fz (by rw [Array.getElem?_eq_getElem a, e]))
  rw [e1] at hc
  exact b cur (0, 0) (by rw [Array.getElem?_eq_getElem a]; exact hc)
 refine ⟨hbel.next hS (fun k hk e => by have e : k = bw := e; have := h.k2.1; omega), blk (by decide) (by decide) h.ev, hwd.set3 vo', owns_but hrow hS (fun g hg e => owns_offE hrow hwd (by decide) (e ▸ hg)), row (by decide) (by decide) h.ob, h.lg, h.lf, fun k o g v a b c => ⟨blk (by decide) (by decide) (h.obs k o g v a b c).1, row (by decide) (by decide) (h.obs k o g v a b c).2⟩, h.nd, blk (by decide) (by decide) h.lb, row (by decide) (by decide) h.lo, fun k hk => ?_, fun k hk => ?_, h.sl, h.sf⟩
 ·rcases hk with rfl | rfl | rfl | hk | hk | hk | hk | ⟨v, hv, hk⟩
  ·exact h.k1
  ·exact h.k2
  ·exact h.k3
  ·exact ⟨owns_ge hrow k hk, hnP k hk⟩
  ·exact h.k5 hk
  ·exact h.k6 hk
  ·exact h.k7 hk
  ·exact h.k8 hv hk
 ·obtain ⟨a, b⟩ := h.pl k hk
  have e1 := ht.kept k _ (Array.getElem?_eq_getElem a) (fun c fz e => b c fz (by rw [Array.getElem?_eq_getElem a, e]))
  have e2 := hS.block k (lt_of_block e1) (fun e => h.k2.2 (e ▸ hk))
  refine ⟨by rw [size_setCell]; exact lt_of_block e1, fun c fz e => ?_⟩
  rw [e2, e1] at e
  exact b c fz (by rw [Array.getElem?_eq_getElem a]; exact e)
theorem BytesTurned.grown {X w2 : World} {v : Value} {n : Nat} {xs : List Value} (h0 : w0.heap.size ≤ X.heap.size) (ho : X.ownsRow w0.heap.size 5 1 v n xs) (hB : But (fun k => v.ownBlock = some k) X w2) : BytesTurned w0 X w2 := by
 refine ⟨⟨hB.os, hB.tape, hB.output, hB.size, fun k hk => ?_⟩, fun k o hk hn => ?_⟩
 ·exact hB.block k (by omega) (fun hv => by have := owns_ge ho k hv; omega)
 ·refine (hB.block k (lt_of_block hk) (fun hv => ?_)).trans hk
  obtain ⟨cur, hc⟩ := owns_type ho hv
  rw [hk] at hc
  cases hc
  exact hn _ _ rfl
theorem putOut_any (h : StQ P w0 w be bw tx inp s bl lv l vo vb gs fv) (ht : TabW w0) (n : Int) (h1 : -2147483648 ≤ n) (h2 : n < 2147483648) (hol : s.out.length ≤ 90000) :
  Calls Tryz.prog 233 #[.pointer (some ⟨bw, 0, none⟩), .int .i32 n] w fun en w' => But (FrQ P w0) w w' ∧ en = .returned (.tuple #[]) ∧ ∃ vo', StQ P w0 w' be bw tx inp (s.say n) bl lv l vo' vb gs fv := by
 have hT : Lib.TabBelow Tryz.prog w0.heap.size w0 "internal/strconv.uint64pow10" .u64 Lib.pow10Tab := Lib.tabBelow_of_tabIs ht
 have hTw := hT.on (but_below h.old)
 have HA := hid (appendInt_any w0.heap.size s.out.length n h1 h2 vo _ w h.out h.old.size (by omega) hTw)
 have c3 := h.wd.c3
 have hbl := h.wd.lt
 have HH := hid h
 obtain ⟨ao, capo, rfl⟩ := owns_len h.out
 clear h hT hTw
 have hil := Lib.itoa_length_le n (by omega) (by omega)
 obtain ⟨D, hD⟩ : ∃ D, Lib.itoa n = D := ⟨_, rfl⟩
 rw [hD] at HA hil
 have HD := hid hD
 clear hD
 go_enter Tryz.func233, Tryz.ntmps233
 go_wp2_with fail
 refine HA.out.mono ?_
 rintro en w1 ⟨v', rfl, hrow, hbel, hkept⟩
 rw [← Lib.byteCells_append, ← List.length_append] at hrow
 have hbt : BytesTurned w0 w w1 := ⟨hbel, fun k o hk hn => hkept k o hk (by simp) hn⟩
 have hs1 := HH.out.say hbt hrow
 have hB1 := BytesTurned.frame HH.out hbt
 obtain ⟨av, capv, rfl⟩ := owns_len hrow
 have hwd1 : XwB w1 bw tx inp (min s.read inp.size : Nat) (.slice ao s.out.length capo) vb := hkept _ _ HH.out.wd (by simp) (fun c fz e => by injection e with _ e2; exact absurd e2 (by decide))
 have e3 := hwd1.c3
 have z3 := hwd1.fz 3
 have m1 := hwd1.lt
 obtain ⟨m, hm⟩ : ∃ m, (s.out ++ D).length = m := ⟨_, rfl⟩
 have hm9 : m ≤ 95000 := by rw [← hm]; simp; omega
 have hO1 := hs1.out
 simp only at hO1
 rw [hm] at hs1 hO1 ⊢
 have HM := hid hm
 have h0W := hs1.old.size
 have hk2 := HH.out.k2
 have HS1 := hid hs1
 clear HA hbel hkept hrow hbt hwd1 hm hs1
 have hsz3 : (w1.setCell ⟨bw, 3, none⟩ (.slice av m capv)).heap.size = w1.heap.size := size_setCell _ _ _
 obtain ⟨i0, hi0, hz0, hz1, hz2⟩ := info_parts byteInfo
 go_wp2_with (at_builtin; refine wpList_append_lies _ rfl _ _ _ rfl w0.heap.size 5 i0 _ 1 1 (by kernel_rfl) hi0 hz0 hz1 hz2 rfl (by omega) _ m (Lib.byteCells (s.out ++ D)) rfl (owns_but hO1 (But.alloc (fun _ => False) _ _) (fun _ _ h => h)) ⟨w1.heap.size, 0, none⟩ 1 1 [.int .u8 32] rfl rfl (World.news_of_block (cs := #[.int .u8 32]) (t := 5) (fr := (0, 0)) (heap_alloc_at hsz3 _)) (by simp [Value.oneCell']) (by omega) (by unfold maxLen; omega) (by omega) (by simp; omega) (w1.heap.size + 1) (by simp [hsz3]) ?_)
 intro gg cap2 w2 hown2 hgrow hat hlt2
 have hSW : But (fun k => (Value.slice av m capv).ownBlock = some k) (w1.setCell ⟨bw, 3, none⟩ (.slice av m capv)) w2 := (But.alloc _ _ _).trans (but_grown hgrow)
 have hbt2 : BytesTurned w0 (w1.setCell ⟨bw, 3, none⟩ (.slice av m capv)) w2 := BytesTurned.grown h0W hO1 hSW
 have hrow2 : w2.ownsRow w0.heap.size 5 1 (.slice (some ⟨gg, 0, none⟩) (m + 1) cap2) (s.out ++ D ++ [32]).length (Lib.byteCells (s.out ++ D ++ [32])) := by
  have e1 : (s.out ++ D ++ [32]).length = m + 1 := by rw [List.length_append, HM.out]; rfl
  rw [e1, Lib.byteCells_append]
  exact hown2
 have hs2 := HS1.out.say hbt2 hrow2
 have hnb := owns_offE hO1 HS1.out.wd (by decide)
 have y3 := (hSW.cell (p := ⟨bw, 3, none⟩) (by rw [hsz3]; exact m1) hnb).trans HS1.out.wd.c3
 have y4 := (hSW.frozen (p := ⟨bw, 3, none⟩) (by rw [hsz3]; exact m1) hnb).trans (HS1.out.wd.fz 3)
 have hb2 : bw < w2.heap.size := Nat.lt_of_lt_of_le (by rw [hsz3]; exact m1) hSW.size
 have hB2 : But (FrQ P w0) w (w2.setCell ⟨bw, 3, none⟩ (.slice (some ⟨gg, 0, none⟩) (m + 1) cap2)) :=
  ((hB1.trans (But.setCell w1 (a := ⟨bw, 3, none⟩) (F := FrQ P w0) hk2 _)).trans (BytesTurned.frame HS1.out hbt2)).trans (But.setCell w2 (a := ⟨bw, 3, none⟩) (F := FrQ P w0) hk2 _)
 have HSY : Hid (s.say n = { s with out := s.out ++ D ++ [32] }) := by show _ = _; simp [Ev.say, HD.out]
 clear hbt2 hrow2 hSW hown2 hgrow hat HS1 hO1 e3 z3 c3 HM HD hB1
 go_wp2_with fail
 go_end0
 exact ⟨hB2, rfl, _, by rw [HSY.out]; exact hs2⟩
end
def ReV (P : Nat → Prop) (w0 w : World) (be bw tx : Nat) (inp : ByteArray) (bl : Nat) (lv : Value) (r : R) (en : Ending) (w' : World) : Prop :=
 But (FrQ P w0) w w' ∧ ∃ vo vb gs fv, match r with
 | .ok u l s => en = .returned (.tuple #[xAgg u, .int .i64 0]) ∧ StQ P w0 w' be bw tx inp s bl lv l vo vb gs fv
 | .bad e o => en = .returned (.tuple #[.agg #[.int .i32 0, .int .i64 0], .int .i64 (faultN e)]) ∧ ∃ s l, s.out = o ∧ StQ P w0 w' be bw tx inp s bl lv l vo vb gs fv
structure NB (w X : World) : Prop where
 but : But (fun _ => False) w X
 nb : ∀ k, w.heap.size ≤ k → k < X.heap.size → ∀ c fz, X.heap[k]? ≠ some (.cells c 5 fz)
theorem NB.refl (w : World) : NB w w := ⟨But.refl _ _, fun k h1 h2 => by omega⟩
theorem NB.alloc {w X : World} {c : Array Value} {t : Nat} (h : NB w X) (ht : t ≠ 5) : NB w (X.alloc (.cells c t)) := by
 refine ⟨h.but.trans (But.alloc _ _ _), fun k h1 h2 c' fz e => ?_⟩
 have h2 : k < X.heap.size + 1 := by simpa using h2
 rcases Nat.lt_or_ge k X.heap.size with h3 | h3
 ·rw [(But.alloc (fun _ => False) X _).block k h3 (fun h => h)] at e
  exact h.nb k h1 h3 c' fz e
 ·have : k = X.heap.size := by omega
  subst this
  rw [heap_alloc_new] at e
  cases e
  exact ht rfl
theorem nbDo {w : World} {c1 c2 c3 c4 : Array Value} : NB w ((((w.alloc (.cells c1 219)).alloc (.cells c2 168)).alloc (.cells c3 168)).alloc (.cells c4 168)) :=
 ((((NB.refl w).alloc (by decide)).alloc (by decide)).alloc (by decide)).alloc (by decide)
section
variable {P : Nat → Prop} {w0 w : World} {be bw tx bl : Nat} {inp : ByteArray} {s : Ev} {lv vo vb : Value} {l : List V} {gs : List Nat} {fv : List Value}
abbrev PQ (P : Nat → Prop) (w X : World) (k : Nat) : Prop := P k ∨ (w.heap.size ≤ k ∧ k < X.heap.size)
theorem StQ.grown {X : World} (h : StQ P w0 w be bw tx inp s bl lv l vo vb gs fv) (hN : NB w X) : StQ (PQ P w X) w0 X be bw tx inp s bl lv l vo vb gs fv := h.grow hN.but hN.nb
theorem StQ.fin {X X' : World} {r : Nat} (hN : NB w X) (h0 : w0.heap.size ≤ w.heap.size) (hs : StQ (PQ P w X) w0 X' be bw tx inp s bl lv l vo vb gs fv) (hB : But (FrQ (PQ P w X) w0) X X') (hr : w.heap.size ≤ r) (hx : ResX X r) (a b : Int) :
  ResX X' r ∧ But (FrQ P w0) w ((X'.setCell ⟨r, 0, none⟩ (.int .i32 a)).setCell ⟨r, 1, none⟩ (.int .i64 b)) ∧ StQ P w0 ((X'.setCell ⟨r, 0, none⟩ (.int .i32 a)).setCell ⟨r, 1, none⟩ (.int .i64 b)) be bw tx inp s bl lv l vo vb gs fv := by
 have hr2 : r < X.heap.size := by obtain ⟨K, N, hx⟩ := hx; exact lt_of_block hx
 have hx' : ResX X' r := hx.but hB (fun hf => hf.2 (Or.inr ⟨hr, hr2⟩))
 refine ⟨hx', ?_, ?_⟩
 ·refine ((hN.but.mono (fun _ _ h => h.elim)).trans (hB.mono (fun k hk hf => ⟨hf.1, fun hp => hf.2 (Or.inl hp)⟩))).next (but_put _ _ _ _) (fun k hk e => by have e : k = r := e; omega)
 ·refine (hs.tmp (F := (· = r)) (but_put _ _ _ _) (fun k e => by have e : k = r := e; subst e; exact ⟨Or.inr ⟨hr, hr2⟩, by omega⟩) (fun k e c fz he => ?_)).less (fun k hp => Or.inl hp)
  have e : k = r := e
  subst e
  rw [hx'.put] at he
  cases he
theorem StQ.fin0 {X X' : World} {r : Nat} (h : StQ P w0 w be bw tx inp s bl lv l vo vb gs fv) (hN : NB w X) (hB : But (fun _ => False) X X') (hr : w.heap.size ≤ r) (hx : ResX X r) (a b : Int) :
  ResX X' r ∧ But (FrQ P w0) w ((X'.setCell ⟨r, 0, none⟩ (.int .i32 a)).setCell ⟨r, 1, none⟩ (.int .i64 b)) ∧ StQ P w0 ((X'.setCell ⟨r, 0, none⟩ (.int .i32 a)).setCell ⟨r, 1, none⟩ (.int .i64 b)) be bw tx inp s bl lv l vo vb gs fv :=
 StQ.fin hN h.old.size ((h.grown hN).new hB) (hB.mono (fun _ _ h => h.elim)) hr hx a b
theorem do_k (h : StQ P w0 w be bw tx inp s bl lv l vo vb gs fv) (u v : V) (pl n pn pc : Nat) (c : UInt8) (pa : Option Addr) (hn : n < 100) :
  Calls Tryz.prog 197 #[.pointer (some ⟨bw, 0, none⟩), .agg #[.int .i64 pl, .int .u8 107, .int .u8 c.toNat, .int .i64 n, .slice pa pn pc], xAgg u, xAgg v] w (ReV P w0 w be bw tx inp bl lv (.ok (.i n) l s)) := by
 unfold xAgg
 go_enter Tryz.func197, Tryz.ntmps197
 go_wp2_with fail
 exact retX Tryz.results197 rfl rfl rfl (heap_alloc_at (by simp) _) ⟨nbDo.but.mono (fun _ _ h => h.elim), vo, vb, gs, fv, rfl, h.new nbDo.but⟩
theorem do_z (h : StQ P w0 w be bw tx inp s bl lv l vo vb gs fv)  (u v : V) (pl n pn pc : Nat) (c : UInt8) (pa : Option Addr) :
  Calls Tryz.prog 197 #[.pointer (some ⟨bw, 0, none⟩), .agg #[.int .i64 pl, .int .u8 122, .int .u8 c.toNat, .int .i64 n, .slice pa pn pc], xAgg u, xAgg v] w (ReV P w0 w be bw tx inp bl lv (.ok .z l s)) := by
 unfold xAgg
 go_enter Tryz.func197, Tryz.ntmps197
 go_wp2_with fail
 exact retX Tryz.results197 rfl rfl rfl (heap_alloc_at (by simp) _) ⟨nbDo.but.mono (fun _ _ h => h.elim), vo, vb, gs, fv, rfl, h.new nbDo.but⟩
theorem do_r (h : StQ P w0 w be bw tx inp s bl lv l vo vb gs fv) (h40 : inp.size ≤ 40) (u v : V) (pl n pn pc : Nat) (c : UInt8) (pa : Option Addr) :
  Calls Tryz.prog 197 #[.pointer (some ⟨bw, 0, none⟩), .agg #[.int .i64 pl, .int .u8 114, .int .u8 c.toNat, .int .i64 n, .slice pa pn pc], xAgg u, xAgg v] w (ReV P w0 w be bw tx inp bl lv (.ok (.i (nextV inp s.read)) l { s with read := s.read + 1 })) := by
 have HC := hid (fun X (hX : NB w X) => nextByte_any (h.grown hX) h40)
 have h0 := h.old.size
 clear h
 unfold xAgg
 go_enter Tryz.func197, Tryz.ntmps197
 go_wp2_with fail
 refine (HC.out _ nbDo).mono ?_
 rintro en w1 ⟨hB1, rfl, hs1⟩
 have HF := hid (fun a b => StQ.fin nbDo h0 hs1 hB1 (r := w.heap.size + 1 + 1 + 1) (by omega) ⟨0, 0, heap_alloc_at (by simp) _⟩ a b)
 have hr1 := (HF.out 0 0).1
 obtain ⟨K9, N9, r0, r1, f0, f1, hrl⟩ := hr1.parts
 simp only [xAgg]
 clear HC hB1 hs1
 go_wp2_with fail
 exact retX Tryz.results197 rfl rfl rfl (hr1.put _ _) ⟨(HF.out _ _).2.1, _, _, _, _, rfl, (HF.out _ _).2.2⟩
theorem do_w (h : StQ P w0 w be bw tx inp s bl lv l vo vb gs fv) (ht : TabW w0) (m : Int) (h1 : -2147483648 ≤ m) (h2 : m < 2147483648) (hol : s.out.length ≤ 90000) (v : V) (pl n pn pc : Nat) (c : UInt8) (pa : Option Addr) :
  Calls Tryz.prog 197 #[.pointer (some ⟨bw, 0, none⟩), .agg #[.int .i64 pl, .int .u8 119, .int .u8 c.toNat, .int .i64 n, .slice pa pn pc], xAgg (.i m), xAgg v] w (ReV P w0 w be bw tx inp bl lv (.ok (.i 0) l (s.say m))) := by
 have HC := hid (fun X (hX : NB w X) => putOut_any (h.grown hX) ht m h1 h2 hol)
 have h0 := h.old.size
 clear h
 unfold xAgg
 go_enter Tryz.func197, Tryz.ntmps197
 go_wp2_with fail
 refine (HC.out _ nbDo).mono ?_
 rintro en w1 ⟨hB1, rfl, vo1, hs1⟩
 have HF := hid (fun a b => StQ.fin nbDo h0 hs1 hB1 (r := w.heap.size + 1 + 1 + 1) (by omega) ⟨0, 0, heap_alloc_at (by simp) _⟩ a b)
 have hr1 := (HF.out 0 0).1
 obtain ⟨K9, N9, r0, r1, f0, f1, hrl⟩ := hr1.parts
 simp only [xAgg]
 clear HC hB1 hs1
 go_wp2_with fail
 exact retX Tryz.results197 rfl rfl rfl (hr1.put _ _) ⟨(HF.out _ _).2.1, _, _, _, _, rfl, (HF.out _ _).2.2⟩
theorem do_e (h : StQ P w0 w be bw tx inp s bl lv l vo vb gs fv) (u v : V) (huv : xO u = xO v ↔ u = v)  (pl n pn pc : Nat) (c : UInt8) (pa : Option Addr) :
  Calls Tryz.prog 197 #[.pointer (some ⟨bw, 0, none⟩), .agg #[.int .i64 pl, .int .u8 101, .int .u8 c.toNat, .int .i64 n, .slice pa pn pc], xAgg u, xAgg v] w (ReV P w0 w be bw tx inp bl lv (.ok (if u = v then .i 1 else .i 0) l s)) := by
 by_cases hq : xO u = xO v
 ·rw [if_pos (huv.1 hq)]
  have HC := hid (fun X (hX : NB w X) => xtruth_any true X)
  have HG := hid h
  clear huv
  clear h
  unfold xAgg
  rw [hq]
  go_enter Tryz.func197, Tryz.ntmps197
  go_wp2_with fail
  refine (HC.out _ nbDo).mono ?_
  rintro en w1 ⟨rfl, hB0⟩
  have HF := hid (fun a b => HG.out.fin0 nbDo hB0 (r := w.heap.size + 1 + 1 + 1) (by omega) ⟨0, 0, heap_alloc_at (by simp) _⟩ a b)
  have hr1 := (HF.out 0 0).1
  obtain ⟨K9, N9, r0, r1, f0, f1, hrl⟩ := hr1.parts
  simp only [xAgg]
  clear HC hB0
  go_wp2_with fail
  exact retX Tryz.results197 rfl rfl rfl (hr1.put _ _) ⟨(HF.out _ _).2.1, _, _, _, _, rfl, (HF.out _ _).2.2⟩
 ·rw [if_neg (fun e => hq (huv.2 e))]
  have hq2 : (xO u == xO v) = false := by simpa using hq
  have HC := hid (fun X (hX : NB w X) => xtruth_any false X)
  have HG := hid h
  clear huv
  clear h
  unfold xAgg
  go_enter Tryz.func197, Tryz.ntmps197
  go_wp2_with fail
  refine (HC.out _ nbDo).mono ?_
  rintro en w1 ⟨rfl, hB0⟩
  have HF := hid (fun a b => HG.out.fin0 nbDo hB0 (r := w.heap.size + 1 + 1 + 1) (by omega) ⟨0, 0, heap_alloc_at (by simp) _⟩ a b)
  have hr1 := (HF.out 0 0).1
  obtain ⟨K9, N9, r0, r1, f0, f1, hrl⟩ := hr1.parts
  simp only [xAgg]
  clear HC hB0
  go_wp2_with fail
  exact retX Tryz.results197 rfl rfl rfl (hr1.put _ _) ⟨(HF.out _ _).2.1, _, _, _, _, rfl, (HF.out _ _).2.2⟩
theorem do_n (h : StQ P w0 w be bw tx inp s bl lv l vo vb gs fv) (h4 : s.heap.length ≤ 4000) (cs : List XCls) (hn : cs.length ≤ 100) (hT : TxC w0 tx cs) (o : Ob) (ts : List UInt8) (u v : V) (pl n pn pc : Nat) (c : UInt8) (pa : Option Addr) (hc : c.toNat = 65 + o.cls) (hts : fldsX cs c = ts) (ht5 : ts.length ≤ 100) (hof : o.fs = ts.map plainV) :
  Calls Tryz.prog 197 #[.pointer (some ⟨bw, 0, none⟩), .agg #[.int .i64 pl, .int .u8 110, .int .u8 c.toNat, .int .i64 n, .slice pa pn pc], xAgg u, xAgg v] w (ReV P w0 w be bw tx inp bl lv (.ok (.o s.heap.length) l { s with heap := s.heap ++ [o] })) := by
 have HC := hid (fun X (hX : NB w X) => newObject_any (h.grown hX) h4 cs hn hT c o hc ts hts ht5 hof)
 have h0 := h.old.size
 clear h hc hts hof
 unfold xAgg
 go_enter Tryz.func197, Tryz.ntmps197
 go_wp2_with fail
 refine (HC.out _ nbDo).mono ?_
 rintro en w1 ⟨hB1, rfl, vb1, gs1, fv1, hs1⟩
 have HF := hid (fun a b => StQ.fin nbDo h0 hs1 hB1 (r := w.heap.size + 1 + 1 + 1) (by omega) ⟨0, 0, heap_alloc_at (by simp) _⟩ a b)
 have hr1 := (HF.out 0 0).1
 obtain ⟨K9, N9, r0, r1, f0, f1, hrl⟩ := hr1.parts
 simp only [xAgg]
 clear HC hB1 hs1
 go_wp2_with fail
 exact retX Tryz.results197 rfl rfl rfl (hr1.put _ _) ⟨(HF.out _ _).2.1, _, _, _, _, rfl, (HF.out _ _).2.2⟩
theorem do_gz (h : StQ P w0 w be bw tx inp s bl lv l vo vb gs fv) (h4 : s.heap.length ≤ 4000) (v : V) (pl n pn pc : Nat) (c : UInt8) (pa : Option Addr) :
  Calls Tryz.prog 197 #[.pointer (some ⟨bw, 0, none⟩), .agg #[.int .i64 pl, .int .u8 103, .int .u8 c.toNat, .int .i64 n, .slice pa pn pc], xAgg .z, xAgg v] w (ReV P w0 w be bw tx inp bl lv (.bad 6 s.out)) := by
 have HC := hid (fun X (hX : NB w X) => field_z (h.grown hX) h4 n)
 have HG := hid h
 clear h
 unfold xAgg
 go_enter Tryz.func197, Tryz.ntmps197
 go_wp2_with fail
 refine (HC.out _ nbDo).mono ?_
 rintro en w1 ⟨hB0, rfl⟩
 have HF := hid (fun a b => HG.out.fin0 nbDo hB0 (r := w.heap.size + 1 + 1 + 1) (by omega) ⟨0, 0, heap_alloc_at (by simp) _⟩ a b)
 have hr1 := (HF.out 0 0).1
 obtain ⟨K9, N9, r0, r1, f0, f1, hrl⟩ := hr1.parts
 simp only [xAgg]
 clear HC hB0
 go_wp2_with fail
 exact retX Tryz.results197 rfl rfl rfl (hr1.put _ _) ⟨(HF.out _ _).2.1, _, _, _, _, rfl, s, l, rfl, (HF.out _ _).2.2⟩
theorem do_go (h : StQ P w0 w be bw tx inp s bl lv l vo vb gs fv) (h4 : s.heap.length ≤ 4000) {k : Nat} {o : Ob} (hk : s.heap[k]? = some o) (q : V) (v : V) (pl n pn pc : Nat) (c : UInt8) (pa : Option Addr) (hq : o.fs[n]? = some q) :
  Calls Tryz.prog 197 #[.pointer (some ⟨bw, 0, none⟩), .agg #[.int .i64 pl, .int .u8 103, .int .u8 c.toNat, .int .i64 n, .slice pa pn pc], xAgg (.o k), xAgg v] w (ReV P w0 w be bw tx inp bl lv (.ok q l s)) := by
 have HC := hid (fun X (hX : NB w X) => field_o (h.grown hX) h4 hk n q hq)
 have HG := hid h
 clear hk hq
 clear h
 unfold xAgg
 go_enter Tryz.func197, Tryz.ntmps197
 go_wp2_with fail
 refine (HC.out _ nbDo).mono ?_
 rintro en w1 ⟨hB0, rfl⟩
 have HF := hid (fun a b => HG.out.fin0 nbDo hB0 (r := w.heap.size + 1 + 1 + 1) (by omega) ⟨0, 0, heap_alloc_at (by simp) _⟩ a b)
 have hr1 := (HF.out 0 0).1
 obtain ⟨K9, N9, r0, r1, f0, f1, hrl⟩ := hr1.parts
 simp only [xAgg]
 clear HC hB0
 go_wp2_with fail
 exact retX Tryz.results197 rfl rfl rfl (hr1.put _ _) ⟨(HF.out _ _).2.1, _, _, _, _, rfl, (HF.out _ _).2.2⟩
theorem do_pz (h : StQ P w0 w be bw tx inp s bl lv l vo vb gs fv) (h4 : s.heap.length ≤ 4000) (v : V) (pl n pn pc : Nat) (c : UInt8) (pa : Option Addr) :
  Calls Tryz.prog 197 #[.pointer (some ⟨bw, 0, none⟩), .agg #[.int .i64 pl, .int .u8 112, .int .u8 c.toNat, .int .i64 n, .slice pa pn pc], xAgg .z, xAgg v] w (ReV P w0 w be bw tx inp bl lv (.bad 6 s.out)) := by
 have HC := hid (fun X (hX : NB w X) => setField_z (h.grown hX) h4 n v)
 have HG := hid h
 clear h
 unfold xAgg
 go_enter Tryz.func197, Tryz.ntmps197
 go_wp2_with fail
 refine (HC.out _ nbDo).mono ?_
 rintro en w1 ⟨hB0, rfl⟩
 have HF := hid (fun a b => HG.out.fin0 nbDo hB0 (r := w.heap.size + 1 + 1 + 1) (by omega) ⟨0, 0, heap_alloc_at (by simp) _⟩ a b)
 have hr1 := (HF.out 0 0).1
 obtain ⟨K9, N9, r0, r1, f0, f1, hrl⟩ := hr1.parts
 simp only [xAgg]
 clear HC hB0
 go_wp2_with fail
 exact retX Tryz.results197 rfl rfl rfl (hr1.put _ _) ⟨(HF.out _ _).2.1, _, _, _, _, rfl, s, l, rfl, (HF.out _ _).2.2⟩
theorem do_po (h : StQ P w0 w be bw tx inp s bl lv l vo vb gs fv) (h4 : s.heap.length ≤ 4000) {k : Nat} {o : Ob} (hk : s.heap[k]? = some o) (v : V) (pl n pn pc : Nat) (c : UInt8) (pa : Option Addr) (hq : n < o.fs.length) :
  Calls Tryz.prog 197 #[.pointer (some ⟨bw, 0, none⟩), .agg #[.int .i64 pl, .int .u8 112, .int .u8 c.toNat, .int .i64 n, .slice pa pn pc], xAgg (.o k), xAgg v] w (ReV P w0 w be bw tx inp bl lv (.ok (.i 0) l (s.put k n v))) := by
 have HC := hid (fun X (hX : NB w X) => setField_o (h.grown hX) h4 hk n v hq)
 have h0 := h.old.size
 clear h hk hq
 unfold xAgg
 go_enter Tryz.func197, Tryz.ntmps197
 go_wp2_with fail
 refine (HC.out _ nbDo).mono ?_
 rintro en w1 ⟨hB1, rfl, hs1⟩
 have HF := hid (fun a b => StQ.fin nbDo h0 hs1 hB1 (r := w.heap.size + 1 + 1 + 1) (by omega) ⟨0, 0, heap_alloc_at (by simp) _⟩ a b)
 have hr1 := (HF.out 0 0).1
 obtain ⟨K9, N9, r0, r1, f0, f1, hrl⟩ := hr1.parts
 simp only [xAgg]
 clear HC hB1 hs1
 go_wp2_with fail
 exact retX Tryz.results197 rfl rfl rfl (hr1.put _ _) ⟨(HF.out _ _).2.1, _, _, _, _, rfl, (HF.out _ _).2.2⟩
theorem do_xz (h : StQ P w0 w be bw tx inp s bl lv l vo vb gs fv) (h4 : s.heap.length ≤ 4000) (v : V) (pl n pn pc : Nat) (c : UInt8) (pa : Option Addr) :
  Calls Tryz.prog 197 #[.pointer (some ⟨bw, 0, none⟩), .agg #[.int .i64 pl, .int .u8 120, .int .u8 c.toNat, .int .i64 n, .slice pa pn pc], xAgg .z, xAgg v] w (ReV P w0 w be bw tx inp bl lv (.ok .z l s)) := by
 have HC := hid (fun X (hX : NB w X) => cast_z (h.grown hX) h4 c)
 have HG := hid h
 clear h
 unfold xAgg
 go_enter Tryz.func197, Tryz.ntmps197
 go_wp2_with fail
 refine (HC.out _ nbDo).mono ?_
 rintro en w1 ⟨hB0, rfl⟩
 have HF := hid (fun a b => HG.out.fin0 nbDo hB0 (r := w.heap.size + 1 + 1 + 1) (by omega) ⟨0, 0, heap_alloc_at (by simp) _⟩ a b)
 have hr1 := (HF.out 0 0).1
 obtain ⟨K9, N9, r0, r1, f0, f1, hrl⟩ := hr1.parts
 simp only [xAgg]
 clear HC hB0
 go_wp2_with fail
 exact retX Tryz.results197 rfl rfl rfl (hr1.put _ _) ⟨(HF.out _ _).2.1, _, _, _, _, rfl, (HF.out _ _).2.2⟩
theorem do_xo (h : StQ P w0 w be bw tx inp s bl lv l vo vb gs fv) (h4 : s.heap.length ≤ 4000) {k : Nat} {o : Ob} (hk : s.heap[k]? = some o) (cs : List XCls) (hn : cs.length ≤ 100) (hT : TxC w0 tx cs) (a : UInt8) (ha : a.toNat = 65 + o.cls) (v : V) (pl n pn pc : Nat) (c : UInt8) (pa : Option Addr) :
  Calls Tryz.prog 197 #[.pointer (some ⟨bw, 0, none⟩), .agg #[.int .i64 pl, .int .u8 120, .int .u8 c.toNat, .int .i64 n, .slice pa pn pc], xAgg (.o k), xAgg v] w (ReV P w0 w be bw tx inp bl lv (if comesX cs c cs.length a = true then .ok (.o k) l s else .bad 8 s.out)) := by
 have HC := hid (fun X (hX : NB w X) => cast_o (h.grown hX) h4 hk cs hn hT a c ha)
 have HG := hid h
 obtain ⟨r, hr⟩ : ∃ r, comesX cs c cs.length a = r := ⟨_, rfl⟩
 rw [hr] at HC ⊢
 clear h hr ha hk
 cases r
 ·simp only [Bool.false_eq_true, if_false] at HC ⊢
  unfold xAgg
  go_enter Tryz.func197, Tryz.ntmps197
  go_wp2_with fail
  refine (HC.out _ nbDo).mono ?_
  rintro en w1 ⟨hB0, rfl⟩
  have HF := hid (fun a b => HG.out.fin0 nbDo hB0 (r := w.heap.size + 1 + 1 + 1) (by omega) ⟨0, 0, heap_alloc_at (by simp) _⟩ a b)
  have hr1 := (HF.out 0 0).1
  obtain ⟨K9, N9, r0, r1, f0, f1, hrl⟩ := hr1.parts
  simp only [xAgg]
  clear HC hB0
  go_wp2_with fail
  exact retX Tryz.results197 rfl rfl rfl (hr1.put _ _) ⟨(HF.out _ _).2.1, _, _, _, _, rfl, s, l, rfl, (HF.out _ _).2.2⟩
 ·simp only [if_true] at HC ⊢
  unfold xAgg
  go_enter Tryz.func197, Tryz.ntmps197
  go_wp2_with fail
  refine (HC.out _ nbDo).mono ?_
  rintro en w1 ⟨hB0, rfl⟩
  have HF := hid (fun a b => HG.out.fin0 nbDo hB0 (r := w.heap.size + 1 + 1 + 1) (by omega) ⟨0, 0, heap_alloc_at (by simp) _⟩ a b)
  have hr1 := (HF.out 0 0).1
  obtain ⟨K9, N9, r0, r1, f0, f1, hrl⟩ := hr1.parts
  simp only [xAgg]
  clear HC hB0
  go_wp2_with fail
  exact retX Tryz.results197 rfl rfl rfl (hr1.put _ _) ⟨(HF.out _ _).2.1, _, _, _, _, rfl, (HF.out _ _).2.2⟩
theorem do_a (h : StQ P w0 w be bw tx inp s bl lv l vo vb gs fv) (op : Nat) (hop : op = 43 ∨ op = 45 ∨ op = 42 ∨ op = 60 ∨ op = 61 ∨ op = 47) (a b : Int) (a1 : -2147483648 ≤ a) (a2 : a < 2147483648) (b1 : -2147483648 ≤ b) (b2 : b < 2147483648)  (pl n pn pc : Nat) (c : UInt8) (pa : Option Addr) :
  Calls Tryz.prog 197 #[.pointer (some ⟨bw, 0, none⟩), .agg #[.int .i64 pl, .int .u8 op, .int .u8 c.toNat, .int .i64 n, .slice pa pn pc], xAgg (.i a), xAgg (.i b)] w (ReV P w0 w be bw tx inp bl lv (arithV op a b l s)) := by
 have HC := hid (fun X => xcalc_any op hop a b a1 a2 b1 b2 X)
 have HG := hid h
 obtain ⟨K, e, hK, hR⟩ : ∃ (K e : Int), calcV op a b = .tuple #[.agg #[.int .i32 K, .int .i64 0], .int .i64 e] ∧ ((∃ m, m = K ∧ e = 0 ∧ arithV op a b l s = .ok (.i m) l s) ∨ (K = 0 ∧ e = faultN 7 ∧ arithV op a b l s = .bad 7 s.out)) := by
  unfold calcV arithV
  by_cases h47 : op = 47
  ·by_cases hb : b = 0
   ·subst h47 hb; exact ⟨0, 3, rfl, Or.inr ⟨rfl, rfl, rfl⟩⟩
   ·simp only [h47, hb, and_false, if_true, if_false]; exact ⟨_, 0, rfl, Or.inl ⟨_, rfl, rfl, rfl⟩⟩
  ·simp only [h47, false_and, if_false]; exact ⟨_, 0, rfl, Or.inl ⟨_, rfl, rfl, rfl⟩⟩
 rw [hK] at HC
 obtain ⟨R, hRR⟩ : ∃ R, arithV op a b l s = R := ⟨_, rfl⟩
 rw [hRR] at hR ⊢
 have HR := hid hR
 clear h hK hR hRR
 rcases hop with rfl | rfl | rfl | rfl | rfl | rfl
 all_goals
  unfold xAgg
  go_enter Tryz.func197, Tryz.ntmps197
  go_wp2_with fail
  refine (HC.out _).mono ?_
  rintro en w1 ⟨rfl, hB0⟩
  have HF := hid (fun a b => HG.out.fin0 nbDo hB0 (r := w.heap.size + 1 + 1 + 1) (by omega) ⟨0, 0, heap_alloc_at (by simp) _⟩ a b)
  have hr1 := (HF.out 0 0).1
  obtain ⟨K9, N9, r0, r1, f0, f1, hrl⟩ := hr1.parts
  simp only [xAgg]
  clear HC hB0
  go_wp2_with fail
  rcases HR.out with ⟨m, rfl, rfl, rfl⟩ | ⟨rfl, rfl, rfl⟩
  ·exact retX Tryz.results197 rfl rfl rfl (hr1.put _ _) ⟨(HF.out _ _).2.1, _, _, _, _, rfl, (HF.out _ _).2.2⟩
  ·exact retX Tryz.results197 rfl rfl rfl (hr1.put _ _) ⟨(HF.out _ _).2.1, _, _, _, _, rfl, s, l, rfl, (HF.out _ _).2.2⟩
end
end Go.Proofs.YtpfkkmacakjmbaaGreatDoor
