import Derived.Test.YtpfkkmacakjmbaaGreatDoorP22
import Derived.Test.YtpfkkmacakjmbaaGreatDoorP07
set_option maxRecDepth 100000
set_option maxHeartbeats 6400000
namespace Go.Proofs.YtpfkkmacakjmbaaGreatDoor
open Go Go.RowKit Sp
set_option linter.unusedSimpArgs false
set_option linter.unusedVariables false
attribute [local go_sem ↓] Go.wp_at_zero Go.wp_at_succ
def intC (l : List Nat) : List Value := l.map fun (k : Nat) => Value.int .i64 (k : Int)
def opsI (its : List XIt) : List Ins := its.map fun x => ⟨x.op, 0, 0, 0⟩
def ptsL (t : List Ins) : Nat → Nat → List Nat
 | 0, _ => []
 | n + 1, k => if k < t.length then k :: ptsL t n (endN t k) else []
def ptsN (t : List Ins) (k : Nat) : List Nat := match t[k]? with
 | some x => ptsL t (arity x.op) (k + 1)
 | none => []
theorem endN_cons {t : List Ins} {k : Nat} {x : Ins} (h : t[k]? = some x) : endN t k = k + 1 + sk (arity x.op) (t.drop (k + 1)) := by
 obtain ⟨hl, hg⟩ := List.getElem?_eq_some_iff.1 h
 unfold endN
 rw [List.drop_eq_getElem_cons hl, hg]
 simp [sk]
 omega
theorem sk_step {t : List Ins} {m p : Nat} : p + sk (m + 1) (t.drop p) = endN t p + sk m (t.drop (endN t p)) := by
 rw [Nat.add_comm m 1, sk_add, List.drop_drop]
 unfold endN
 omega
theorem sk_nil {m : Nat} : sk m [] = 0 := by cases m <;> rfl
theorem endN_le {t : List Ins} {k : Nat} (h : k ≤ t.length) : endN t k ≤ t.length := by
 unfold endN
 have := sk_le (t := t.drop k) (m := 1)
 rw [List.length_drop] at this
 omega
theorem endN_gt {t : List Ins} {k : Nat} (h : k < t.length) : k < endN t k := by
 rw [endN_cons (List.getElem?_eq_getElem h)]
 omega
theorem info_int : (Tryz.prog.info? 3).map (fun i => (i.zero, i.size, i.bytes)) = some (some (.int .i64 0), 1, 8) := by kernel_rfl
theorem made_int (n : Nat) : madeCells #[.int .i64 0] n = (intC (List.replicate n 0)).toArray := by
 apply Array.ext
 ·rw [size_madeCells]; simp [intC]
 ·intro k h1 h2
  have e : k % 1 = 0 := by omega
  simp [madeCells, e, intC]
theorem make_int (n : Nat) (hn : n ≤ 1000) (w : World) : (Instr.makeSlice 217 (.int .i64 (n : Int)) (.int .i64 (n : Int))).run Tryz.prog w = .ok (.slice (some ⟨w.heap.size, 0, none⟩) n n) (w.alloc (.cells (intC (List.replicate n 0)).toArray 3)) := by
 have hinf := info_int
 cases hi : Tryz.prog.info? 3 with
 | none => rw [hi] at hinf; cases hinf
 | some i =>
  rw [hi] at hinf
  simp only [Option.map_some, Option.some.injEq, Prod.mk.injEq] at hinf
  obtain ⟨hz, hs, hb⟩ := hinf
  have := run_make (P := Tryz.prog) w 217 3 i _ (by kernel_rfl) hi hz .i64 .i64 n n (by omega) (by omega) (by rw [hb]; omega) (by omega)
  rw [this, hs]
  simp only [Int.toNat_natCast, Value.cells, Nat.mul_one]
  rw [made_int]
structure WpI (w : World) (base : Nat) (its its' : List XIt) (bh : List Nat) (q : Nat) : Prop where
 len : its'.length = its.length
 blen : bh.length = its.length
 lo : ∀ k, k < q → its'[k]? = its[k]?
 hi : ∀ k, q ≤ k → k < its.length → bh[k]? = some (endN (opsI its) k)
 pt : ∀ k x x', q ≤ k → its[k]? = some x → its'[k]? = some x' → x'.place = x.place ∧ x'.op = x.op ∧ x'.cls = x.cls ∧ x'.num = x.num ∧ w.ownsRow base 3 1 (.slice x'.pa x'.pn x'.pc) (ptsN (opsI its) k).length (intC (ptsN (opsI its) k))
theorem itCells_set4 : ∀ {l : List XIt} {p : Nat} {x : XIt} (h : l[p]? = some x) (a : Option Addr) (n c : Nat), (itCells l).set (p * 5 + 4) (.slice a n c) = itCells (l.set p { x with pa := a, pn := n, pc := c }) := by
 intro l
 induction l with
 | nil => intro p x h; simp at h
 | cons y l ih =>
  intro p x h a n c
  cases p with
  | zero =>
   simp at h
   subst h
   simp [itCells]
  | succ p =>
   have h1 := ih (p := p) (x := x) (by simpa using h) a n c
   rw [show (p + 1) * 5 + 4 = (p * 5 + 4) + 5 from by omega]
   simp only [itCells, List.flatMap_cons, List.cons_append, List.nil_append, List.set_cons_succ] at h1 ⊢
   rw [h1]
theorem intC_at {l : List Nat} {k v : Nat} (h : l[k]? = some v) : (intC l)[k]? = some (.int .i64 v) := by simp [intC, h]
theorem intC_snoc (l : List Nat) (k : Nat) : intC (l ++ [k]) = intC l ++ [.int .i64 k] := by simp [intC]
theorem intC_set (l : List Nat) (p k : Nat) : (intC l).set p (.int .i64 k) = intC (l.set p k) := by simp [intC, List.map_set]
theorem opsI_len (its : List XIt) : (opsI its).length = its.length := by simp [opsI]
theorem opsI_at {its : List XIt} {k : Nat} {x : XIt} (h : its[k]? = some x) : (opsI its)[k]? = some ⟨x.op, 0, 0, 0⟩ := by simp [opsI, h]
structure PtI (t : List Ins) (p ar : Nat) (l : List Nat) (k : Nat) : Prop where
 pts : l ++ ptsL t (ar - l.length) k = ptsN t p
 fin : k + sk (ar - l.length) (t.drop k) = endN t p
 gt : p < k
 le : k ≤ t.length
theorem PtI.next {t : List Ins} {p ar : Nat} {l : List Nat} {k : Nat} (h : PtI t p ar l k) (hl : l.length < ar) (hk : k < t.length) : PtI t p ar (l ++ [k]) (endN t k) := by
 obtain ⟨d, hd⟩ : ∃ d, ar - l.length = d + 1 := ⟨ar - l.length - 1, by omega⟩
 have hd' : ar - (l ++ [k]).length = d := by simp; omega
 refine ⟨?_, ?_, ?_, endN_le (by omega)⟩
 ·rw [hd', ← h.pts, hd]
  simp [ptsL, hk]
 ·rw [hd', ← h.fin, hd, sk_step]
 ·have := h.gt
  have := endN_gt hk
  omega
theorem PtI.done {t : List Ins} {p ar : Nat} {l : List Nat} {k : Nat} (h : PtI t p ar l k) (hl : ¬ l.length < ar ∨ ¬ k < t.length) : l = ptsN t p ∧ k = endN t p := by
 rcases hl with hl | hl
 ·have h0 : ar - l.length = 0 := by omega
  have h1 := h.pts
  have h2 := h.fin
  rw [h0] at h1 h2
  simp [ptsL, sk_zero] at h1 h2
  exact ⟨h1, h2⟩
 ·have h1 := h.pts
  have h2 := h.fin
  rw [List.drop_eq_nil_of_le (by omega), sk_nil] at h2
  cases hd : ar - l.length with
  | zero => rw [hd] at h1; simp [ptsL] at h1; exact ⟨h1, by omega⟩
  | succ d => rw [hd] at h1; simp [ptsL, hl] at h1; exact ⟨h1, by omega⟩
theorem withParts_any (bx : Nat) (its : List XIt) (ai : Option Addr) (capi : Nat) (w : World) (hn : its.length ≤ 24) (hi : ItB w bx (.slice ai its.length capi) its) :
  Calls Tryz.prog 202 #[.slice ai its.length capi] w fun en w' => But (fun _ => False) w w' ∧ ∃ ao cap its' bh, en = .returned (.slice ao its'.length cap) ∧ ItB w' w.heap.size (.slice ao its'.length cap) its' ∧ WpI w' w.heap.size its its' bh 0 := by
 have hE := ItB.empty w
 have hmk := make_int its.length (by omega)
 go_enter Tryz.func202, Tryz.ntmps202
 go_wp2_with (at_builtin; refine wpList_copy_its rfl _ _ rfl w.heap.size bx _ _ its rfl rfl hE (owns_but hi (But.alloc (fun _ => False) _ _) (fun _ _ h => h)) (by omega) (by simp) ?_)
 intro ao cap w2 hI2 hB2
 have hB12 : But (fun _ => False) w w2 := (But.alloc (fun _ => False) _ _).next hB2 (fun k hk h => by simp [Value.ownBlock] at h; omega)
 clear hE hB2
 go_wp2_with fail
 have hW3 : (w2.alloc (.cells (intC (List.replicate its.length 0)).toArray 3)).ownsRow w2.heap.size 3 1 (.slice (some ⟨w2.heap.size, 0, none⟩) its.length its.length) its.length (intC (List.replicate its.length 0)) :=
  ⟨by simp [intC], Or.inr ⟨w2.heap.size, its.length, _, rfl, Nat.le_refl _, heap_alloc_new _ _, by simp [intC], by unfold maxLen; omega, by simp [intC], by simp [intC]⟩⟩
 have hB3 : But (fun _ => False) w (w2.alloc (.cells (intC (List.replicate its.length 0)).toArray 3)) := hB12.trans (But.alloc _ _ _)
 have hI3 : ItB (w2.alloc (.cells (intC (List.replicate its.length 0)).toArray 3)) w.heap.size (.slice ao its.length cap) its := owns_but hI2 (But.alloc (fun _ => False) _ _) (fun _ _ h => h)
 have hz3 : (w2.alloc (.cells (intC (List.replicate its.length 0)).toArray 3)).heap.size = w2.heap.size + 1 := by simp
 generalize (w2.alloc (.cells (intC (List.replicate its.length 0)).toArray 3)) = w3 at *
 have hz12 := hB12.size
 go_loopg [5] its.length (fun mm js wr => ∃ (v : Int) (q : Nat) (its' : List XIt) (bh : List Nat), js = .int .i64 v ∧ v = (q : Int) - 1 ∧ q ≤ its.length ∧ q ≤ mm ∧ mm ≤ q ∧ wr.ownsRow w.heap.size 219 5 (.slice ao its.length cap) its.length (itCells its') ∧ wr.ownsRow w2.heap.size 3 1 (.slice (some ⟨w2.heap.size, 0, none⟩) its.length its.length) its.length (intC bh) ∧ But (fun _ => False) w wr ∧ w2.heap.size < wr.heap.size ∧ Hid (WpI wr (w2.heap.size + 1) its its' bh q))
 case atStart => exact ⟨_, its.length, its, _, rfl, rfl, by omega, by omega, by omega, hI3, hW3, hB3, by omega, ⟨rfl, by simp, fun _ _ => rfl, fun k h1 h2 => absurd h1 (by omega), fun k x x' h1 h2 h3 => absurd (List.getElem?_eq_some_iff.1 h2).1 (by omega)⟩⟩
 case round =>
  obtain ⟨v, q, its', bh, rfl, hv, hq1, hq2, hq3, hIr, hWr, hBr, hzr, HI⟩ := hrel
  cases q with
  | zero =>
   have hneg : ¬ (0 : Int) ≤ v := by omega
   have HIL := hid HI.out.len
   go_wp2_with fail
   have hfin : WpI wr w.heap.size its its' bh 0 := by
    have h := HI.out
    exact ⟨h.len, h.blen, h.lo, h.hi, fun k x x' h1 h2 h3 => by
     obtain ⟨e1, e2, e3, e4, e5⟩ := h.pt k x x' h1 h2 h3
     exact ⟨e1, e2, e3, e4, World.ownsRow.mono e5 (by omega)⟩⟩
   have hfi : ItB wr w.heap.size (.slice ao its'.length cap) its' := by
    unfold ItB
    rw [HIL.out]
    exact hIr
   exact bodyPost_ret (v := .slice ao its.length cap) (by simp [results, Tryz.results202, go_sem]) rfl ⟨hBr, ao, cap, its', by rw [HIL.out], hfi, bh, hfin⟩
  | succ p =>
   obtain ⟨wo, hwo⟩ : ∃ wo, wo = wr := ⟨_, rfl⟩
   subst hwo
   have hvp : v = (p : Int) := by omega
   subst hvp
   clear hv
   obtain ⟨X, hX⟩ : ∃ X, its[p]? = some X := ⟨_, List.getElem?_eq_getElem (by omega)⟩
   have hX' : its'[p]? = some X := by rw [HI.out.lo p (by omega)]; exact hX
   have HX := hid hX
   have HX' := hid hX'
   obtain ⟨gw, rfl, hgw1, hgw2, hcw⟩ := owns_two hIr (by omega)
   have q1 : wo.cell? ⟨gw, p * 5 + 1, none⟩ = some (.int .u8 X.op.toNat) := hcw _ _ (itCells_at (k := 1) hX' (by omega))
   obtain ⟨ar, har⟩ : ∃ ar, arity X.op = ar := ⟨_, rfl⟩
   have har3 : ar ≤ 3 := by rw [← har]; unfold arity; split; omega; split; omega; split <;> omega
   have hPI : PtI (opsI its) p ar [] (p + 1) := by
    have h1 := opsI_at hX
    refine ⟨?_, ?_, by omega, by rw [opsI_len]; omega⟩
    ·simp only [ptsN, h1, List.nil_append, List.length_nil, Nat.sub_zero, har]
    ·rw [endN_cons h1]
     simp only [List.length_nil, Nat.sub_zero, har]
   have HPI := hid hPI
   have hCP := fun W => countParts_any X.op W
   rw [har] at hCP
   have HCP := hid hCP
   have hE0 : (wo.alloc (.cells #[] 3)).ownsRow wo.heap.size 3 1 (.slice (some ⟨wo.heap.size, 0, none⟩) 0 0) ([] : List Nat).length (intC []) := ⟨rfl, Or.inr ⟨wo.heap.size, 0, #[], rfl, Nat.le_refl _, heap_alloc_new wo _, by simp, by unfold maxLen; omega, rfl, rfl⟩⟩
   have hpn : (p : Int) < (its.length : Int) := by omega
   have hp0 : (0 : Int) ≤ (p : Int) := by omega
   clear hX hX' hPI hCP har hcw
   go_wp2_with fail
   go_loopg [6, 7] ar (fun mm ps pv wq => ∃ (al : Option Addr) (cl : Nat) (l : List Nat) (k : Nat), ps = .slice al l.length cl ∧ pv = .int .i64 k ∧ k ≤ its.length ∧ l.length ≤ ar ∧ l.length + mm ≤ ar ∧ ar ≤ l.length + mm ∧ wq.ownsRow wo.heap.size 3 1 (.slice al l.length cl) l.length (intC l) ∧ But (fun _ => False) wo wq ∧ wo.heap.size ≤ wq.heap.size ∧ Hid (PtI (opsI its) p ar l k))
   case atStart => exact ⟨_, 0, [], p + 1, rfl, by simp, by omega, by simp, by simp, by simp, hE0, But.alloc _ _ _, by simp, HPI⟩
   case round =>
    obtain ⟨al, cl, l, k, rfl, rfl, hk, hl1, hl2, hl3, hOq, hBq, hzq, HP⟩ := hrel
    have q1q := (hBq.cell (p := ⟨gw, p * 5 + 1, none⟩) hgw1 (fun h => h)).trans q1
    rcases (by omega : (l.length < ar ∧ k < its.length) ∨ (¬ l.length < ar) ∨ (l.length < ar ∧ ¬ k < its.length)) with ⟨hl, hkn⟩ | hl | ⟨hl, hkn⟩
    ·have hlI : (l.length : Int) < (ar : Int) := by omega
     have hknI : (k : Int) < (its.length : Int) := by omega
     have hpk := HP.out.gt
     have hbk := HI.out.hi k (by omega) hkn
     have hWq := owns_but hWr hBq (fun _ _ h => h)
     obtain ⟨gb', hgb', hb1, hb2, hcb⟩ := owns_two hWq (by omega)
     have hgbe : w2.heap.size = gb' := by injection hgb' with h; injection h with h
     subst hgbe
     have HNX := hid (HP.out.next hl (by rw [opsI_len]; exact hkn))
     have hen : endN (opsI its) k ≤ its.length := by have := endN_le (t := opsI its) (k := k) (by rw [opsI_len]; omega); rw [opsI_len] at this; exact this
     obtain ⟨e, he⟩ : ∃ e, endN (opsI its) k = e := ⟨_, rfl⟩
     rw [he] at hbk HNX hen
     have c1 := hcb _ _ (intC_at hbk)
     clear hcb he hbk hgb'
     go_wp2_with fail
     refine (HCP.out wr).mono ?_
     rintro en wx ⟨rfl, hwx⟩
     rw [hwx]
     clear hwx wx
     obtain ⟨i0, hi0, hz0, hz1, hz2⟩ := info_parts info_int
     go_wp2_with (at_builtin; refine wpList_append_lies _ rfl _ _ _ rfl wo.heap.size 3 i0 _ 1 8 (by kernel_rfl) hi0 hz0 hz1 hz2 rfl (by omega) _ l.length (intC l) rfl (hOq.alloc _) ⟨wr.heap.size, 0, none⟩ 1 1 [.int .i64 k] rfl rfl (World.news_of_block (cs := #[.int .i64 k]) (t := 3) (fr := (0, 0)) (heap_alloc_new wr _)) (by simp [Value.oneCell']) (by omega) (by unfold maxLen; omega) (by omega) (by simp; omega) (wr.heap.size + 1) (by simp) ?_)
     intro gg cap3 w5 hown2 hgrow hat hlt2
     have hSW : But (fun k' => (Value.slice al l.length cl).ownBlock = some k') wr w5 := (But.alloc _ _ _).trans (but_grown hgrow)
     have hBw5 : But (fun _ => False) wo w5 := hBq.next hSW (fun k' hk' h => absurd (owns_ge hOq k' h) (by omega))
     have c5 := (hBw5.cell (p := ⟨w2.heap.size, k, none⟩) (by omega) (fun h => h)).trans ((hBq.cell (p := ⟨w2.heap.size, k, none⟩) (by omega) (fun h => h)).symm.trans c1)
     have hz5 := hBw5.size
     clear c1
     go_wp2_with fail
     go_roundg (ar - (l.length + 1))
     case measure => omega
     case rel => exact ⟨some ⟨gg, 0, none⟩, cap3, l ++ [k], e, by simp, rfl, hen, by simp; omega, by simp; omega, by simp; omega, by rw [List.length_append, intC_snoc]; exact hown2, hBw5, hz5, HNX⟩
    ·have hlI : ¬ (l.length : Int) < (ar : Int) := by omega
     have hD := HP.out.done (Or.inl hl)
     have HD := hid hD
     have hIq : wr.ownsRow w.heap.size 219 5 (.slice (some ⟨gw, 0, none⟩) its.length cap) its.length (itCells its') := owns_but hIr hBq (fun _ _ h => h)
     have hWq := owns_but hWr hBq (fun _ _ h => h)
     have hgwl : gw < w2.heap.size := owns_lt hI2 gw rfl
     obtain ⟨gq, hgq, hq1, hq2, hcq⟩ := owns_two hIq (by omega)
     have hgqe : gw = gq := by injection hgq with h; injection h with h
     subst hgqe
     obtain ⟨gb', hgb', hb1, hb2, hcb⟩ := owns_two hWq (by omega)
     have hgbe : w2.heap.size = gb' := by injection hgb' with h; injection h with h
     subst hgbe
     have c4 : wr.cell? ⟨gw, p * 5 + 4, none⟩ = some (.slice X.pa X.pn X.pc) := hcq _ _ (itCells_at (k := 4) HX'.out (by omega))
     have f4 := owns_fz hIq (p * 5 + 4)
     obtain ⟨ob, hob⟩ : ∃ ob, bh[p]? = some ob := ⟨_, List.getElem?_eq_getElem (by rw [HI.out.blen]; omega)⟩
     have cb := hcb _ _ (intC_at hob)
     have fb := owns_fz hWq p
     have hI1 := owns_set hIq (p * 5 + 4) (.slice al l.length cl)
     rw [itCells_set4 HX'.out] at hI1
     have hI9 := owns_but hI1 (But.setB _ w2.heap.size p (.int .i64 k)) (fun g hg h => by simp [Value.ownBlock] at hg; omega)
     have hW1 := owns_but hWq (But.setB wr gw (p * 5 + 4) (.slice al l.length cl)) (fun g hg h => by simp [Value.ownBlock] at hg; omega)
     have hW9 := owns_set hW1 p (.int .i64 k)
     rw [intC_set] at hW9
     have hBs : But (fun j => j = gw ∨ j = w2.heap.size) wr ((wr.setCell ⟨gw, p * 5 + 4, none⟩ (.slice al l.length cl)).setCell ⟨w2.heap.size, p, none⟩ (.int .i64 k)) := ((But.setB _ _ _ _).mono (fun _ _ h => Or.inl h)).trans ((But.setB _ _ _ _).mono (fun _ _ h => Or.inr h))
     have hBn : But (fun _ => False) w ((wr.setCell ⟨gw, p * 5 + 4, none⟩ (.slice al l.length cl)).setCell ⟨w2.heap.size, p, none⟩ (.int .i64 k)) := (hBr.trans hBq).next hBs (fun j hj h => by omega)
     have hzs := hBs.size
     have HW9 : Hid (WpI ((wr.setCell ⟨gw, p * 5 + 4, none⟩ (.slice al l.length cl)).setCell ⟨w2.heap.size, p, none⟩ (.int .i64 k)) (w2.heap.size + 1) its (its'.set p { X with pa := al, pn := l.length, pc := cl }) (bh.set p k) p) := by
      have h := HI.out
      have hpl : p < its'.length := by rw [h.len]; omega
      refine ⟨by rw [List.length_set]; exact h.len, by rw [List.length_set]; exact h.blen, fun j hj => ?_, fun j hj1 hj2 => ?_, fun j x x' hj1 hj2 hj3 => ?_⟩
      ·rw [List.getElem?_set_ne (by omega)]
       exact h.lo j (by omega)
      ·by_cases hjp : p = j
       ·subst hjp
        rw [List.getElem?_set_self (by rw [h.blen]; omega), HD.out.2]
       ·rw [List.getElem?_set_ne hjp]
        exact h.hi j (by omega) hj2
      ·by_cases hjp : p = j
       ·subst hjp
        rw [HX.out] at hj2
        rw [List.getElem?_set_self hpl] at hj3
        cases hj2
        cases hj3
        refine ⟨rfl, rfl, rfl, rfl, ?_⟩
        have h1 := World.ownsRow.mono (owns_but hOq hBs (fun g hg h => by have := owns_ge hOq g hg; omega)) (show w2.heap.size + 1 ≤ wo.heap.size from by omega)
        rw [HD.out.1] at h1
        rw [← HD.out.1] at h1 ⊢
        exact h1
       ·rw [List.getElem?_set_ne hjp] at hj3
        obtain ⟨e1, e2, e3, e4, e5⟩ := h.pt j x x' (by omega) hj2 hj3
        have e6 := owns_but e5 hBq (fun _ _ h => h)
        exact ⟨e1, e2, e3, e4, owns_but e6 hBs (fun g hg h => by have := owns_ge e6 g hg; omega)⟩
     clear hcq hcb hgq hgb' hI1 hW1 hob hD
     go_wp2_with fail
     refine (HCP.out wr).mono ?_
     rintro en wx ⟨rfl, hwx⟩
     rw [hwx]
     clear hwx wx
     go_wp2_with fail
     go_roundg p
     case measure => omega
     case rel => exact ⟨_, p, _, _, rfl, rfl, by omega, by omega, by omega, hI9, hW9, hBn, by omega, HW9⟩
    ·have hlI : (l.length : Int) < (ar : Int) := by omega
     have hknI : ¬ (k : Int) < (its.length : Int) := by omega
     have hD := HP.out.done (Or.inr (by rw [opsI_len]; exact hkn))
     have HD := hid hD
     have hIq : wr.ownsRow w.heap.size 219 5 (.slice (some ⟨gw, 0, none⟩) its.length cap) its.length (itCells its') := owns_but hIr hBq (fun _ _ h => h)
     have hWq := owns_but hWr hBq (fun _ _ h => h)
     have hgwl : gw < w2.heap.size := owns_lt hI2 gw rfl
     obtain ⟨gq, hgq, hq1, hq2, hcq⟩ := owns_two hIq (by omega)
     have hgqe : gw = gq := by injection hgq with h; injection h with h
     subst hgqe
     obtain ⟨gb', hgb', hb1, hb2, hcb⟩ := owns_two hWq (by omega)
     have hgbe : w2.heap.size = gb' := by injection hgb' with h; injection h with h
     subst hgbe
     have c4 : wr.cell? ⟨gw, p * 5 + 4, none⟩ = some (.slice X.pa X.pn X.pc) := hcq _ _ (itCells_at (k := 4) HX'.out (by omega))
     have f4 := owns_fz hIq (p * 5 + 4)
     obtain ⟨ob, hob⟩ : ∃ ob, bh[p]? = some ob := ⟨_, List.getElem?_eq_getElem (by rw [HI.out.blen]; omega)⟩
     have cb := hcb _ _ (intC_at hob)
     have fb := owns_fz hWq p
     have hI1 := owns_set hIq (p * 5 + 4) (.slice al l.length cl)
     rw [itCells_set4 HX'.out] at hI1
     have hI9 := owns_but hI1 (But.setB _ w2.heap.size p (.int .i64 k)) (fun g hg h => by simp [Value.ownBlock] at hg; omega)
     have hW1 := owns_but hWq (But.setB wr gw (p * 5 + 4) (.slice al l.length cl)) (fun g hg h => by simp [Value.ownBlock] at hg; omega)
     have hW9 := owns_set hW1 p (.int .i64 k)
     rw [intC_set] at hW9
     have hBs : But (fun j => j = gw ∨ j = w2.heap.size) wr ((wr.setCell ⟨gw, p * 5 + 4, none⟩ (.slice al l.length cl)).setCell ⟨w2.heap.size, p, none⟩ (.int .i64 k)) := ((But.setB _ _ _ _).mono (fun _ _ h => Or.inl h)).trans ((But.setB _ _ _ _).mono (fun _ _ h => Or.inr h))
     have hBn : But (fun _ => False) w ((wr.setCell ⟨gw, p * 5 + 4, none⟩ (.slice al l.length cl)).setCell ⟨w2.heap.size, p, none⟩ (.int .i64 k)) := (hBr.trans hBq).next hBs (fun j hj h => by omega)
     have hzs := hBs.size
     have HW9 : Hid (WpI ((wr.setCell ⟨gw, p * 5 + 4, none⟩ (.slice al l.length cl)).setCell ⟨w2.heap.size, p, none⟩ (.int .i64 k)) (w2.heap.size + 1) its (its'.set p { X with pa := al, pn := l.length, pc := cl }) (bh.set p k) p) := by
      have h := HI.out
      have hpl : p < its'.length := by rw [h.len]; omega
      refine ⟨by rw [List.length_set]; exact h.len, by rw [List.length_set]; exact h.blen, fun j hj => ?_, fun j hj1 hj2 => ?_, fun j x x' hj1 hj2 hj3 => ?_⟩
      ·rw [List.getElem?_set_ne (by omega)]
       exact h.lo j (by omega)
      ·by_cases hjp : p = j
       ·subst hjp
        rw [List.getElem?_set_self (by rw [h.blen]; omega), HD.out.2]
       ·rw [List.getElem?_set_ne hjp]
        exact h.hi j (by omega) hj2
      ·by_cases hjp : p = j
       ·subst hjp
        rw [HX.out] at hj2
        rw [List.getElem?_set_self hpl] at hj3
        cases hj2
        cases hj3
        refine ⟨rfl, rfl, rfl, rfl, ?_⟩
        have h1 := World.ownsRow.mono (owns_but hOq hBs (fun g hg h => by have := owns_ge hOq g hg; omega)) (show w2.heap.size + 1 ≤ wo.heap.size from by omega)
        rw [HD.out.1] at h1
        rw [← HD.out.1] at h1 ⊢
        exact h1
       ·rw [List.getElem?_set_ne hjp] at hj3
        obtain ⟨e1, e2, e3, e4, e5⟩ := h.pt j x x' (by omega) hj2 hj3
        have e6 := owns_but e5 hBq (fun _ _ h => h)
        exact ⟨e1, e2, e3, e4, owns_but e6 hBs (fun g hg h => by have := owns_ge e6 g hg; omega)⟩
     clear hcq hcb hgq hgb' hI1 hW1 hob hD
     go_wp2_with fail
     refine (HCP.out wr).mono ?_
     rintro en wx ⟨rfl, hwx⟩
     rw [hwx]
     clear hwx wx
     go_wp2_with fail
     go_roundg p
     case measure => omega
     case rel => exact ⟨_, p, _, _, rfl, rfl, by omega, by omega, by omega, hI9, hW9, hBn, by omega, HW9⟩
theorem arity_N (y : Ins) : arity (toXN y).op = arity y.op := by
 unfold toXN
 split
 ·rename_i h
  simp only [isDigit, Bool.and_eq_true, decide_eq_true_eq] at h
  show arity 107 = arity y.op
  unfold arity
  rw [if_neg (show ¬ y.op.toNat = 105 from by omega), if_neg (show ¬ [43, 45, 42, 47, 60, 61, 101, 112, 99, 44, 111].contains y.op.toNat = true from by simp; omega), if_neg (show ¬ [115, 103, 120, 119].contains y.op.toNat = true from by simp; omega)]
  rfl
 ·rfl
theorem sk_same : ∀ {t u : List Ins} {m : Nat}, t.map (fun x => arity x.op) = u.map (fun x => arity x.op) → sk m t = sk m u := by
 intro t
 induction t with
 | nil => intro u m h; cases u with | nil => rfl | cons y u => simp at h
 | cons x t ih =>
  intro u m h
  cases u with
  | nil => simp at h
  | cons y u =>
   simp at h
   cases m with
   | zero => rfl
   | succ m => simp only [sk, h.1]; rw [ih h.2]
theorem ops_same (is : List Ins) : (opsI (is.map toXN)).map (fun x => arity x.op) = is.map (fun x => arity x.op) := by
 simp only [opsI, List.map_map]
 apply List.map_congr_left
 intro y _
 exact arity_N y
theorem endN_same {t u : List Ins} (h : t.map (fun x => arity x.op) = u.map (fun x => arity x.op)) (k : Nat) : endN t k = endN u k := by
 unfold endN
 rw [sk_same (u := u.drop k) (by simp only [List.map_drop, h])]
theorem ptsL_same {t u : List Ins} (h : t.map (fun x => arity x.op) = u.map (fun x => arity x.op)) : ∀ {n k : Nat}, ptsL t n k = ptsL u n k := by
 have hl : t.length = u.length := by have := congrArg List.length h; simpa using this
 intro n
 induction n with
 | zero => intro k; rfl
 | succ n ih => intro k; simp only [ptsL, hl, endN_same h, ih]
theorem ptsN_same {t u : List Ins} (h : t.map (fun x => arity x.op) = u.map (fun x => arity x.op)) (k : Nat) : ptsN t k = ptsN u k := by
 have h1 : (t.map (fun x => arity x.op))[k]? = (u.map (fun x => arity x.op))[k]? := by rw [h]
 rw [List.getElem?_map, List.getElem?_map] at h1
 unfold ptsN
 cases ht : t[k]? with
 | none => rw [ht] at h1; cases hu : u[k]? with
  | none => rfl
  | some y => rw [hu] at h1; cases h1
 | some x => rw [ht] at h1; cases hu : u[k]? with
  | none => rw [hu] at h1; cases h1
  | some y =>
   rw [hu] at h1
   simp at h1
   simp only [h1]
   exact ptsL_same h
structure ItsN (w : World) (base : Nat) (its : List XIt) (is : List Ins) : Prop where
 len : its.length = is.length
 at' : ∀ k y x, is[k]? = some y → its[k]? = some x → x.place = (toXN y).place ∧ x.op = (toXN y).op ∧ x.cls = (toXN y).cls ∧ x.num = (toXN y).num ∧ w.ownsRow base 3 1 (.slice x.pa x.pn x.pc) (ptsN is k).length (intC (ptsN is k))
theorem ItsN.mono {w : World} {base base' : Nat} {its : List XIt} {is : List Ins} (h : ItsN w base its is) (hb : base' ≤ base) : ItsN w base' its is :=
 ⟨h.len, fun k y x hy hx => by
  obtain ⟨e1, e2, e3, e4, e5⟩ := h.at' k y x hy hx
  exact ⟨e1, e2, e3, e4, World.ownsRow.mono e5 hb⟩⟩
theorem WpI.nodes {w : World} {base : Nat} {is : List Ins} {its' : List XIt} {bh : List Nat} (h : WpI w base (is.map toXN) its' bh 0) : ItsN w base its' is := by
 refine ⟨by rw [h.len]; simp, fun k y x hy hx => ?_⟩
 have h1 := h.pt k (toXN y) x (by omega) (by simp [hy]) hx
 rw [ptsN_same (ops_same is)] at h1
 exact h1
def nodesB (s : ByteArray) (cs : List Cls) (ns nl i : Nat) (bad : Bool) : Except Nat (List Ins × Nat) := if bad = true then .error i else nodesP s cs ns nl 24 [] 1 i
def NdC (s : ByteArray) (cs : List Cls) (ns nl : Nat) (R : Except Nat (List Ins × Nat)) (its : List XIt) (m j : Nat) (bad : Bool) : Prop :=
 (bad = false ∧ ∃ is, its = is.map toXN ∧ nodesP s cs ns nl (24 - is.length) is m j = R) ∨ (bad = true ∧ R = .error j)
section
variable {s : ByteArray} {cs : List Cls} {ns nl : Nat} {R : Except Nat (List Ins × Nat)}
theorem NdC.start {i : Nat} {bad : Bool} (hR : nodesB s cs ns nl i bad = R) : NdC s cs ns nl R [] 1 i bad := by
 unfold nodesB at hR
 cases bad with
 | true => exact Or.inr ⟨rfl, hR.symm⟩
 | false => exact Or.inl ⟨rfl, [], rfl, hR⟩
theorem NdC.next {its : List XIt} {m j : Nat} (h : NdC s cs ns nl R its (m + 1) j false) (hl : its.length < 24) {x : XIt} {j' : Nat} {bad' : Bool} (hx : NodR s cs ns nl j false x j' bad') : NdC s cs ns nl R (its ++ [x]) (m + arity x.op) j' bad' := by
 rcases h with ⟨_, is, rfl, h⟩ | ⟨h, _⟩
 ·obtain ⟨d, hd⟩ : ∃ d, 24 - is.length = d + 1 := ⟨24 - is.length - 1, by simp at hl; omega⟩
  rw [hd] at h
  simp only [nodesP] at h
  rcases hx with ⟨h1, y, h2, h3⟩ | ⟨h1, h2⟩
  ·simp only [nodB, Bool.false_eq_true, if_false] at h2
   rw [h2] at h
   refine Or.inl ⟨h1, is ++ [y], by simp [h3], ?_⟩
   rw [show 24 - (is ++ [y]).length = d from by simp; omega, h3, arity_N]
   exact h
  ·simp only [nodB, Bool.false_eq_true, if_false] at h2
   rw [h2] at h
   exact Or.inr ⟨h1, h.symm⟩
 ·cases h
theorem NdC.full {its : List XIt} {m j : Nat} {bad : Bool} (h : NdC s cs ns nl R its (m + 1) j bad) (hl : bad = true ∨ ¬ its.length < 24) : R = .error j := by
 rcases h with ⟨h1, is, rfl, h⟩ | ⟨_, h⟩
 ·rcases hl with hl | hl
  ·rw [h1] at hl; cases hl
  ·rw [show 24 - is.length = 0 from by simp at hl; omega] at h
   exact h.symm
 ·exact h
theorem NdC.fin {its : List XIt} {j : Nat} {bad : Bool} (h : NdC s cs ns nl R its 0 j bad) : (bad = false ∧ ∃ is, its = is.map toXN ∧ R = .ok (is, j)) ∨ (bad = true ∧ R = .error j) := by
 rcases h with ⟨h1, is, h2, h⟩ | h
 ·rw [nodesP_zero] at h
  exact Or.inl ⟨h1, is, h2, h.symm⟩
 ·exact Or.inr h
end
def NdsQ (s : ByteArray) (SC : List Cls) (a0 a1 : Option Addr) (ng nl cap0 cap1 : Nat) (v2 : RdV) (b sz : Nat) (R : Except Nat (List Ins × Nat)) (en : Ending) (w' : World) : Prop :=
 ∃ ao cap its j bad', en = .returned (.slice ao (List.length its) cap) ∧ XrB w' b s j bad' (.slice a0 SC.length cap0) (.slice a1 ng cap1) v2 ∧ ItB w' sz (.slice ao (List.length its) cap) its ∧ its.length ≤ 24 ∧
  ((bad' = false ∧ ∃ is, R = .ok (is, j) ∧ ItsN w' sz its is) ∨ (bad' = true ∧ R = .error j))
theorem xnodes_any (b base : Nat) (s : ByteArray) (i : Nat) (bad : Bool) (SC : List Cls) (a0 a1 al : Option Addr) (ng nl cap0 cap1 capl : Nat) (v2 : RdV) (w : World)
  (hG : bad = true ∨ (WfC SC ∧ TcV w base (.slice a0 SC.length cap0) (SC.map toX))) (hnc : SC.length ≤ 4) (hng : ng ≤ 3) (hnl : nl ≤ 10) (hs : s.size ≤ 2000)
  (hR : XrB w b s i bad (.slice a0 SC.length cap0) (.slice a1 ng cap1) v2) (hv : v2.hl = .slice al nl capl) (hb : b < base) :
  Calls Tryz.prog 146 #[.pointer (some ⟨b, 0, none⟩)] w fun en w' => But (· = b) w w' ∧ NdsQ s SC a0 a1 ng nl cap0 cap1 v2 b w.heap.size (nodesB s SC ng nl i bad) en w' := by
 obtain ⟨R, hRR⟩ : ∃ R, nodesB s SC ng nl i bad = R := ⟨_, rfl⟩
 rw [hRR]
 have HST := hid (NdC.start hRR)
 clear hRR
 obtain ⟨i0, hi0, hz0, hz1, hz2⟩ := info_parts info_xit
 have hbw := hR.lt
 have HG := hid hG
 have HND := hid (fun (w' : World) (i' : Nat) (bad' : Bool) (h : But (· = b) w w') (hg : bad' = true ∨ (WfC SC ∧ TcV w base (.slice a0 SC.length cap0) (SC.map toX))) (hr : XrB w' b s i' bad' (.slice a0 SC.length cap0) (.slice a1 ng cap1) v2) => xnode_all b base s i' SC a0 a1 al ng nl cap0 cap1 capl v2 w' bad' (hg.imp id (fun q => ⟨q.1, q.2.but h (fun g e cur _ _ hg he => by omega)⟩)) hnc hng hnl hs hr hv hb)
 clear hG
 have hI0 := ItB.empty w
 have hR0 := hR.but (But.alloc (fun _ => False) w (.cells #[] 219)) (fun h => h)
 have hB0 : But (· = b) w (w.alloc (.cells #[] 219)) := But.alloc _ _ _
 go_enter Tryz.func146, Tryz.ntmps146
 go_wp2_with fail
 go_loopg [3, 4] 24 (fun mm vs ms wr => ∃ (ao : Option Addr) (cap j : Nat) (bad' : Bool) (its : List XIt) (m : Nat), vs = .slice ao its.length cap ∧ ms = .int .i64 m ∧ m ≤ 100 ∧ its.length + mm ≤ 24 ∧ 24 ≤ its.length + mm ∧ m ≤ 1 + 3 * its.length ∧ But (· = b) w wr ∧ XrB wr b s j bad' (.slice a0 SC.length cap0) (.slice a1 ng cap1) v2 ∧ ItB wr w.heap.size (.slice ao its.length cap) its ∧ Hid (bad' = true ∨ (WfC SC ∧ TcV w base (.slice a0 SC.length cap0) (SC.map toX))) ∧ Hid (NdC s SC ng nl R its m j bad'))
 case atStart => exact ⟨_, 0, i, bad, [], 1, rfl, rfl, by omega, by simp, by simp, by simp, hB0, hR0, hI0, HG, HST⟩
 case round =>
  obtain ⟨ao, cap, j, bad', its, m, rfl, rfl, hm, hl1, hl2, hm3, hBr, hRr, hIt, HGr, HC⟩ := hrel
  have hszr := hBr.size
  have hbr := hRr.lt
  have h4 := hRr.c4
  have h3 := hRr.c3
  cases m with
  | zero =>
   have hz : ¬ (0 : Int) < 0 := by omega
   have HF := hid HC.out.fin
   clear HC
   go_wp2_with fail
   have hItx : ItB wr w.heap.size (.slice ao its.length cap) its := owns_but hIt (But.refl (fun k => k = b) wr) (fun g hg h => by have := owns_ge hIt g hg; omega)
   have hzx := ((But.refl (fun k => k = b) wr)).size
   refine (withParts_any w.heap.size its ao cap wr (by omega) hItx).mono ?_
   rintro en w8 ⟨hB8, ao8, cap8, its8, bh8, rfl, hI8, hW8⟩
   have HW8 := hid hW8
   have hBw8 : But (· = b) w w8 := (hBr.trans (But.refl (fun k => k = b) wr)).next hB8 (fun _ _ h => h.elim)
   have hR8 := (hRr).but hB8 (fun h => h)
   have hI8' : ItB w8 w.heap.size (.slice ao8 its8.length cap8) its8 := World.ownsRow.mono hI8 (by omega)
   have h24 : its8.length ≤ 24 := by have := hW8.len; omega
   have hsz : w.heap.size ≤ (wr).heap.size := by omega
   clear hW8 hI8
   go_wp2_with fail
   exact bodyPost_ret (v := .slice ao8 its8.length cap8) (by simp [results, Tryz.results146, go_sem]) rfl ⟨hBw8, ao8, cap8, its8, _, _, rfl, hR8, hI8', h24, by
     rcases HF.out with ⟨h1, is, h2, h3⟩ | h
     ·subst h2
      exact Or.inl ⟨h1, is, h3, HW8.out.nodes.mono hsz⟩
     ·exact Or.inr h⟩
  | succ m =>
   have hz : (0 : Int) < ((m + 1 : Nat) : Int) := by omega
   by_cases hlt : its.length < 24
   ·have hlI : (its.length : Int) < 24 := by omega
    cases bad' with
    | false =>
     have HNX := hid (fun x j' bad' => HC.out.next hlt (x := x) (j' := j') (bad' := bad'))
     clear HC
     go_wp2_with fail
     refine (HND.out wr j false hBr HGr.out hRr).mono ?_
     rintro en w4 ⟨hB4, y, j4, bad4, rfl, hR4, hI4⟩
     have HC' := hid (HNX.out y j4 bad4 hI4)
     have HG4 : Hid (bad4 = true ∨ (WfC SC ∧ TcV w base (.slice a0 SC.length cap0) (SC.map toX))) := by
      refine hid (Or.inr ?_)
      rcases HGr.out with h | h
      ·cases h
      ·exact h
     have hBw4 : But (· = b) w w4 := hBr.trans hB4
     have hIt4 : w4.ownsRow w.heap.size 219 5 (.slice ao its.length cap) its.length (itCells its) := owns_but hIt hB4 (fun g hg h => by have := owns_ge hIt g hg; omega)
     have hIge := owns_ge hIt4
     have hz4 := hBw4.size
     have hzr := hB4.size
     clear hI4 HNX h4 h3
     unfold itV
     go_wp2_with (at_builtin; refine wpList_append_lies _ rfl _ _ _ rfl w.heap.size 219 i0 _ 5 48 (by kernel_rfl) hi0 hz0 hz1 hz2 rfl (by omega) _ its.length (itCells its) rfl ((hIt4.alloc _).alloc _) ⟨w4.heap.size + 1, 0, none⟩ 1 1 [.int .i64 y.place, .int .u8 y.op.toNat, .int .u8 y.cls.toNat, .int .i64 y.num, .slice y.pa y.pn y.pc] rfl rfl (World.news_of_block (cs := #[.int .i64 y.place, .int .u8 y.op.toNat, .int .u8 y.cls.toNat, .int .i64 y.num, .slice y.pa y.pn y.pc]) (t := 219) (fr := (0, 0)) (heap_alloc_at (by simp) _)) (by simp [Value.oneCell']) (by omega) (by unfold maxLen; omega) (by omega) (by simp; omega) (w4.heap.size + 2) (by simp) ?_)
     intro gg cap3 w5 hown2 hgrow hat hlt2
     have hSW : But (fun k' => (Value.slice ao its.length cap).ownBlock = some k') w4 w5 := ((But.alloc _ _ _).trans (But.alloc _ _ _)).trans (but_grown hgrow)
     have hBw5 : But (· = b) w w5 := hBw4.next hSW (fun k' hk' h => absurd (hIge k' h) (by omega))
     have hR5 := hR4.but hSW (fun h => by have := hIge _ h; omega)
     have hIt5 : ItB w5 w.heap.size (.slice (some ⟨gg, 0, none⟩) (its ++ [y]).length cap3) (its ++ [y]) := by
      unfold ItB
      rw [List.length_append, itCells_snoc]
      exact hown2
     have hbox : w5.heap[w4.heap.size]? = some (.cells #[.int .i64 y.place, .int .u8 y.op.toNat, .int .u8 y.cls.toNat, .int .i64 y.num, .slice y.pa y.pn y.pc] 219) := by
      have h1 : ((w4.alloc (.cells #[.int .i64 y.place, .int .u8 y.op.toNat, .int .u8 y.cls.toNat, .int .i64 y.num, .slice y.pa y.pn y.pc] 219)).alloc (.cells #[.int .i64 y.place, .int .u8 y.op.toNat, .int .u8 y.cls.toNat, .int .i64 y.num, .slice y.pa y.pn y.pc] 219)).heap[w4.heap.size]? = some (.cells #[.int .i64 y.place, .int .u8 y.op.toNat, .int .u8 y.cls.toNat, .int .i64 y.num, .slice y.pa y.pn y.pc] 219) := by
       rw [Below.heap_alloc _ _ _ (by simp)]
       exact heap_alloc_new w4 _
      exact ((but_grown hgrow).block _ (lt_of_block h1) (fun h => by have := owns_lt hIt4 _ h; omega)).trans h1
     obtain ⟨x0, x1, x2, x3, x4⟩ := row5 hbox
     have har3 : arity y.op ≤ 3 := by unfold arity; split; omega; split; omega; split <;> omega
     have hCP := countParts_any y.op w5
     obtain ⟨ar, har⟩ : ∃ ar, arity y.op = ar := ⟨_, rfl⟩
     rw [har] at hCP har3 HC'
     have HCP := hid hCP
     clear hCP hgrow hat
     go_wp2_with fail
     refine HCP.out.mono ?_
     rintro en wx ⟨rfl, hwx⟩
     rw [hwx]
     clear hwx wx x0 x1 x2 x3 x4
     go_wp2_with fail
     go_roundg (24 - (its.length + 1))
     case measure => omega
     case rel => exact ⟨some ⟨gg, 0, none⟩, cap3, j4, bad4, its ++ [y], m + ar, by simp, by simp; omega, by omega, by simp; omega, by simp; omega, by simp; omega, hBw5, hR5, hIt5, HG4, HC'⟩
    | true =>
     have hE := HC.out.full (Or.inl rfl)
     have HE := hid hE
     clear HC hE
     go_wp2_with fail
     refine (xrefuse_all b s j true _ _ v2 _ j hRr).mono ?_
     rintro en w6 ⟨rfl, hB6, hR6⟩
     go_wp2_with fail
     have hItx : ItB w6 w.heap.size (.slice ao its.length cap) its := owns_but hIt hB6 (fun g hg h => by have := owns_ge hIt g hg; omega)
     have hzx := (hB6).size
     refine (withParts_any w.heap.size its ao cap w6 (by omega) hItx).mono ?_
     rintro en w8 ⟨hB8, ao8, cap8, its8, bh8, rfl, hI8, hW8⟩
     have HW8 := hid hW8
     have hBw8 : But (· = b) w w8 := (hBr.trans hB6).next hB8 (fun _ _ h => h.elim)
     have hR8 := (hR6).but hB8 (fun h => h)
     have hI8' : ItB w8 w.heap.size (.slice ao8 its8.length cap8) its8 := World.ownsRow.mono hI8 (by omega)
     have h24 : its8.length ≤ 24 := by have := hW8.len; omega
     have hsz : w.heap.size ≤ (w6).heap.size := by omega
     clear hW8 hI8
     go_wp2_with fail
     exact bodyPost_ret (v := .slice ao8 its8.length cap8) (by simp [results, Tryz.results146, go_sem]) rfl ⟨hBw8, ao8, cap8, its8, _, _, rfl, hR8, hI8', h24, Or.inr ⟨rfl, by simpa using HE.out⟩⟩
   ·have hlI : ¬ (its.length : Int) < 24 := by omega
    have hE := HC.out.full (Or.inr hlt)
    have HE := hid hE
    clear HC hE
    go_wp2_with fail
    refine (xrefuse_all b s j bad' _ _ v2 _ j hRr).mono ?_
    rintro en w6 ⟨rfl, hB6, hR6⟩
    go_wp2_with fail
    have hItx : ItB w6 w.heap.size (.slice ao its.length cap) its := owns_but hIt hB6 (fun g hg h => by have := owns_ge hIt g hg; omega)
    have hzx := (hB6).size
    refine (withParts_any w.heap.size its ao cap w6 (by omega) hItx).mono ?_
    rintro en w8 ⟨hB8, ao8, cap8, its8, bh8, rfl, hI8, hW8⟩
    have HW8 := hid hW8
    have hBw8 : But (· = b) w w8 := (hBr.trans hB6).next hB8 (fun _ _ h => h.elim)
    have hR8 := (hR6).but hB8 (fun h => h)
    have hI8' : ItB w8 w.heap.size (.slice ao8 its8.length cap8) its8 := World.ownsRow.mono hI8 (by omega)
    have h24 : its8.length ≤ 24 := by have := hW8.len; omega
    have hsz : w.heap.size ≤ (w6).heap.size := by omega
    clear hW8 hI8
    go_wp2_with fail
    exact bodyPost_ret (v := .slice ao8 its8.length cap8) (by simp [results, Tryz.results146, go_sem]) rfl ⟨hBw8, ao8, cap8, its8, _, _, rfl, hR8, hI8', h24, Or.inr ⟨rfl, by rw [HE.out]; simp⟩⟩
end Go.Proofs.YtpfkkmacakjmbaaGreatDoor
