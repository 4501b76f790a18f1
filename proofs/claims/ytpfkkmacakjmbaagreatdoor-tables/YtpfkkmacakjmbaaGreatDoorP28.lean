import Derived.Test.YtpfkkmacakjmbaaGreatDoorP27
import Derived.Test.YtpfkkmacakjmbaaGreatDoorP04
import Derived.Test.YtpfkkmacakjmbaaGreatDoorP01
/- The program's state behind an instruction is the document's. -/
namespace Go.Proofs.YtpfkkmacakjmbaaGreatDoor
open Go Go.RowKit Sp
set_option linter.unusedSimpArgs false
set_option linter.unusedVariables false
section
variable {im : Img} {bd : Bod} {x : Ins}
theorem letters_cases {c : UInt8} (h : letters.contains c.toNat = true) : c = 107 ∨ c = 114 ∨ c = 119 ∨ c = 108 ∨ c = 115 ∨ c = 43 ∨ c = 45 ∨ c = 42 ∨ c = 47 ∨ c = 60 ∨ c = 61 ∨ c = 101 ∨ c = 110 ∨ c = 122 ∨ c = 103 ∨ c = 112 ∨ c = 99 ∨ c = 120 ∨ c = 100 ∨ c = 106 ∨ c = 102 ∨ c = 116 := by
 have h1 : c.toNat ∈ letters := List.elem_iff.1 h
 simp only [letters, List.mem_cons, List.not_mem_nil, or_false] at h1
 have e : ∀ n : Nat, n < 256 → c.toNat = n → c = UInt8.ofNat n := fun n hn h => (u8n hn).1 h
 rcases h1 with h | h | h | h | h | h | h | h | h | h | h | h | h | h | h | h | h | h | h | h | h | h <;> (have := e _ (by decide) h; simp at this; simp [this])
theorem fld_rel (hW : WfI im) (ha : x.a < im.classes.length) (hb : x.b < nFields im.classes x.a) : tatX (fldsX (im.classes.map toX) (UInt8.ofNat (65 + x.a))) x.b = fieldT im.classes x.a x.b := by
 obtain ⟨hl, hk⟩ := letOf ha hW.nc
 have hv : (UInt8.ofNat (65 + x.a)).toNat - 65 = x.a := by have := hW.nc; simp; omega
 have hlen := nFields_flds (a := 0) hl
 rw [hv] at hlen
 unfold tatX
 rw [if_pos (by rw [← hlen]; exact hb)]
 unfold fieldT fldsX
 rw [List.length_map, if_pos hl, List.getElem?_map, hv]
 cases im.classes[x.a]? <;> rfl
theorem arg_rel {ms : List Sig} {n : Nat} (h : n < ms.length) : (methX ms n).arg = argT ms n ∧ (methX ms n).ret = retT ms n := by
 unfold methX argT retT
 rw [List.getElem?_eq_getElem h]
 exact ⟨rfl, rfl⟩
theorem toXI_cls (h : x.op.toNat = 110 ∨ x.op.toNat = 120 ∨ x.op.toNat = 103 ∨ x.op.toNat = 112 ∨ x.op.toNat = 99) : (toXI x).cls = clsT x.a := by unfold toXI; rw [if_pos h]; rfl
theorem takes_rel (hW : WfI im) (hbd : WfB im.classes im.sigs bd) (hx : WfX im.classes im.sigs.length bd.locals.length x) :
  takesX (im.classes.map toX) im.sigs (toXI x).op (toXI x).cls (toXI x).num (toXB im.sigs bd).ans = takesT im.classes im.sigs bd x := by
 have e1 : (toXI x).op = x.op := rfl
 have e2 : (toXI x).num = x.b := rfl
 rw [e1, e2]
 have hc := fun h => toXI_cls (x := x) h
 rcases letters_cases hx.op with h | h | h | h | h | h | h | h | h | h | h | h | h | h | h | h | h | h | h | h | h | h
 ·have hn : x.op.toNat = 107 := by rw [h]; rfl
  simp [takesX, takesT, popsT, arith, hn]
 ·have hn : x.op.toNat = 114 := by rw [h]; rfl
  simp [takesX, takesT, popsT, arith, hn]
 ·have hn : x.op.toNat = 119 := by rw [h]; rfl
  simp [takesX, takesT, popsT, arith, hn]
 ·have hn : x.op.toNat = 108 := by rw [h]; rfl
  simp [takesX, takesT, popsT, arith, hn]
 ·have hn : x.op.toNat = 115 := by rw [h]; rfl
  simp [takesX, takesT, popsT, arith, hn]
 ·have hn : x.op.toNat = 43 := by rw [h]; rfl
  simp [takesX, takesT, popsT, arith, hn]
 ·have hn : x.op.toNat = 45 := by rw [h]; rfl
  simp [takesX, takesT, popsT, arith, hn]
 ·have hn : x.op.toNat = 42 := by rw [h]; rfl
  simp [takesX, takesT, popsT, arith, hn]
 ·have hn : x.op.toNat = 47 := by rw [h]; rfl
  simp [takesX, takesT, popsT, arith, hn]
 ·have hn : x.op.toNat = 60 := by rw [h]; rfl
  simp [takesX, takesT, popsT, arith, hn]
 ·have hn : x.op.toNat = 61 := by rw [h]; rfl
  simp [takesX, takesT, popsT, arith, hn]
 ·have hn : x.op.toNat = 101 := by rw [h]; rfl
  simp [takesX, takesT, popsT, arith, hn]
 ·have hn : x.op.toNat = 110 := by rw [h]; rfl
  simp [takesX, takesT, popsT, arith, hn]
 ·have hn : x.op.toNat = 122 := by rw [h]; rfl
  simp [takesX, takesT, popsT, arith, hn]
 ·have hn : x.op.toNat = 103 := by rw [h]; rfl
  rw [hc (by omega)]
  simp [takesX, takesT, popsT, arith, hn]
 ·have hn : x.op.toNat = 112 := by rw [h]; rfl
  have e3 := fld_rel hW (hx.cls (by omega)) (hx.fld (by omega))
  rw [hc (by omega)]
  unfold clsT
  simp only [takesX, takesT, popsT, arith, hn, clsT]
  simp only [e3]
  simp
 ·have hn : x.op.toNat = 99 := by rw [h]; rfl
  have e3 := arg_rel (hx.sig hn)
  rw [hc (by omega)]
  simp [takesX, takesT, popsT, arith, hn, e3.1]
 ·have hn : x.op.toNat = 120 := by rw [h]; rfl
  simp [takesX, takesT, popsT, arith, hn]
 ·have hn : x.op.toNat = 100 := by rw [h]; rfl
  simp [takesX, takesT, popsT, arith, hn]
 ·have hn : x.op.toNat = 106 := by rw [h]; rfl
  simp [takesX, takesT, popsT, arith, hn]
 ·have hn : x.op.toNat = 102 := by rw [h]; rfl
  simp [takesX, takesT, popsT, arith, hn]
 ·have hn : x.op.toNat = 116 := by rw [h]; rfl
  by_cases hcl : bd.cls < 0
  ·simp [takesX, takesT, popsT, arith, hn, toXB, hcl]
  ·have e3 : (methX im.sigs bd.meth.toNat).ret = retT im.sigs bd.meth.toNat := by
    rcases hbd.cls with ⟨h1, _⟩ | ⟨h1, h2, h3, h4⟩
    ·omega
    ·exact (arg_rel (by omega)).2
   simp [takesX, takesT, popsT, arith, hn, toXB, hcl, e3]
theorem suits_rel (hW : WfI im) {a c : UInt8} (ha : okT im.classes.length a = true) (hc : okT im.classes.length c = true ∨ c = 38) : suitsX (im.classes.map toX) a c = suitsT im.classes a c := by
 unfold suitsX suitsT
 rw [List.length_map]
 by_cases h : c.toNat = 38
 ·rw [if_pos h, if_pos h]
  unfold isR
  rw [isLet_isC hW.cls hW.nc ha]
 ·rw [if_neg h, if_neg h]
  rcases hc with hc | rfl
  ·exact fitsX_subT hW.cls hW.nc ha hc
  ·exact absurd rfl h
theorem takesT_ok (hW : WfI im) (hbd : WfB im.classes im.sigs bd) (hx : WfX im.classes im.sigs.length bd.locals.length x) : ∀ c ∈ takesT im.classes im.sigs bd x, okT im.classes.length c = true ∨ c = 38 := by
 intro c hc
 unfold takesT at hc
 split at hc
 ·simp at hc; subst hc; left; simp [okT_iff]
 split at hc
 ·simp at hc; right; exact hc
 split at hc
 ·simp at hc; right; exact hc
 ·left; exact popsT_ok hW hbd hx c hc
theorem suitAll_rel (hW : WfI im) {st asked : List UInt8} (hs : ∀ c ∈ st, okT im.classes.length c = true) (ha : ∀ c ∈ asked, okT im.classes.length c = true ∨ c = 38) (hl : asked.length ≤ st.length) :
  suitAll (im.classes.map toX) st asked = suitT im.classes st asked := by
 unfold suitAll suitT
 rw [show decide (asked.length ≤ st.length) = true from by simp [hl], Bool.true_and, Bool.eq_iff_iff]
 simp only [List.all_eq_true, List.mem_range]
 have key : ∀ i, i < asked.length → suitsX (im.classes.map toX) (st.getD (st.length - asked.length + i) 0) (asked.getD i 0) = suitsT im.classes (st.getD (st.length - asked.length + i) 0) (asked.getD i 0) := by
  intro i hi
  refine suits_rel hW (getD_ok hs (by omega)) ?_
  have : asked.getD i 0 = asked[i] := by simp [List.getD, hi]
  rw [this]
  exact ha _ (List.getElem_mem hi)
 exact ⟨fun h i hi => by rw [← key i hi]; exact h i hi, fun h i hi => by rw [key i hi]; exact h i hi⟩
theorem lays_rel (hW : WfI im) (hx : WfX im.classes im.sigs.length bd.locals.length x) {lo : List UInt8} (hl : lo.length = bd.locals.length) (hlo : ∀ c ∈ lo, okT im.classes.length c = true) :
  (if (laysX (im.classes.map toX) im.sigs (toXI x).op (toXI x).cls (toXI x).num lo).toNat = 0 then [] else [laysX (im.classes.map toX) im.sigs (toXI x).op (toXI x).cls (toXI x).num lo]) = laysT im.classes im.sigs x lo ∧
  (x.op.toNat = 108 → laysX (im.classes.map toX) im.sigs (toXI x).op (toXI x).cls (toXI x).num lo = lo.getD x.b 0) := by
 have e1 : (toXI x).op = x.op := rfl
 have e2 : (toXI x).num = x.b := rfl
 rw [e1, e2]
 have hok0 : ∀ c : UInt8, okT im.classes.length c = true → c.toNat ≠ 0 := fun c h => by rw [okT_iff] at h; omega
 have hpush := pushT_ok hW hx
 have hc := fun h => toXI_cls (x := x) h
 rcases letters_cases hx.op with h | h | h | h | h | h | h | h | h | h | h | h | h | h | h | h | h | h | h | h | h | h
 ·have hn : x.op.toNat = 107 := by rw [h]; rfl
  exact ⟨by simp [laysX, laysT, pushT, arith, hn], fun h => by omega⟩
 ·have hn : x.op.toNat = 114 := by rw [h]; rfl
  exact ⟨by simp [laysX, laysT, pushT, arith, hn], fun h => by omega⟩
 ·have hn : x.op.toNat = 119 := by rw [h]; rfl
  exact ⟨by simp [laysX, laysT, pushT, arith, hn], fun h => by omega⟩
 ·have hn : x.op.toNat = 108 := by rw [h]; rfl
  have hb := hx.loc (Or.inl hn)
  have e3 : tatX lo x.b = lo.getD x.b 0 := by unfold tatX; rw [if_pos (by omega)]
  have e4 := hok0 _ (getD_ok hlo (k := x.b) (by omega))
  have e5 : laysX (im.classes.map toX) im.sigs x.op (toXI x).cls x.b lo = lo.getD x.b 0 := by rw [← e3]; simp [laysX, hn]
  rw [e5, if_neg e4]
  exact ⟨by simp [laysT, hn], fun _ => rfl⟩
 ·have hn : x.op.toNat = 115 := by rw [h]; rfl
  exact ⟨by simp [laysX, laysT, pushT, arith, hn], fun h => by omega⟩
 ·have hn : x.op.toNat = 43 := by rw [h]; rfl
  exact ⟨by simp [laysX, laysT, pushT, arith, hn], fun h => by omega⟩
 ·have hn : x.op.toNat = 45 := by rw [h]; rfl
  exact ⟨by simp [laysX, laysT, pushT, arith, hn], fun h => by omega⟩
 ·have hn : x.op.toNat = 42 := by rw [h]; rfl
  exact ⟨by simp [laysX, laysT, pushT, arith, hn], fun h => by omega⟩
 ·have hn : x.op.toNat = 47 := by rw [h]; rfl
  exact ⟨by simp [laysX, laysT, pushT, arith, hn], fun h => by omega⟩
 ·have hn : x.op.toNat = 60 := by rw [h]; rfl
  exact ⟨by simp [laysX, laysT, pushT, arith, hn], fun h => by omega⟩
 ·have hn : x.op.toNat = 61 := by rw [h]; rfl
  exact ⟨by simp [laysX, laysT, pushT, arith, hn], fun h => by omega⟩
 ·have hn : x.op.toNat = 101 := by rw [h]; rfl
  exact ⟨by simp [laysX, laysT, pushT, arith, hn], fun h => by omega⟩
 ·have hn : x.op.toNat = 110 := by rw [h]; rfl
  have ha := hx.cls (by omega)
  have hnc := hW.nc
  have e4 : (clsT x.a).toNat ≠ 0 := by simp [clsT]; omega
  rw [hc (by omega)]
  have e5 : laysX (im.classes.map toX) im.sigs x.op (clsT x.a) x.b lo = clsT x.a := by simp [laysX, hn]
  rw [e5, if_neg e4]
  exact ⟨by simp [laysT, pushT, arith, hn], fun h => by omega⟩
 ·have hn : x.op.toNat = 122 := by rw [h]; rfl
  exact ⟨by simp [laysX, laysT, pushT, arith, hn], fun h => by omega⟩
 ·have hn : x.op.toNat = 103 := by rw [h]; rfl
  have e3 := fld_rel hW (hx.cls (by omega)) (hx.fld (by omega))
  have e6 : laysT im.classes im.sigs x lo = [fieldT im.classes x.a x.b] := by simp [laysT, pushT, arith, hn]
  have e7 : fieldT im.classes x.a x.b ∈ pushT im.classes im.sigs x := by simp [pushT, arith, hn]
  have e4 := hok0 _ (hpush _ e7)
  rw [hc (by omega)]
  have e5 : laysX (im.classes.map toX) im.sigs x.op (clsT x.a) x.b lo = fieldT im.classes x.a x.b := by rw [← e3]; simp [laysX, hn, clsT]
  rw [e5, if_neg e4, e6]
  exact ⟨rfl, fun h => by omega⟩
 ·have hn : x.op.toNat = 112 := by rw [h]; rfl
  exact ⟨by simp [laysX, laysT, pushT, arith, hn], fun h => by omega⟩
 ·have hn : x.op.toNat = 99 := by rw [h]; rfl
  have e3 := arg_rel (hx.sig hn)
  have e6 : laysT im.classes im.sigs x lo = [retT im.sigs x.b] := by simp [laysT, pushT, arith, hn]
  have e7 : retT im.sigs x.b ∈ pushT im.classes im.sigs x := by simp [pushT, arith, hn]
  have e4 := hok0 _ (hpush _ e7)
  have e5 : laysX (im.classes.map toX) im.sigs x.op (toXI x).cls x.b lo = retT im.sigs x.b := by rw [← e3.2]; simp [laysX, hn]
  rw [e5, if_neg e4, e6]
  exact ⟨rfl, fun h => by omega⟩
 ·have hn : x.op.toNat = 120 := by rw [h]; rfl
  have ha := hx.cls (by omega)
  have hnc := hW.nc
  have e4 : (clsT x.a).toNat ≠ 0 := by simp [clsT]; omega
  rw [hc (by omega)]
  have e5 : laysX (im.classes.map toX) im.sigs x.op (clsT x.a) x.b lo = clsT x.a := by simp [laysX, hn]
  rw [e5, if_neg e4]
  exact ⟨by simp [laysT, pushT, arith, hn], fun h => by omega⟩
 ·have hn : x.op.toNat = 100 := by rw [h]; rfl
  exact ⟨by simp [laysX, laysT, pushT, arith, hn], fun h => by omega⟩
 ·have hn : x.op.toNat = 106 := by rw [h]; rfl
  exact ⟨by simp [laysX, laysT, pushT, arith, hn], fun h => by omega⟩
 ·have hn : x.op.toNat = 102 := by rw [h]; rfl
  exact ⟨by simp [laysX, laysT, pushT, arith, hn], fun h => by omega⟩
 ·have hn : x.op.toNat = 116 := by rw [h]; rfl
  exact ⟨by simp [laysX, laysT, pushT, arith, hn], fun h => by omega⟩
/-- The program's is the document's. -/
theorem behX_effT (hW : WfI im) (hbd : WfB im.classes im.sigs bd) (hx : WfX im.classes im.sigs.length bd.locals.length x) {st lo : List UInt8} (hz : okZ im.classes.length bd.locals.length st lo) :
  behX (im.classes.map toX) im.sigs (toXI x) (toXB im.sigs bd).ans st lo = effT im.classes im.sigs bd x st lo := by
 rw [effT_prog hW hbd hx]
 unfold behX behindT
 rw [takes_rel hW hbd hx]
 have hTok := takesT_ok hW hbd hx
 have e1 : (toXI x).op = x.op := rfl
 have e2 : (toXI x).num = x.b := rfl
 by_cases hl : st.length < (takesT im.classes im.sigs bd x).length
 ·rw [if_pos (Or.inl hl)]
  have : suitT im.classes st (takesT im.classes im.sigs bd x) = false := by
   unfold suitT
   rw [Bool.and_eq_false_iff]
   left
   simp
   omega
  rw [if_pos (Or.inl this)]
 ·have hsa := suitAll_rel hW hz.1 hTok (by omega : (takesT im.classes im.sigs bd x).length ≤ st.length)
  rw [hsa]
  cases hsu : suitT im.classes st (takesT im.classes im.sigs bd x) with
  | false => rw [if_pos (Or.inr rfl), if_pos (Or.inl rfl)]
  | true =>
   have hn1 : ¬ (st.length < (takesT im.classes im.sigs bd x).length ∨ true = false) := by simp; omega
   rw [if_neg hn1]
   rw [e1, e2]
   by_cases h115 : x.op.toNat = 115
   ·have hb := hx.loc (Or.inr h115)
    have hlen : (takesT im.classes im.sigs bd x).length = 1 := by unfold takesT; rw [if_pos (Or.inl h115)]; rfl
    have h108 : ¬ x.op.toNat = 108 := by omega
    rw [if_neg (fun h => h.2 (by rw [hz.2.2]; exact hb))]
    simp only [h108, false_and, if_false, or_false, Bool.true_eq_false]
    rw [if_pos h115, if_pos h115, hlen]
    have hso : okT im.classes.length (st.getD (st.length - 1) 0) = true := getD_ok hz.1 (by rw [hlen] at hl; omega)
    have hlay := lays_rel hW hx (lo := lo.set x.b (st.getD (st.length - 1) 0)) (by rw [List.length_set]; exact hz.2.2) (fun c hc => by
     rcases List.mem_or_eq_of_mem_set hc with h | h
     ·exact hz.2.1 c h
     ·rw [h]; exact hso)
    rw [e1, e2] at hlay
    rw [hlay.1]
    congr 2
    unfold laysT
    rw [if_neg h108, if_neg h108]
   ·simp only [h115, false_and, if_false]
    have hlay := lays_rel hW hx hz.2.2 hz.2.1
    rw [e1, e2] at hlay
    rw [hlay.1]
    by_cases h108 : x.op.toNat = 108
    ·rw [hlay.2 h108]
     simp only [h108, true_and, Bool.true_eq_false, false_or]
    ·simp only [h108, false_and, if_false, or_false, Bool.true_eq_false]
end
end Go.Proofs.YtpfkkmacakjmbaaGreatDoor
/- The program's builder of a table. -/
namespace Go.Proofs.YtpfkkmacakjmbaaGreatDoor
open Go Go.RowKit Sp
set_option linter.unusedSimpArgs false
set_option linter.unusedVariables false
attribute [local go_sem ↓] Go.wp_at_zero Go.wp_at_succ
def stC (x : St × Value × Value) : List Value := match x.1 with
 | none => [.bool false, .slice none 0 0, .slice none 0 0]
 | some _ => [.bool true, x.2.1, x.2.2]
def stCells (l : List (St × Value × Value)) : List Value := l.flatMap stC
theorem stC_len (x : St × Value × Value) : (stC x).length = 3 := by unfold stC; split <;> rfl
theorem stCells_at {l : List (St × Value × Value)} {j k : Nat} {x : St × Value × Value} (h : l[j]? = some x) (hk : k < 3) : (stCells l)[j * 3 + k]? = (stC x)[k]? := flat_at stC 3 stC_len l j k x h hk
theorem stCells_len (l : List (St × Value × Value)) : (stCells l).length = l.length * 3 := by
 induction l with
 | nil => rfl
 | cons x l ih => simp only [stCells, List.flatMap_cons, List.length_append, stC_len, List.length_cons] at ih ⊢; rw [ih]; omega
theorem stCells_set : ∀ {l : List (St × Value × Value)} {j : Nat} {y : St × Value × Value} {a b c : Value}, stC y = [a, b, c] → j < l.length → (((stCells l).set (j * 3) a).set (j * 3 + 1) b).set (j * 3 + 2) c = stCells (l.set j y) := by
 intro l
 induction l with
 | nil => intro j y a b c _ h; simp at h
 | cons x l ih =>
  intro j y a b c hy hj
  obtain ⟨x0, x1, x2, hx⟩ : ∃ x0 x1 x2, stC x = [x0, x1, x2] := by
   have := stC_len x
   match hh : stC x, this with
   | [x0, x1, x2], _ => exact ⟨x0, x1, x2, rfl⟩
  cases j with
  | zero => simp [stCells, hx, hy]
  | succ j =>
   have := ih (j := j) hy (by simpa using hj)
   simp only [stCells, List.flatMap_cons, List.set_cons_succ, hx] at this ⊢
   rw [← this]
   rw [show (j + 1) * 3 = j * 3 + 3 from by omega]
   simp [List.set_append]
/-- The states lie in block g. -/
def StB (w : World) (g : Nat) (tab : List St) : Prop :=
 ∃ l : List (St × Value × Value), w.heap[g]? = some (.cells (stCells l).toArray 117) ∧ l.map (·.1) = tab ∧ ∀ x ∈ l, ∀ s lo, x.1 = some (s, lo) → BtB w 0 x.2.1 s ∧ BtB w 0 x.2.2 lo
theorem StB.off {F : Nat → Prop} {w w' : World} {g : Nat} {tab : List St} (h : StB w g tab) (hb : But F w w') (hg : ¬ F g) (hf : ∀ k cur, w.heap[k]? = some (.cells cur 5) → ¬ F k) : StB w' g tab := by
 obtain ⟨l, h1, h2, h3⟩ := h
 exact ⟨l, (hb.block g (lt_of_block h1) hg).trans h1, h2, fun x hx s lo e => ⟨owns_off (h3 x hx s lo e).1 hb (fun k cur hh _ => hf k cur hh), owns_off (h3 x hx s lo e).2 hb (fun k cur hh _ => hf k cur hh)⟩⟩
/-- The builder: its text at b, its body, its table, who waits, whether it has failed. -/
structure Bld (w0 w : World) (bb b gs gw : Nat) (c r : UInt8) (m : Nat) (vl vi : Value) (tab : List St) (wt : List Bool) (bad : Bool) : Prop where
 but : But (fun _ => False) w0 w
 gbb : w0.heap.size ≤ bb
 ggs : w0.heap.size ≤ gs
 ggw : w0.heap.size ≤ gw
 blk : w.heap[bb]? = some (.cells #[.pointer (some ⟨b, 0, none⟩), .int .u8 c.toNat, .int .i64 m, .int .u8 r.toNat, vl, vi, .slice (some ⟨gs, 0, none⟩) tab.length tab.length, .slice (some ⟨gw, 0, none⟩) tab.length tab.length, .bool bad] 181)
 sts : StB w gs tab
 wts : WtB w gw wt
 wl : wt.length = tab.length
section
variable {w0 w : World} {bb b gs gw : Nat} {c r : UInt8} {m : Nat} {vl vi : Value} {tab : List St} {wt : List Bool} {bad : Bool}
theorem Bld.cells (h : Bld w0 w bb b gs gw c r m vl vi tab wt bad) :
  w.cell? ⟨bb, 0, none⟩ = some (.pointer (some ⟨b, 0, none⟩)) ∧ w.cell? ⟨bb, 6, none⟩ = some (.slice (some ⟨gs, 0, none⟩) tab.length tab.length) ∧ w.cell? ⟨bb, 7, none⟩ = some (.slice (some ⟨gw, 0, none⟩) tab.length tab.length) ∧ w.cell? ⟨bb, 8, none⟩ = some (.bool bad) := by
 refine ⟨?_, ?_, ?_, ?_⟩
 ·rw [cell_of_row w bb 0 _ _ (0, 0) h.blk]; rfl
 ·rw [cell_of_row w bb 6 _ _ (0, 0) h.blk]; rfl
 ·rw [cell_of_row w bb 7 _ _ (0, 0) h.blk]; rfl
 ·rw [cell_of_row w bb 8 _ _ (0, 0) h.blk]; rfl
theorem Bld.body (h : Bld w0 w bb b gs gw c r m vl vi tab wt bad) :
  w.cell? ⟨bb, 1, none⟩ = some (.int .u8 c.toNat) ∧ w.cell? ⟨bb, 2, none⟩ = some (.int .i64 m) ∧ w.cell? ⟨bb, 3, none⟩ = some (.int .u8 r.toNat) ∧ w.cell? ⟨bb, 4, none⟩ = some vl ∧ w.cell? ⟨bb, 5, none⟩ = some vi := by
 refine ⟨?_, ?_, ?_, ?_, ?_⟩
 ·rw [cell_of_row w bb 1 _ _ (0, 0) h.blk]; rfl
 ·rw [cell_of_row w bb 2 _ _ (0, 0) h.blk]; rfl
 ·rw [cell_of_row w bb 3 _ _ (0, 0) h.blk]; rfl
 ·rw [cell_of_row w bb 4 _ _ (0, 0) h.blk]; rfl
 ·rw [cell_of_row w bb 5 _ _ (0, 0) h.blk]; rfl
theorem Bld.fz (h : Bld w0 w bb b gs gw c r m vl vi tab wt bad) (k : Nat) : w.frozen? ⟨bb, k, none⟩ = false := frozen_of_row w bb k _ _ h.blk
theorem Bld.ne (h : Bld w0 w bb b gs gw c r m vl vi tab wt bad) : bb ≠ gs ∧ bb ≠ gw ∧ gs ≠ gw := by
 obtain ⟨l, hs, _⟩ := h.sts
 refine ⟨?_, ?_, ?_⟩
 ·intro e
  have := h.blk
  rw [e, hs] at this
  injection this with this
  injection this with _ h2
  exact absurd h2 (by decide)
 ·intro e
  have := h.blk
  rw [e] at this
  have hw := h.wts
  unfold WtB at hw
  rw [hw] at this
  injection this with this
  injection this with _ h2
  exact absurd h2 (by decide)
 ·intro e
  have hw := h.wts
  unfold WtB at hw
  rw [e, hw] at hs
  injection hs with hs
  injection hs with _ h2
  exact absurd h2 (by decide)
/-- No byte lies in the builder's blocks. -/
theorem Bld.u8 (h : Bld w0 w bb b gs gw c r m vl vi tab wt bad) {k : Nat} {cur : Array Value} (hk : w.heap[k]? = some (.cells cur 5)) : ¬ (k = bb ∨ k = gs ∨ k = gw) := by
 obtain ⟨l, hs, _⟩ := h.sts
 have hw := h.wts
 unfold WtB at hw
 rintro (e | e | e)
 ·rw [e, h.blk] at hk
  injection hk with hk
  injection hk with _ h2
  exact absurd h2 (by decide)
 ·rw [e, hs] at hk
  injection hk with hk
  injection hk with _ h2
  exact absurd h2 (by decide)
 ·rw [e, hw] at hk
  injection hk with hk
  injection hk with _ h2
  exact absurd h2 (by decide)
theorem Bld.lt (h : Bld w0 w bb b gs gw c r m vl vi tab wt bad) : bb < w.heap.size ∧ gs < w.heap.size ∧ gw < w.heap.size := by
 obtain ⟨l, hs, _⟩ := h.sts
 exact ⟨lt_of_block h.blk, lt_of_block hs, lt_of_block h.wts⟩
theorem Bld.next {w' : World} (h : Bld w0 w bb b gs gw c r m vl vi tab wt bad) (hb : But (fun _ => False) w w') : Bld w0 w' bb b gs gw c r m vl vi tab wt bad :=
 ⟨h.but.trans hb, h.gbb, h.ggs, h.ggw, (hb.block bb (lt_of_block h.blk) (fun h => h)).trans h.blk, h.sts.off hb (fun h => h) (fun _ _ _ h => h), (hb.block gw (lt_of_block h.wts) (fun h => h)).trans h.wts, h.wl⟩
/-- It has failed. -/
theorem Bld.fail (h : Bld w0 w bb b gs gw c r m vl vi tab wt bad) : Bld w0 (w.setCell ⟨bb, 8, none⟩ (.bool true)) bb b gs gw c r m vl vi tab wt true := by
 have hb := But.setB w bb 8 (.bool true)
 have hn := h.ne
 refine ⟨h.but.next hb (fun k hk e => by have := h.gbb; omega), h.gbb, h.ggs, h.ggw, heap_setCell_same w bb 8 _ _ _ h.blk, h.sts.off hb (fun e => hn.1 e.symm) (fun k cur hk e => h.u8 hk (Or.inl e)), (hb.block gw (lt_of_block h.wts) (fun e => hn.2.1 e.symm)).trans h.wts, h.wl⟩
theorem Bld.wait (h : Bld w0 w bb b gs gw c r m vl vi tab wt bad) (k : Nat) (v : Bool) : Bld w0 (w.setCell ⟨gw, k, none⟩ (.bool v)) bb b gs gw c r m vl vi tab (wt.set k v) bad := by
 have hb := But.setB w gw k (.bool v)
 have hn := h.ne
 refine ⟨h.but.next hb (fun j hk e => by have := h.ggw; omega), h.gbb, h.ggs, h.ggw, (hb.block bb (lt_of_block h.blk) hn.2.1).trans h.blk, h.sts.off hb hn.2.2 (fun k cur hk e => h.u8 hk (Or.inr (Or.inr e))), ?_, by rw [List.length_set]; exact h.wl⟩
 have := heap_setCell_same w gw k _ _ (.bool v) h.wts
 unfold WtB
 rw [this, List.map_set]
 simp
theorem Bld.wcell (h : Bld w0 w bb b gs gw c r m vl vi tab wt bad) {k : Nat} (hk : k < tab.length) : w.cell? ⟨gw, k, none⟩ = some (.bool (wt.getD k false)) ∧ w.frozen? ⟨gw, k, none⟩ = false :=
 ⟨h.wts.cell (by rw [h.wl]; exact hk), frozen_of_row w gw k _ _ h.wts⟩
/-- A state of the table. -/
theorem Bld.known (h : Bld w0 w bb b gs gw c r m vl vi tab wt bad) {k : Nat} {s lo : List UInt8} (hk : tab[k]? = some (some (s, lo))) :
  ∃ a1 c1 a2 c2, w.cell? ⟨gs, k * 3, none⟩ = some (.bool true) ∧ w.cell? ⟨gs, k * 3 + 1, none⟩ = some (.slice a1 s.length c1) ∧ w.cell? ⟨gs, k * 3 + 2, none⟩ = some (.slice a2 lo.length c2) ∧ BtB w 0 (.slice a1 s.length c1) s ∧ BtB w 0 (.slice a2 lo.length c2) lo := by
 obtain ⟨l, hs, hm, hf⟩ := h.sts
 rw [← hm, List.getElem?_map] at hk
 obtain ⟨x, hx, hx1⟩ := Option.map_eq_some_iff.1 hk
 obtain ⟨h1, h2⟩ := hf x (List.mem_of_getElem? hx) s lo hx1
 obtain ⟨a1, c1, e1⟩ := owns_len h1
 obtain ⟨a2, c2, e2⟩ := owns_len h2
 have hc : stC x = [.bool true, x.2.1, x.2.2] := by unfold stC; rw [hx1]
 rw [e1] at h1
 rw [e2] at h2
 refine ⟨a1, c1, a2, c2, ?_, ?_, ?_, h1, h2⟩
 ·rw [cell_of_row w gs (k * 3) _ _ (0, 0) hs]
  have := stCells_at (k := 0) hx (by omega)
  rw [hc] at this
  simpa using this
 ·rw [cell_of_row w gs (k * 3 + 1) _ _ (0, 0) hs]
  have := stCells_at (k := 1) hx (by omega)
  rw [hc, e1] at this
  simpa using this
 ·rw [cell_of_row w gs (k * 3 + 2) _ _ (0, 0) hs]
  have := stCells_at (k := 2) hx (by omega)
  rw [hc, e2] at this
  simpa using this
theorem Bld.unk (h : Bld w0 w bb b gs gw c r m vl vi tab wt bad) {k : Nat} (hk : tab[k]? = .some .none) :
  w.cell? ⟨gs, k * 3, none⟩ = .some (.bool false) ∧ w.cell? ⟨gs, k * 3 + 1, none⟩ = .some (.slice none 0 0) ∧ w.cell? ⟨gs, k * 3 + 2, none⟩ = .some (.slice none 0 0) := by
 obtain ⟨l, hs, hm, hf⟩ := h.sts
 rw [← hm, List.getElem?_map] at hk
 obtain ⟨x, hx, hx1⟩ := Option.map_eq_some_iff.1 hk
 have hc : stC x = [.bool false, .slice none 0 0, .slice none 0 0] := by unfold stC; rw [hx1]
 refine ⟨?_, ?_, ?_⟩
 ·rw [cell_of_row w gs (k * 3) _ _ (0, 0) hs]
  have := stCells_at (k := 0) hx (by omega)
  rw [hc] at this
  simpa using this
 ·rw [cell_of_row w gs (k * 3 + 1) _ _ (0, 0) hs]
  have := stCells_at (k := 1) hx (by omega)
  rw [hc] at this
  simpa using this
 ·rw [cell_of_row w gs (k * 3 + 2) _ _ (0, 0) hs]
  have := stCells_at (k := 2) hx (by omega)
  rw [hc] at this
  simpa using this
theorem Bld.sfz (h : Bld w0 w bb b gs gw c r m vl vi tab wt bad) (k : Nat) : w.frozen? ⟨gs, k, none⟩ = false := by
 obtain ⟨l, hs, hm, hf⟩ := h.sts
 exact frozen_of_row w gs k _ _ hs
/-- A state is laid. -/
theorem Bld.lay (h : Bld w0 w bb b gs gw c r m vl vi tab wt bad) {k : Nat} (hk : k < tab.length) {s lo : List UInt8} {v1 v2 : Value} (h1 : BtB w 0 v1 s) (h2 : BtB w 0 v2 lo) :
  Bld w0 (((w.setCell ⟨gs, k * 3, none⟩ (.bool true)).setCell ⟨gs, k * 3 + 1, none⟩ v1).setCell ⟨gs, k * 3 + 2, none⟩ v2) bb b gs gw c r m vl vi (tab.set k (.some (s, lo))) wt bad := by
 have hb : But (· = gs) w (((w.setCell ⟨gs, k * 3, none⟩ (.bool true)).setCell ⟨gs, k * 3 + 1, none⟩ v1).setCell ⟨gs, k * 3 + 2, none⟩ v2) := ((But.setB w gs _ _).trans (But.setB _ gs _ _)).trans (But.setB _ gs _ _)
 have hn := h.ne
 have hu : ∀ j cur, w.heap[j]? = .some (.cells cur 5) → ¬ j = gs := fun j cur hj e => h.u8 hj (Or.inr (Or.inl e))
 have hlt := h.lt
 have hg := h.ggs
 have hbk := (hb.block bb hlt.1 hn.1).trans h.blk
 have hwt := (hb.block gw hlt.2.2 (fun e => hn.2.2 e.symm)).trans h.wts
 have hbu : But (fun _ => False) w0 (((w.setCell ⟨gs, k * 3, none⟩ (.bool true)).setCell ⟨gs, k * 3 + 1, none⟩ v1).setCell ⟨gs, k * 3 + 2, none⟩ v2) := h.but.next hb (fun j hj e => by omega)
 obtain ⟨l, hs, hm, hf⟩ := h.sts
 have hll : l.length = tab.length := by rw [← hm]; simp
 have e1 := heap_setCell_same w gs (k * 3) _ _ (.bool true) hs
 have e2 := heap_setCell_same _ gs (k * 3 + 1) _ _ v1 e1
 have e3 := heap_setCell_same _ gs (k * 3 + 2) _ _ v2 e2
 refine ⟨hbu, h.gbb, h.ggs, h.ggw, by rw [List.length_set]; exact hbk, ⟨l.set k (.some (s, lo), v1, v2), ?_, ?_, ?_⟩, hwt, by rw [List.length_set]; exact h.wl⟩
 ·rw [e3]
  congr 2
  rw [← stCells_set (l := l) (j := k) (y := (.some (s, lo), v1, v2)) (a := .bool true) (b := v1) (c := v2) rfl (by omega)]
  simp
 ·rw [List.map_set, hm]
 ·intro x hx s' lo' e
  rcases List.mem_or_eq_of_mem_set hx with hx | hx
  ·obtain ⟨p1, p2⟩ := hf x hx s' lo' e
   exact ⟨owns_off p1 hb (fun j cur hh _ => hu j cur hh), owns_off p2 hb (fun j cur hh _ => hu j cur hh)⟩
  ·subst hx
   simp only [Option.some.injEq, Prod.mk.injEq] at e
   obtain ⟨rfl, rfl⟩ := e
   exact ⟨owns_off h1 hb (fun j cur hh _ => hu j cur hh), owns_off h2 hb (fun j cur hh _ => hu j cur hh)⟩
end
end Go.Proofs.YtpfkkmacakjmbaaGreatDoor
/- The program makes a state fit. -/
namespace Go.Proofs.YtpfkkmacakjmbaaGreatDoor
open Go Go.RowKit Sp
set_option linter.unusedSimpArgs false
set_option linter.unusedVariables false
attribute [local go_sem ↓] Go.wp_at_zero Go.wp_at_succ
section
variable {cs : List Cls} {tab : List St} {wt : List Bool} {j : Nat} {sb lb sa la : List UInt8}
theorem rW_out (h : tab.length ≤ j) : reachW cs (tab, wt, false) j sb lb = (tab, wt, true) := by
 have : intoT cs (tab, false, false) (j : Int) sb lb = (tab, false, true) := by
  unfold intoT
  rw [if_neg (by simp), if_pos (by simp; omega)]
 unfold reachW
 simp only
 rw [this]
 simp
theorem rW_new (h : tab[j]? = some none) : reachW cs (tab, wt, false) j sb lb = (tab.set j (some (sb, lb)), wt.set j true, false) := by
 have hj := (List.getElem?_eq_some_iff.1 h).1
 have : intoT cs (tab, false, false) (j : Int) sb lb = (tab.set j (some (sb, lb)), true, false) := by
  unfold intoT
  rw [if_neg (by simp), if_neg (by simp; omega)]
  simp [List.getD, h, mergeT]
 unfold reachW
 simp only
 rw [this]
 simp
theorem rW_len (h : tab[j]? = some (some (sa, la))) (hl : sa.length ≠ sb.length) : reachW cs (tab, wt, false) j sb lb = (tab, wt, true) := by
 have hj := (List.getElem?_eq_some_iff.1 h).1
 have : intoT cs (tab, false, false) (j : Int) sb lb = (tab, false, true) := by
  unfold intoT
  rw [if_neg (by simp), if_neg (by simp; omega)]
  simp [List.getD, h, mergeT, hl]
 unfold reachW
 simp only
 rw [this]
 simp
theorem rW_same (h : tab[j]? = some (some (sa, la))) (hl : sa.length = sb.length) (h1 : bothT cs sa sb = sa) (h2 : bothT cs la lb = la) : reachW cs (tab, wt, false) j sb lb = (tab, wt, false) := by
 have hj := (List.getElem?_eq_some_iff.1 h).1
 have : intoT cs (tab, false, false) (j : Int) sb lb = (tab, false, false) := by
  unfold intoT
  rw [if_neg (by simp), if_neg (by simp; omega)]
  simp [List.getD, h, mergeT, hl, h1, h2]
 unfold reachW
 simp only
 rw [this]
 simp
theorem rW_chg (h : tab[j]? = some (some (sa, la))) (hl : sa.length = sb.length) (h1 : ¬ (bothT cs sa sb = sa ∧ bothT cs la lb = la)) : reachW cs (tab, wt, false) j sb lb = (tab.set j (some (bothT cs sa sb, bothT cs la lb)), wt.set j true, false) := by
 have hj := (List.getElem?_eq_some_iff.1 h).1
 have : intoT cs (tab, false, false) (j : Int) sb lb = (tab.set j (some (bothT cs sa sb, bothT cs la lb)), true, false) := by
  unfold intoT
  rw [if_neg (by simp), if_neg (by simp; omega)]
  simp [List.getD, h, mergeT, hl, h1]
 unfold reachW
 simp only
 rw [this]
 simp
theorem meets_both (hw : WfC cs) (hn : cs.length ≤ 4) : ∀ {a b : List UInt8}, (∀ c ∈ a, okT cs.length c = true) → (∀ c ∈ b, okT cs.length c = true) → List.zipWith (meetX (cs.map toX)) a b = bothT cs a b := by
 intro a
 induction a with
 | nil => intro b _ _; simp [bothT]
 | cons x a ih =>
  intro b ha hb
  cases b with
  | nil => simp [bothT]
  | cons y b =>
   simp only [bothT, List.zipWith_cons_cons]
   rw [meetX_joinT hw hn (ha x (by simp)) (hb y (by simp))]
   congr 1
   exact ih (fun c h => ha c (by simp [h])) (fun c h => hb c (by simp [h]))
end
set_option maxHeartbeats 3200000 in
set_option maxRecDepth 100000 in
theorem xreach_any (w0 : World) (bb b gs gw : Nat) (c r : UInt8) (m : Nat) (vl vi : Value) (tab : List St) (wt : List Bool) (bad : Bool) (im : Img) (nl j : Nat) (aa al : Option Addr) (ca cl : Nat) (sb lb : List UInt8) (w : World) (hW : WfI im) (hnl : nl ≤ 5) (htl : tab.length ≤ 100)
  (hB : Bld w0 w bb b gs gw c r m vl vi tab wt bad) (hTX : TxC w0 b (im.classes.map toX)) (hwf : wfT im.classes.length nl tab.length tab) (hz : okZ im.classes.length nl sb lb) (hsl : sb.length ≤ 101)
  (hs : BtB w 0 (.slice aa sb.length ca) sb) (hl : BtB w 0 (.slice al lb.length cl) lb) :
  Calls Tryz.prog 105 #[.pointer (some ⟨bb, 0, none⟩), .int .i64 j, xsV true (.slice aa sb.length ca) (.slice al lb.length cl)] w fun en w' => en = .returned (.tuple #[]) ∧ But (fun k => k = bb ∨ k = gs ∨ k = gw) w w' ∧
   Bld w0 w' bb b gs gw c r m vl vi (reachW im.classes (tab, wt, false) j sb lb).1 (reachW im.classes (tab, wt, false) j sb lb).2.1 (bad || (reachW im.classes (tab, wt, false) j sb lb).2.2) := by
 have hBW : But (fun _ => False) w (w.alloc (.cells #[.bool true, .slice aa sb.length ca, .slice al lb.length cl] 117)) := But.alloc _ _ _
 have hgW := heap_alloc_new w (.cells #[.bool true, .slice aa sb.length ca, .slice al lb.length cl] 117)
 have hBl := hB.next hBW
 have hsW := hs.but hBW (fun _ _ h => h)
 have hlW := hl.but hBW (fun _ _ h => h)
 have hltw := hB.lt
 have hW1 := hBW.mono (G := fun k => k = bb ∨ k = gs ∨ k = gw) (fun _ _ h => h.elim)
 unfold xsV
 by_cases hj : j < tab.length
 ·have hjI : (j : Int) < (tab.length : Int) := by omega
  have hj0 : ¬ (j : Int) < 0 := by omega
  obtain ⟨o, ho⟩ : ∃ o, tab[j]? = some o := ⟨_, List.getElem?_eq_getElem hj⟩
  have HTX := hid (fun (wx : World) (h : But (fun _ => False) w0 wx) => hTX.but h)
  obtain ⟨wc1, wf1⟩ := hBl.wcell hj
  have sz0 := hBl.sfz (j * 3)
  have sz1 := hBl.sfz (j * 3 + 1)
  have sz2 := hBl.sfz (j * 3 + 2)
  obtain ⟨c0, c6, c7, c8⟩ := hBl.cells
  obtain ⟨k0, k1, k2⟩ := row3 hgW
  have hgl := lt_of_block hgW
  cases o with
  | none =>
   rw [rW_new ho]
   simp only [Bool.or_false]
   obtain ⟨t0, t1, t2⟩ := hBl.unk ho
   have hlbl : lb.length ≤ 1000 := by have := hz.2.2; omega
   go_enter Tryz.func105, Tryz.ntmps105
   go_wp2_with fail
   revert hBW hgW hBl hsW hlW hW1 wc1 wf1 sz0 sz1 sz2 c0 c6 c7 c8 k0 k1 k2 hgl t0 t1 t2
   generalize (w.alloc (.cells #[.bool true, .slice aa sb.length ca, .slice al lb.length cl] 117)) = W
   intro hBW hgW hBl hsW hlW hW1 wc1 wf1 sz0 sz1 sz2 c0 c6 c7 c8 k0 k1 k2 hgl t0 t1 t2
   have hltW := hBl.lt
   have hS0 : But (fun _ => False) W W.drew := But.drew _ _
   have HCP := hid (xcopyOf_any 0 true aa al ca cl sb lb W.drew (hsW.but hS0 (fun _ _ h => h)) (hlW.but hS0 (fun _ _ h => h)) (by omega) hlbl)
   unfold xsV at HCP
   refine wpTx_begin (But (fun _ => False) W) 7 (by kernel_rfl) ?_
   have fSA := hid (fun wS (h : (But (fun _ => False) W) wS) => (And.intro ((h.cell (p := ⟨bb, 6, none⟩) hltW.1 (fun h => h)).trans c6) (And.intro ((h.cell (p := ⟨w.heap.size, 0, none⟩) hgl (fun h => h)).trans k0) (And.intro ((h.cell (p := ⟨w.heap.size, 1, none⟩) hgl (fun h => h)).trans k1) ((h.cell (p := ⟨w.heap.size, 2, none⟩) hgl (fun h => h)).trans k2)))))
   refine wpTx_take (v := ?vA0) rfl (by kernel_rfl) ?qA0 rfl hS0 ?yA0 ?rA0
   case yA0 => intro wS h; obtain ⟨q0, q1, q2, q3⟩ := fSA.out wS h; clear h; go_simp; try rfl
   case qA0 => exact fun _ _ _ h => h
   dsimp only [Act.put]
   try simp only [puts]
   refine wpTx_take (v := ?vA1) rfl (by kernel_rfl) ?qA1 rfl hS0 ?yA1 ?rA1
   case yA1 => intro wS h; obtain ⟨q0, q1, q2, q3⟩ := fSA.out wS h; clear h; go_simp; try rfl
   case qA1 => exact fun _ _ _ h => h
   dsimp only [Act.put]
   try simp only [puts]
   refine wpTx_take (v := ?vA2) rfl (by kernel_rfl) ?qA2 rfl hS0 ?yA2 ?rA2
   case yA2 => intro wS h; obtain ⟨q0, q1, q2, q3⟩ := fSA.out wS h; clear h; go_simp; try rfl
   case qA2 => exact fun _ _ _ h => h
   dsimp only [Act.put]
   try simp only [puts]
   refine wpTx_take (v := ?vA3) rfl (by kernel_rfl) ?qA3 rfl hS0 ?yA3 ?rA3
   case yA3 => intro wS h; obtain ⟨q0, q1, q2, q3⟩ := fSA.out wS h; clear h; go_simp; try rfl
   case qA3 => exact fun _ _ _ h => h
   dsimp only [Act.put]
   try simp only [puts]
   refine wpTx_take (v := ?vA4) rfl (by kernel_rfl) ?qA4 rfl hS0 ?yA4 ?rA4
   case yA4 => intro wS h; obtain ⟨q0, q1, q2, q3⟩ := fSA.out wS h; clear h; go_simp; try rfl
   case qA4 => exact fun _ _ _ h => h
   dsimp only [Act.put]
   try simp only [puts]
   refine wpTx_take (v := ?vA5) rfl (by kernel_rfl) ?qA5 rfl hS0 ?yA5 ?rA5
   case yA5 => intro wS h; obtain ⟨q0, q1, q2, q3⟩ := fSA.out wS h; clear h; go_simp; try rfl
   case qA5 => exact fun _ _ _ h => h
   dsimp only [Act.put]
   try simp only [puts]
   try clear fSA
   refine wpTx_step (o := ?oA6) (rest := ?rsA6) ?hoA6 ?hrA6 ?stA6
   case hoA6 => rfl
   case hrA6 => kernel_rfl
   case' stA6 =>
   intro KS hKS
   go_simp
   refine HCP.out.mono ?_
   rintro en w2 ⟨hB2, a1, c1, a2, c2, G2, rfl, hs2, hl2, _, _, _⟩
   clear HCP
   have hSW := hS0.trans hB2
   refine hKS.out _ _ (fun _ => hSW) ?_
   clear hKS KS
   have hBl2 := hBl.next hSW
   have hBw2 : But (fun k => k = bb ∨ k = gs ∨ k = gw) w w2 := hW1.next hSW (fun _ _ h => h.elim)
   clear wc1 wf1 sz0 sz1 sz2 c0 c6 c7 c8 k0 k1 k2 t0 t1 t2
   obtain ⟨t0, t1, t2⟩ := hBl2.unk ho
   have sz0 := hBl2.sfz (j * 3)
   have sz1 := hBl2.sfz (j * 3 + 1)
   have sz2 := hBl2.sfz (j * 3 + 2)
   have hBl3 := hBl2.lay hj (v1 := .slice a1 sb.length c1) (v2 := .slice a2 lb.length c2) (World.ownsRow.mono hs2 (Nat.zero_le _)) (World.ownsRow.mono hl2 (Nat.zero_le _))
   have hB23 : But (fun k => k = bb ∨ k = gs ∨ k = gw) w2 (((w2.setCell ⟨gs, j * 3, none⟩ (.bool true)).setCell ⟨gs, j * 3 + 1, none⟩ (.slice a1 sb.length c1)).setCell ⟨gs, j * 3 + 2, none⟩ (.slice a2 lb.length c2)) := (((But.setB w2 gs _ _).trans (But.setB _ gs _ _)).trans (But.setB _ gs _ _)).mono (fun k _ h => Or.inr (Or.inl h))
   have HBl3 := hid hBl3
   have HB23 := hid hB23
   clear hBl3 hB23 hBl hgW hB hBW
   refine wpTx_step (o := ?oA7) (rest := ?rsA7) ?hoA7 ?hrA7 ?stA7
   case hoA7 => rfl
   case hrA7 => kernel_rfl
   case' stA7 =>
   intro KS hKS
   go_simp
   refine hKS.out _ _ (fun h => absurd h (by decide)) ?_
   clear hKS KS
   refine wpTx_step (o := ?oA8) (rest := ?rsA8) ?hoA8 ?hrA8 ?stA8
   case hoA8 => rfl
   case hrA8 => kernel_rfl
   case' stA8 =>
   intro KS hKS
   go_simp
   refine hKS.out _ _ (fun h => absurd h (by decide)) ?_
   clear hKS KS
   refine wpTx_done rfl (by kernel_rfl) ?_
   revert HBl3 HB23
   generalize (((w2.setCell ⟨gs, j * 3, none⟩ (.bool true)).setCell ⟨gs, j * 3 + 1, none⟩ (.slice a1 sb.length c1)).setCell ⟨gs, j * 3 + 2, none⟩ (.slice a2 lb.length c2)) = w3
   intro HBl3 HB23
   have hBl3 := HBl3.out
   clear t0 t1 t2 sz0 sz1 sz2
   obtain ⟨c0, c6, c7, c8⟩ := hBl3.cells
   obtain ⟨wc1, wf1⟩ := hBl3.wcell (k := j) (by rw [List.length_set]; exact hj)
   rw [List.length_set] at c6 c7
   have hBl4 := hBl3.wait j true
   have HBl4 := hid hBl4
   clear hBl4 hBl3
   go_wp2_with fail
   exact bodyPost_ret (v := .tuple #[]) (by simp [results, Tryz.results105, go_sem]) rfl ⟨rfl, (hBw2.trans HB23.out).trans ((But.setB _ _ _ _).mono (fun k _ h => Or.inr (Or.inr h))), HBl4.out⟩
  | some o =>
   obtain ⟨sa, la⟩ := o
   obtain ⟨hza, hsa100⟩ := hwf.2 j sa la ho
   have hset := setN_le tab
   obtain ⟨a3, c3, a4, c4, t0, t1, t2, hsa, hla⟩ := hBl.known ho
   by_cases hlen : sa.length = sb.length
   ·have hlI : ((sa.length : Int) == (sb.length : Int)) = true := by rw [hlen]; simp
    have hlI' : ((sa.length : Int) != (sb.length : Int)) = false := by simp [bne, hlI]
    have hlI2 : (sa.length : Int) = (sb.length : Int) := by rw [hlen]
    have HLI2 := hid hlI2
    have HLEN := hid hlen
    have hle1 : sa.length ≤ sb.length := by omega
    have hle2 : sb.length ≤ sa.length := by omega
    clear hlI2 hlen
    go_enter Tryz.func105, Tryz.ntmps105
    go_wp2_with fail
    revert hBW hgW hBl hsW hlW hW1 wc1 wf1 sz0 sz1 sz2 c0 c6 c7 c8 k0 k1 k2 hgl t0 t1 t2 hsa hla
    generalize (w.alloc (.cells #[.bool true, .slice aa sb.length ca, .slice al lb.length cl] 117)) = W
    intro hBW hgW hBl hsW hlW hW1 wc1 wf1 sz0 sz1 sz2 c0 c6 c7 c8 k0 k1 k2 hgl t0 t1 t2 hsa hla
    have hltW := hBl.lt
    have hS0 : But (fun _ => False) W W.drew := But.drew _ _
    refine wpTx_begin (But (fun _ => False) W) 13 (by kernel_rfl) ?_
    have fSC := hid (fun wS (h : (But (fun _ => False) W) wS) => (And.intro ((h.cell (p := ⟨bb, 6, none⟩) hltW.1 (fun h => h)).trans c6) (And.intro ((h.cell (p := ⟨gs, j * 3 + 1, none⟩) hltW.2.1 (fun h => h)).trans t1) ((h.cell (p := ⟨w.heap.size, 1, none⟩) hgl (fun h => h)).trans k1))))
    refine wpTx_take (v := ?vC0) rfl (by kernel_rfl) ?qC0 rfl hS0 ?yC0 ?rC0
    case yC0 => intro wS h; obtain ⟨q0, q1, q2⟩ := fSC.out wS h; clear h; go_simp; try rfl
    case qC0 => exact fun _ _ _ h => h
    dsimp only [Act.put]
    try simp only [puts]
    refine wpTx_take (v := ?vC1) rfl (by kernel_rfl) ?qC1 rfl hS0 ?yC1 ?rC1
    case yC1 => intro wS h; obtain ⟨q0, q1, q2⟩ := fSC.out wS h; clear h; go_simp; try rfl
    case qC1 => exact fun _ _ _ h => h
    dsimp only [Act.put]
    try simp only [puts]
    refine wpTx_take (v := ?vC2) rfl (by kernel_rfl) ?qC2 rfl hS0 ?yC2 ?rC2
    case yC2 => intro wS h; obtain ⟨q0, q1, q2⟩ := fSC.out wS h; clear h; go_simp; try rfl
    case qC2 => exact fun _ _ _ h => h
    dsimp only [Act.put]
    try simp only [puts]
    refine wpTx_take (v := ?vC3) rfl (by kernel_rfl) ?qC3 rfl hS0 ?yC3 ?rC3
    case yC3 => intro wS h; obtain ⟨q0, q1, q2⟩ := fSC.out wS h; clear h; go_simp; try rfl
    case qC3 => exact fun _ _ _ h => h
    dsimp only [Act.put]
    try simp only [puts]
    refine wpTx_take (v := ?vC4) rfl (by kernel_rfl) ?qC4 rfl hS0 ?yC4 ?rC4
    case yC4 => intro wS h; obtain ⟨q0, q1, q2⟩ := fSC.out wS h; clear h; go_simp; try rfl
    case qC4 => exact fun _ _ _ h => h
    dsimp only [Act.put]
    try simp only [puts]
    refine wpTx_take (v := ?vC5) rfl (by kernel_rfl) ?qC5 rfl hS0 ?yC5 ?rC5
    case yC5 => intro wS h; obtain ⟨q0, q1, q2⟩ := fSC.out wS h; clear h; go_simp; try rfl
    case qC5 => exact fun _ _ _ h => h
    dsimp only [Act.put]
    try simp only [puts]
    refine wpTx_take (v := ?vC6) rfl (by kernel_rfl) ?qC6 rfl hS0 ?yC6 ?rC6
    case yC6 => intro wS h; obtain ⟨q0, q1, q2⟩ := fSC.out wS h; clear h; go_simp; try rfl
    case qC6 => exact fun _ _ _ h => h
    dsimp only [Act.put]
    try simp only [puts]
    refine wpTx_take (v := ?vC7) rfl (by kernel_rfl) ?qC7 rfl hS0 ?yC7 ?rC7
    case yC7 => intro wS h; obtain ⟨q0, q1, q2⟩ := fSC.out wS h; clear h; go_simp; try rfl
    case qC7 => exact fun _ _ _ h => h
    dsimp only [Act.put]
    try simp only [puts]
    refine wpTx_take (v := ?vC8) rfl (by kernel_rfl) ?qC8 rfl hS0 ?yC8 ?rC8
    case yC8 => intro wS h; obtain ⟨q0, q1, q2⟩ := fSC.out wS h; clear h; go_simp; try rfl
    case qC8 => exact fun _ _ _ h => h
    dsimp only [Act.put]
    try simp only [puts]
    refine wpTx_take (v := ?vC9) rfl (by kernel_rfl) ?qC9 rfl hS0 ?yC9 ?rC9
    case yC9 => intro wS h; obtain ⟨q0, q1, q2⟩ := fSC.out wS h; clear h; go_simp; try rfl
    case qC9 => exact fun _ _ _ h => h
    dsimp only [Act.put]
    try simp only [puts]
    refine wpTx_take (v := ?vC10) rfl (by kernel_rfl) ?qC10 rfl hS0 ?yC10 ?rC10
    case yC10 => intro wS h; obtain ⟨q0, q1, q2⟩ := fSC.out wS h; clear h; go_simp; try rfl
    case qC10 => exact fun _ _ _ h => h
    dsimp only [Act.put]
    try simp only [puts]
    refine wpTx_take (v := ?vC11) rfl (by kernel_rfl) ?qC11 rfl hS0 ?yC11 ?rC11
    case yC11 => intro wS h; obtain ⟨q0, q1, q2⟩ := fSC.out wS h; clear h; go_simp; try rfl
    case qC11 => exact fun _ _ _ h => h
    dsimp only [Act.put]
    try simp only [puts]
    refine wpTx_take (v := ?vC12) rfl (by kernel_rfl) ?qC12 rfl hS0 ?yC12 ?rC12
    case yC12 => intro wS h; obtain ⟨q0, q1, q2⟩ := fSC.out wS h; clear h; go_simp; try rfl
    case qC12 => exact fun _ _ _ h => h
    dsimp only [Act.put]
    try simp only [puts]
    try clear fSC
    refine wpTx_done rfl (by kernel_rfl) ?_
    have hBl1 := hBl.next hS0
    have hs1 := hsW.but hS0 (fun _ _ h => h)
    have hl1 := hlW.but hS0 (fun _ _ h => h)
    have hsa1 := hsa.but hS0 (fun _ _ h => h)
    have hla1 := hla.but hS0 (fun _ _ h => h)
    have hg1 := (hS0.block w.heap.size hgl (fun h => h)).trans hgW
    have hBw1 : But (fun k => k = bb ∨ k = gs ∨ k = gw) w W.drew := hW1.next hS0 (fun _ _ h => h.elim)
    have u0 := (hS0.cell (p := ⟨gs, j * 3, none⟩) hltW.2.1 (fun h => h)).trans t0
    have u1 := (hS0.cell (p := ⟨gs, j * 3 + 1, none⟩) hltW.2.1 (fun h => h)).trans t1
    have u2 := (hS0.cell (p := ⟨gs, j * 3 + 2, none⟩) hltW.2.1 (fun h => h)).trans t2
    clear wc1 wf1 sz0 sz1 sz2 c0 c6 c7 c8 k0 k1 k2 t0 t1 t2 hsa hla hBl hsW hlW hgW hBW hW1 hgl hltW hB
    revert hBl1 hs1 hl1 hsa1 hla1 hg1 hBw1 u0 u1 u2
    generalize W.drew = w1
    intro hBl1 hs1 hl1 hsa1 hla1 hg1 hBw1 t0 t1 t2
    clear hS0
    obtain ⟨c0, c6, c7, c8⟩ := hBl1.cells
    obtain ⟨k0, k1, k2⟩ := row3 hg1
    have hgl := lt_of_block hg1
    have hlt1 := hBl1.lt
    go_wp2_with fail
    have hS1 : But (fun _ => False) w1 w1.drew := But.drew _ _
    have hmt := xmeetings_any b (im.classes.map toX) a3 aa c3 ca sa sb w1.drew (by rw [List.length_map]; have := hW.nc; omega) (HTX.out _ (hBl1.but.trans hS1)) (hsa1.but hS1 (fun _ _ h => h)) (hs1.but hS1 (fun _ _ h => h)) HLEN.out (by omega)
    rw [meets_both hW.cls hW.nc hza.1 hz.1] at hmt
    have HMT := hid hmt
    clear hmt
    refine wpTx_begin (But (fun _ => False) w1) 15 (by kernel_rfl) ?_
    have fSE := hid (fun wS (h : (But (fun _ => False) w1) wS) => (And.intro ((h.cell (p := ⟨bb, 0, none⟩) hlt1.1 (fun h => h)).trans c0) (And.intro ((h.cell (p := ⟨bb, 6, none⟩) hlt1.1 (fun h => h)).trans c6) (And.intro ((h.cell (p := ⟨gs, j * 3 + 1, none⟩) hlt1.2.1 (fun h => h)).trans t1) ((h.cell (p := ⟨w.heap.size, 1, none⟩) hgl (fun h => h)).trans k1)))))
    refine wpTx_take (v := ?vE0) rfl (by kernel_rfl) ?qE0 rfl hS1 ?yE0 ?rE0
    case yE0 => intro wS h; obtain ⟨q0, q1, q2, q3⟩ := fSE.out wS h; clear h; go_simp; try rfl
    case qE0 => exact fun _ _ _ h => h
    dsimp only [Act.put]
    try simp only [puts]
    refine wpTx_take (v := ?vE1) rfl (by kernel_rfl) ?qE1 rfl hS1 ?yE1 ?rE1
    case yE1 => intro wS h; obtain ⟨q0, q1, q2, q3⟩ := fSE.out wS h; clear h; go_simp; try rfl
    case qE1 => exact fun _ _ _ h => h
    dsimp only [Act.put]
    try simp only [puts]
    refine wpTx_take (v := ?vE2) rfl (by kernel_rfl) ?qE2 rfl hS1 ?yE2 ?rE2
    case yE2 => intro wS h; obtain ⟨q0, q1, q2, q3⟩ := fSE.out wS h; clear h; go_simp; try rfl
    case qE2 => exact fun _ _ _ h => h
    dsimp only [Act.put]
    try simp only [puts]
    refine wpTx_take (v := ?vE3) rfl (by kernel_rfl) ?qE3 rfl hS1 ?yE3 ?rE3
    case yE3 => intro wS h; obtain ⟨q0, q1, q2, q3⟩ := fSE.out wS h; clear h; go_simp; try rfl
    case qE3 => exact fun _ _ _ h => h
    dsimp only [Act.put]
    try simp only [puts]
    refine wpTx_take (v := ?vE4) rfl (by kernel_rfl) ?qE4 rfl hS1 ?yE4 ?rE4
    case yE4 => intro wS h; obtain ⟨q0, q1, q2, q3⟩ := fSE.out wS h; clear h; go_simp; try rfl
    case qE4 => exact fun _ _ _ h => h
    dsimp only [Act.put]
    try simp only [puts]
    refine wpTx_take (v := ?vE5) rfl (by kernel_rfl) ?qE5 rfl hS1 ?yE5 ?rE5
    case yE5 => intro wS h; obtain ⟨q0, q1, q2, q3⟩ := fSE.out wS h; clear h; go_simp; try rfl
    case qE5 => exact fun _ _ _ h => h
    dsimp only [Act.put]
    try simp only [puts]
    refine wpTx_take (v := ?vE6) rfl (by kernel_rfl) ?qE6 rfl hS1 ?yE6 ?rE6
    case yE6 => intro wS h; obtain ⟨q0, q1, q2, q3⟩ := fSE.out wS h; clear h; go_simp; try rfl
    case qE6 => exact fun _ _ _ h => h
    dsimp only [Act.put]
    try simp only [puts]
    refine wpTx_take (v := ?vE7) rfl (by kernel_rfl) ?qE7 rfl hS1 ?yE7 ?rE7
    case yE7 => intro wS h; obtain ⟨q0, q1, q2, q3⟩ := fSE.out wS h; clear h; go_simp; try rfl
    case qE7 => exact fun _ _ _ h => h
    dsimp only [Act.put]
    try simp only [puts]
    refine wpTx_take (v := ?vE8) rfl (by kernel_rfl) ?qE8 rfl hS1 ?yE8 ?rE8
    case yE8 => intro wS h; obtain ⟨q0, q1, q2, q3⟩ := fSE.out wS h; clear h; go_simp; try rfl
    case qE8 => exact fun _ _ _ h => h
    dsimp only [Act.put]
    try simp only [puts]
    refine wpTx_take (v := ?vE9) rfl (by kernel_rfl) ?qE9 rfl hS1 ?yE9 ?rE9
    case yE9 => intro wS h; obtain ⟨q0, q1, q2, q3⟩ := fSE.out wS h; clear h; go_simp; try rfl
    case qE9 => exact fun _ _ _ h => h
    dsimp only [Act.put]
    try simp only [puts]
    refine wpTx_take (v := ?vE10) rfl (by kernel_rfl) ?qE10 rfl hS1 ?yE10 ?rE10
    case yE10 => intro wS h; obtain ⟨q0, q1, q2, q3⟩ := fSE.out wS h; clear h; go_simp; try rfl
    case qE10 => exact fun _ _ _ h => h
    dsimp only [Act.put]
    try simp only [puts]
    refine wpTx_take (v := ?vE11) rfl (by kernel_rfl) ?qE11 rfl hS1 ?yE11 ?rE11
    case yE11 => intro wS h; obtain ⟨q0, q1, q2, q3⟩ := fSE.out wS h; clear h; go_simp; try rfl
    case qE11 => exact fun _ _ _ h => h
    dsimp only [Act.put]
    try simp only [puts]
    refine wpTx_take (v := ?vE12) rfl (by kernel_rfl) ?qE12 rfl hS1 ?yE12 ?rE12
    case yE12 => intro wS h; obtain ⟨q0, q1, q2, q3⟩ := fSE.out wS h; clear h; go_simp; try rfl
    case qE12 => exact fun _ _ _ h => h
    dsimp only [Act.put]
    try simp only [puts]
    refine wpTx_take (v := ?vE13) rfl (by kernel_rfl) ?qE13 rfl hS1 ?yE13 ?rE13
    case yE13 => intro wS h; obtain ⟨q0, q1, q2, q3⟩ := fSE.out wS h; clear h; go_simp; try rfl
    case qE13 => exact fun _ _ _ h => h
    dsimp only [Act.put]
    try simp only [puts]
    try clear fSE
    refine wpTx_step (o := ?oE14) (rest := ?rsE14) ?hoE14 ?hrE14 ?stE14
    case hoE14 => rfl
    case hrE14 => kernel_rfl
    case' stE14 =>
    intro KS hKS
    go_simp
    refine HMT.out.mono ?_
    rintro en w2 ⟨hB2, v5, rfl, hM1⟩
    obtain ⟨a5, c5, hv5⟩ := owns_len hM1
    subst hv5
    have hSW := hS1.trans hB2
    refine hKS.out _ _ (fun _ => hSW) ?_
    clear hKS KS HMT
    refine wpTx_step (o := ?oE15) (rest := ?rsE15) ?hoE15 ?hrE15 ?stE15
    case hoE15 => rfl
    case hrE15 => kernel_rfl
    case' stE15 =>
    intro KS hKS
    go_simp
    refine hKS.out _ _ (fun h => absurd h (by decide)) ?_
    clear hKS KS
    refine wpTx_done rfl (by kernel_rfl) ?_
    have hBl2 := hBl1.next hSW
    have hs2 := hs1.but hSW (fun _ _ h => h)
    have hl2 := hl1.but hSW (fun _ _ h => h)
    have hsa2 := hsa1.but hSW (fun _ _ h => h)
    have hla2 := hla1.but hSW (fun _ _ h => h)
    have hg2 := (hSW.block w.heap.size hgl (fun h => h)).trans hg1
    have hBw2 : But (fun k => k = bb ∨ k = gs ∨ k = gw) w w2 := hBw1.next hSW (fun _ _ h => h.elim)
    have hM1' : BtB w2 0 (.slice a5 (bothT im.classes sa sb).length c5) (bothT im.classes sa sb) := World.ownsRow.mono hM1 (Nat.zero_le _)
    have u0 := (hSW.cell (p := ⟨gs, j * 3, none⟩) hlt1.2.1 (fun h => h)).trans t0
    have u1 := (hSW.cell (p := ⟨gs, j * 3 + 1, none⟩) hlt1.2.1 (fun h => h)).trans t1
    have u2 := (hSW.cell (p := ⟨gs, j * 3 + 2, none⟩) hlt1.2.1 (fun h => h)).trans t2
    clear c0 c6 c7 c8 k0 k1 k2 t0 t1 t2 hBl1 hs1 hl1 hsa1 hla1 hg1 hBw1 hgl hlt1 hSW hB2 hS1 hM1
    obtain ⟨c0, c6, c7, c8⟩ := hBl2.cells
    obtain ⟨k0, k1, k2⟩ := row3 hg2
    have hgl := lt_of_block hg2
    have hlt1 := hBl2.lt
    have t0 := u0
    have t1 := u1
    have t2 := u2
    clear u0 u1 u2
    obtain ⟨M1, hM1e⟩ : ∃ M1, bothT im.classes sa sb = M1 := ⟨_, rfl⟩
    rw [hM1e] at hM1'
    rw [hM1e]
    have HM1e := hid hM1e
    clear hM1e
    go_wp2_with fail
    have hS2 : But (fun _ => False) w2 w2.drew := But.drew _ _
    have hmt := xmeetings_any b (im.classes.map toX) a4 al c4 cl la lb w2.drew (by rw [List.length_map]; have := hW.nc; omega) (HTX.out _ (hBl2.but.trans hS2)) (hla2.but hS2 (fun _ _ h => h)) (hl2.but hS2 (fun _ _ h => h)) (by rw [hza.2.2, hz.2.2]) (by have := hz.2.2; omega)
    rw [meets_both hW.cls hW.nc hza.2.1 hz.2.1] at hmt
    have HMT := hid hmt
    clear hmt
    refine wpTx_begin (But (fun _ => False) w2) 15 (by kernel_rfl) ?_
    have fSG := hid (fun wS (h : (But (fun _ => False) w2) wS) => (And.intro ((h.cell (p := ⟨bb, 0, none⟩) hlt1.1 (fun h => h)).trans c0) (And.intro ((h.cell (p := ⟨bb, 6, none⟩) hlt1.1 (fun h => h)).trans c6) (And.intro ((h.cell (p := ⟨gs, j * 3 + 2, none⟩) hlt1.2.1 (fun h => h)).trans t2) ((h.cell (p := ⟨w.heap.size, 2, none⟩) hgl (fun h => h)).trans k2)))))
    refine wpTx_take (v := ?vG0) rfl (by kernel_rfl) ?qG0 rfl hS2 ?yG0 ?rG0
    case yG0 => intro wS h; obtain ⟨q0, q1, q2, q3⟩ := fSG.out wS h; clear h; go_simp; try rfl
    case qG0 => exact fun _ _ _ h => h
    dsimp only [Act.put]
    try simp only [puts]
    refine wpTx_take (v := ?vG1) rfl (by kernel_rfl) ?qG1 rfl hS2 ?yG1 ?rG1
    case yG1 => intro wS h; obtain ⟨q0, q1, q2, q3⟩ := fSG.out wS h; clear h; go_simp; try rfl
    case qG1 => exact fun _ _ _ h => h
    dsimp only [Act.put]
    try simp only [puts]
    refine wpTx_take (v := ?vG2) rfl (by kernel_rfl) ?qG2 rfl hS2 ?yG2 ?rG2
    case yG2 => intro wS h; obtain ⟨q0, q1, q2, q3⟩ := fSG.out wS h; clear h; go_simp; try rfl
    case qG2 => exact fun _ _ _ h => h
    dsimp only [Act.put]
    try simp only [puts]
    refine wpTx_take (v := ?vG3) rfl (by kernel_rfl) ?qG3 rfl hS2 ?yG3 ?rG3
    case yG3 => intro wS h; obtain ⟨q0, q1, q2, q3⟩ := fSG.out wS h; clear h; go_simp; try rfl
    case qG3 => exact fun _ _ _ h => h
    dsimp only [Act.put]
    try simp only [puts]
    refine wpTx_take (v := ?vG4) rfl (by kernel_rfl) ?qG4 rfl hS2 ?yG4 ?rG4
    case yG4 => intro wS h; obtain ⟨q0, q1, q2, q3⟩ := fSG.out wS h; clear h; go_simp; try rfl
    case qG4 => exact fun _ _ _ h => h
    dsimp only [Act.put]
    try simp only [puts]
    refine wpTx_take (v := ?vG5) rfl (by kernel_rfl) ?qG5 rfl hS2 ?yG5 ?rG5
    case yG5 => intro wS h; obtain ⟨q0, q1, q2, q3⟩ := fSG.out wS h; clear h; go_simp; try rfl
    case qG5 => exact fun _ _ _ h => h
    dsimp only [Act.put]
    try simp only [puts]
    refine wpTx_take (v := ?vG6) rfl (by kernel_rfl) ?qG6 rfl hS2 ?yG6 ?rG6
    case yG6 => intro wS h; obtain ⟨q0, q1, q2, q3⟩ := fSG.out wS h; clear h; go_simp; try rfl
    case qG6 => exact fun _ _ _ h => h
    dsimp only [Act.put]
    try simp only [puts]
    refine wpTx_take (v := ?vG7) rfl (by kernel_rfl) ?qG7 rfl hS2 ?yG7 ?rG7
    case yG7 => intro wS h; obtain ⟨q0, q1, q2, q3⟩ := fSG.out wS h; clear h; go_simp; try rfl
    case qG7 => exact fun _ _ _ h => h
    dsimp only [Act.put]
    try simp only [puts]
    refine wpTx_take (v := ?vG8) rfl (by kernel_rfl) ?qG8 rfl hS2 ?yG8 ?rG8
    case yG8 => intro wS h; obtain ⟨q0, q1, q2, q3⟩ := fSG.out wS h; clear h; go_simp; try rfl
    case qG8 => exact fun _ _ _ h => h
    dsimp only [Act.put]
    try simp only [puts]
    refine wpTx_take (v := ?vG9) rfl (by kernel_rfl) ?qG9 rfl hS2 ?yG9 ?rG9
    case yG9 => intro wS h; obtain ⟨q0, q1, q2, q3⟩ := fSG.out wS h; clear h; go_simp; try rfl
    case qG9 => exact fun _ _ _ h => h
    dsimp only [Act.put]
    try simp only [puts]
    refine wpTx_take (v := ?vG10) rfl (by kernel_rfl) ?qG10 rfl hS2 ?yG10 ?rG10
    case yG10 => intro wS h; obtain ⟨q0, q1, q2, q3⟩ := fSG.out wS h; clear h; go_simp; try rfl
    case qG10 => exact fun _ _ _ h => h
    dsimp only [Act.put]
    try simp only [puts]
    refine wpTx_take (v := ?vG11) rfl (by kernel_rfl) ?qG11 rfl hS2 ?yG11 ?rG11
    case yG11 => intro wS h; obtain ⟨q0, q1, q2, q3⟩ := fSG.out wS h; clear h; go_simp; try rfl
    case qG11 => exact fun _ _ _ h => h
    dsimp only [Act.put]
    try simp only [puts]
    refine wpTx_take (v := ?vG12) rfl (by kernel_rfl) ?qG12 rfl hS2 ?yG12 ?rG12
    case yG12 => intro wS h; obtain ⟨q0, q1, q2, q3⟩ := fSG.out wS h; clear h; go_simp; try rfl
    case qG12 => exact fun _ _ _ h => h
    dsimp only [Act.put]
    try simp only [puts]
    refine wpTx_take (v := ?vG13) rfl (by kernel_rfl) ?qG13 rfl hS2 ?yG13 ?rG13
    case yG13 => intro wS h; obtain ⟨q0, q1, q2, q3⟩ := fSG.out wS h; clear h; go_simp; try rfl
    case qG13 => exact fun _ _ _ h => h
    dsimp only [Act.put]
    try simp only [puts]
    try clear fSG
    refine wpTx_step (o := ?oG14) (rest := ?rsG14) ?hoG14 ?hrG14 ?stG14
    case hoG14 => rfl
    case hrG14 => kernel_rfl
    case' stG14 =>
    intro KS hKS
    go_simp
    refine HMT.out.mono ?_
    rintro en w3 ⟨hB3, v6, rfl, hM2⟩
    obtain ⟨a6, c6', hv6⟩ := owns_len hM2
    subst hv6
    have hSW := hS2.trans hB3
    refine hKS.out _ _ (fun _ => hSW) ?_
    clear hKS KS HMT
    refine wpTx_step (o := ?oG15) (rest := ?rsG15) ?hoG15 ?hrG15 ?stG15
    case hoG15 => rfl
    case hrG15 => kernel_rfl
    case' stG15 =>
    intro KS hKS
    go_simp
    refine hKS.out _ _ (fun h => absurd h (by decide)) ?_
    clear hKS KS
    refine wpTx_done rfl (by kernel_rfl) ?_
    have hBl3 := hBl2.next hSW
    have hsa3 := hsa2.but hSW (fun _ _ h => h)
    have hla3 := hla2.but hSW (fun _ _ h => h)
    have hM13 := hM1'.but hSW (fun _ _ h => h)
    have hBw3 : But (fun k => k = bb ∨ k = gs ∨ k = gw) w w3 := hBw2.next hSW (fun _ _ h => h.elim)
    have hM2' : BtB w3 0 (.slice a6 (bothT im.classes la lb).length c6') (bothT im.classes la lb) := World.ownsRow.mono hM2 (Nat.zero_le _)
    have u0 := (hSW.cell (p := ⟨gs, j * 3, none⟩) hlt1.2.1 (fun h => h)).trans t0
    have u1 := (hSW.cell (p := ⟨gs, j * 3 + 1, none⟩) hlt1.2.1 (fun h => h)).trans t1
    have u2 := (hSW.cell (p := ⟨gs, j * 3 + 2, none⟩) hlt1.2.1 (fun h => h)).trans t2
    clear c0 c6 c7 c8 k0 k1 k2 t0 t1 t2 hBl2 hs2 hl2 hsa2 hla2 hg2 hBw2 hgl hlt1 hSW hB3 hS2 hM2 hM1'
    obtain ⟨c0, c6, c7, c8⟩ := hBl3.cells
    have hlt1 := hBl3.lt
    have t0 := u0
    have t1 := u1
    have t2 := u2
    clear u0 u1 u2
    obtain ⟨M2, hM2e⟩ : ∃ M2, bothT im.classes la lb = M2 := ⟨_, rfl⟩
    rw [hM2e] at hM2'
    rw [hM2e]
    have HM2e := hid hM2e
    clear hM2e
    have HSA1 := hid (xsame_any a5 a3 c5 c3 M1 sa w3 hM13 hsa3)
    have HSA2 := hid (xsame_any a6 a4 c6' c4 M2 la w3 hM2' hla3)
    by_cases hq1 : M1 = sa
    ·rw [show decide (M1 = sa) = true from by simp [hq1]] at HSA1
     by_cases hq2 : M2 = la
     ·rw [show decide (M2 = la) = true from by simp [hq2]] at HSA2
      have hres := rW_same (cs := im.classes) (wt := wt) (lb := lb) ho HLEN.out (by rw [HM1e.out, hq1]) (by rw [HM2e.out, hq2])
      have HRS := hid hres
      clear hres hq1 hq2
      go_wp2_with fail
      refine HSA1.out.mono ?_
      rintro en wx ⟨rfl, hwx⟩
      rw [hwx]
      clear hwx wx
      go_wp2_with fail
      refine HSA2.out.mono ?_
      rintro en wx ⟨rfl, hwx⟩
      rw [hwx]
      clear hwx wx
      go_wp2_with fail
      exact bodyPost_ret (v := .tuple #[]) (by simp [results, Tryz.results105, go_sem]) rfl ⟨rfl, hBw3, by rw [HRS.out]; simpa using hBl3⟩
     ·rw [show decide (M2 = la) = false from by simp [hq2]] at HSA2
      have HNE : Hid (¬ (M1 = sa ∧ M2 = la)) := hid (fun h => hq2 h.2)
      clear hq1 hq2
      have hres := rW_chg (cs := im.classes) (wt := wt) (lb := lb) ho HLEN.out (fun h => HNE.out ⟨HM1e.out ▸ h.1, HM2e.out ▸ h.2⟩)
      rw [HM1e.out, HM2e.out] at hres
      have HRS := hid hres
      have sz0 := hBl3.sfz (j * 3)
      have sz1 := hBl3.sfz (j * 3 + 1)
      have sz2 := hBl3.sfz (j * 3 + 2)
      have hBl4 := hBl3.lay hj hM13 hM2'
      have hB34 : But (fun k => k = bb ∨ k = gs ∨ k = gw) w3 (((w3.setCell ⟨gs, j * 3, none⟩ (.bool true)).setCell ⟨gs, j * 3 + 1, none⟩ (.slice a5 M1.length c5)).setCell ⟨gs, j * 3 + 2, none⟩ (.slice a6 M2.length c6')) := (((But.setB w3 gs _ _).trans (But.setB _ gs _ _)).trans (But.setB _ gs _ _)).mono (fun k _ h => Or.inr (Or.inl h))
      have hwc := hBl3.wcell hj
      have hnn := hBl3.ne
      have hBl5 := hBl4.wait j true
      have HBl5 := hid hBl5
      have HB34 := hid hB34
      obtain ⟨wc1, wf1⟩ := hwc
      clear hres hBl4 hB34 hBl5 hBl3
      go_wp2_with fail
      refine HSA1.out.mono ?_
      rintro en wx ⟨rfl, hwx⟩
      rw [hwx]
      clear hwx wx
      go_wp2_with fail
      refine HSA2.out.mono ?_
      rintro en wx ⟨rfl, hwx⟩
      rw [hwx]
      clear hwx wx
      go_wp2_with fail
      go_end0
      refine ⟨rfl, (hBw3.trans HB34.out).trans ((But.setB _ _ _ _).mono (fun k _ h => Or.inr (Or.inr h))), ?_⟩
      rw [HRS.out]
      simpa using HBl5.out
    ·rw [show decide (M1 = sa) = false from by simp [hq1]] at HSA1
     have HNE : Hid (¬ (M1 = sa ∧ M2 = la)) := hid (fun h => hq1 h.1)
     clear hq1
     have hres := rW_chg (cs := im.classes) (wt := wt) (lb := lb) ho HLEN.out (fun h => HNE.out ⟨HM1e.out ▸ h.1, HM2e.out ▸ h.2⟩)
     rw [HM1e.out, HM2e.out] at hres
     have HRS := hid hres
     have sz0 := hBl3.sfz (j * 3)
     have sz1 := hBl3.sfz (j * 3 + 1)
     have sz2 := hBl3.sfz (j * 3 + 2)
     have hBl4 := hBl3.lay hj hM13 hM2'
     have hB34 : But (fun k => k = bb ∨ k = gs ∨ k = gw) w3 (((w3.setCell ⟨gs, j * 3, none⟩ (.bool true)).setCell ⟨gs, j * 3 + 1, none⟩ (.slice a5 M1.length c5)).setCell ⟨gs, j * 3 + 2, none⟩ (.slice a6 M2.length c6')) := (((But.setB w3 gs _ _).trans (But.setB _ gs _ _)).trans (But.setB _ gs _ _)).mono (fun k _ h => Or.inr (Or.inl h))
     have hwc := hBl3.wcell hj
     have hnn := hBl3.ne
     have hBl5 := hBl4.wait j true
     have HBl5 := hid hBl5
     have HB34 := hid hB34
     obtain ⟨wc1, wf1⟩ := hwc
     clear hres hBl4 hB34 hBl5 hBl3
     go_wp2_with fail
     refine HSA1.out.mono ?_
     rintro en wx ⟨rfl, hwx⟩
     rw [hwx]
     clear hwx wx
     go_wp2_with fail
     go_end0
     refine ⟨rfl, (hBw3.trans HB34.out).trans ((But.setB _ _ _ _).mono (fun k _ h => Or.inr (Or.inr h))), ?_⟩
     rw [HRS.out]
     simpa using HBl5.out
   ·rw [rW_len ho hlen]
    simp only [Bool.or_true]
    have hlI : ((sa.length : Int) == (sb.length : Int)) = false := by rw [beq_eq_false_iff_ne]; omega
    have hlI' : ((sa.length : Int) != (sb.length : Int)) = true := by simp [bne, hlI]
    have hlI2 : ¬ (sa.length : Int) = (sb.length : Int) := by omega
    go_enter Tryz.func105, Tryz.ntmps105
    go_wp2_with fail
    revert hBW hgW hBl hsW hlW hW1 wc1 wf1 sz0 sz1 sz2 c0 c6 c7 c8 k0 k1 k2 hgl t0 t1 t2 hsa hla
    generalize (w.alloc (.cells #[.bool true, .slice aa sb.length ca, .slice al lb.length cl] 117)) = W
    intro hBW hgW hBl hsW hlW hW1 wc1 wf1 sz0 sz1 sz2 c0 c6 c7 c8 k0 k1 k2 hgl t0 t1 t2 hsa hla
    have hltW := hBl.lt
    have hS0 : But (fun _ => False) W W.drew := But.drew _ _
    refine wpTx_begin (But (fun _ => False) W) 13 (by kernel_rfl) ?_
    have fSD := hid (fun wS (h : (But (fun _ => False) W) wS) => (And.intro ((h.cell (p := ⟨bb, 6, none⟩) hltW.1 (fun h => h)).trans c6) (And.intro ((h.cell (p := ⟨gs, j * 3 + 1, none⟩) hltW.2.1 (fun h => h)).trans t1) ((h.cell (p := ⟨w.heap.size, 1, none⟩) hgl (fun h => h)).trans k1))))
    refine wpTx_take (v := ?vD0) rfl (by kernel_rfl) ?qD0 rfl hS0 ?yD0 ?rD0
    case yD0 => intro wS h; obtain ⟨q0, q1, q2⟩ := fSD.out wS h; clear h; go_simp; try rfl
    case qD0 => exact fun _ _ _ h => h
    dsimp only [Act.put]
    try simp only [puts]
    refine wpTx_take (v := ?vD1) rfl (by kernel_rfl) ?qD1 rfl hS0 ?yD1 ?rD1
    case yD1 => intro wS h; obtain ⟨q0, q1, q2⟩ := fSD.out wS h; clear h; go_simp; try rfl
    case qD1 => exact fun _ _ _ h => h
    dsimp only [Act.put]
    try simp only [puts]
    refine wpTx_take (v := ?vD2) rfl (by kernel_rfl) ?qD2 rfl hS0 ?yD2 ?rD2
    case yD2 => intro wS h; obtain ⟨q0, q1, q2⟩ := fSD.out wS h; clear h; go_simp; try rfl
    case qD2 => exact fun _ _ _ h => h
    dsimp only [Act.put]
    try simp only [puts]
    refine wpTx_take (v := ?vD3) rfl (by kernel_rfl) ?qD3 rfl hS0 ?yD3 ?rD3
    case yD3 => intro wS h; obtain ⟨q0, q1, q2⟩ := fSD.out wS h; clear h; go_simp; try rfl
    case qD3 => exact fun _ _ _ h => h
    dsimp only [Act.put]
    try simp only [puts]
    refine wpTx_take (v := ?vD4) rfl (by kernel_rfl) ?qD4 rfl hS0 ?yD4 ?rD4
    case yD4 => intro wS h; obtain ⟨q0, q1, q2⟩ := fSD.out wS h; clear h; go_simp; try rfl
    case qD4 => exact fun _ _ _ h => h
    dsimp only [Act.put]
    try simp only [puts]
    refine wpTx_take (v := ?vD5) rfl (by kernel_rfl) ?qD5 rfl hS0 ?yD5 ?rD5
    case yD5 => intro wS h; obtain ⟨q0, q1, q2⟩ := fSD.out wS h; clear h; go_simp; try rfl
    case qD5 => exact fun _ _ _ h => h
    dsimp only [Act.put]
    try simp only [puts]
    refine wpTx_take (v := ?vD6) rfl (by kernel_rfl) ?qD6 rfl hS0 ?yD6 ?rD6
    case yD6 => intro wS h; obtain ⟨q0, q1, q2⟩ := fSD.out wS h; clear h; go_simp; try rfl
    case qD6 => exact fun _ _ _ h => h
    dsimp only [Act.put]
    try simp only [puts]
    refine wpTx_take (v := ?vD7) rfl (by kernel_rfl) ?qD7 rfl hS0 ?yD7 ?rD7
    case yD7 => intro wS h; obtain ⟨q0, q1, q2⟩ := fSD.out wS h; clear h; go_simp; try rfl
    case qD7 => exact fun _ _ _ h => h
    dsimp only [Act.put]
    try simp only [puts]
    refine wpTx_take (v := ?vD8) rfl (by kernel_rfl) ?qD8 rfl hS0 ?yD8 ?rD8
    case yD8 => intro wS h; obtain ⟨q0, q1, q2⟩ := fSD.out wS h; clear h; go_simp; try rfl
    case qD8 => exact fun _ _ _ h => h
    dsimp only [Act.put]
    try simp only [puts]
    refine wpTx_take (v := ?vD9) rfl (by kernel_rfl) ?qD9 rfl hS0 ?yD9 ?rD9
    case yD9 => intro wS h; obtain ⟨q0, q1, q2⟩ := fSD.out wS h; clear h; go_simp; try rfl
    case qD9 => exact fun _ _ _ h => h
    dsimp only [Act.put]
    try simp only [puts]
    refine wpTx_take (v := ?vD10) rfl (by kernel_rfl) ?qD10 rfl hS0 ?yD10 ?rD10
    case yD10 => intro wS h; obtain ⟨q0, q1, q2⟩ := fSD.out wS h; clear h; go_simp; try rfl
    case qD10 => exact fun _ _ _ h => h
    dsimp only [Act.put]
    try simp only [puts]
    refine wpTx_take (v := ?vD11) rfl (by kernel_rfl) ?qD11 rfl hS0 ?yD11 ?rD11
    case yD11 => intro wS h; obtain ⟨q0, q1, q2⟩ := fSD.out wS h; clear h; go_simp; try rfl
    case qD11 => exact fun _ _ _ h => h
    dsimp only [Act.put]
    try simp only [puts]
    refine wpTx_take (v := ?vD12) rfl (by kernel_rfl) ?qD12 rfl hS0 ?yD12 ?rD12
    case yD12 => intro wS h; obtain ⟨q0, q1, q2⟩ := fSD.out wS h; clear h; go_simp; try rfl
    case qD12 => exact fun _ _ _ h => h
    dsimp only [Act.put]
    try simp only [puts]
    try clear fSD
    refine wpTx_done rfl (by kernel_rfl) ?_
    have hBl1 := hBl.next hS0
    have hs1 := hsW.but hS0 (fun _ _ h => h)
    have hl1 := hlW.but hS0 (fun _ _ h => h)
    have hsa1 := hsa.but hS0 (fun _ _ h => h)
    have hla1 := hla.but hS0 (fun _ _ h => h)
    have hg1 := (hS0.block w.heap.size hgl (fun h => h)).trans hgW
    have hBw1 : But (fun k => k = bb ∨ k = gs ∨ k = gw) w W.drew := hW1.next hS0 (fun _ _ h => h.elim)
    have u0 := (hS0.cell (p := ⟨gs, j * 3, none⟩) hltW.2.1 (fun h => h)).trans t0
    have u1 := (hS0.cell (p := ⟨gs, j * 3 + 1, none⟩) hltW.2.1 (fun h => h)).trans t1
    have u2 := (hS0.cell (p := ⟨gs, j * 3 + 2, none⟩) hltW.2.1 (fun h => h)).trans t2
    clear wc1 wf1 sz0 sz1 sz2 c0 c6 c7 c8 k0 k1 k2 t0 t1 t2 hsa hla hBl hsW hlW hgW hBW hW1 hgl hltW hB
    revert hBl1 hs1 hl1 hsa1 hla1 hg1 hBw1 u0 u1 u2
    generalize W.drew = w1
    intro hBl1 hs1 hl1 hsa1 hla1 hg1 hBw1 t0 t1 t2
    clear hS0
    obtain ⟨c0, c6, c7, c8⟩ := hBl1.cells
    have f8 := hBl1.fz 8
    go_wp2_with fail
    exact bodyPost_ret (v := .tuple #[]) (by simp [results, Tryz.results105, go_sem]) rfl ⟨rfl, hBw1.trans ((But.setB _ _ _ _).mono (fun k _ h => Or.inl h)), hBl1.fail⟩
 ·have hjI : ¬ (j : Int) < (tab.length : Int) := by omega
  have hj0 : ¬ (j : Int) < 0 := by omega
  rw [rW_out (by omega)]
  simp only [Bool.or_true]
  obtain ⟨c0, c6, c7, c8⟩ := hBl.cells
  have f8 := hBl.fz 8
  have HBl := hid hBl
  have HB := hid hB
  clear hgW hB
  go_enter Tryz.func105, Tryz.ntmps105
  go_wp2_with fail
  exact bodyPost_ret (v := .tuple #[]) (by simp [results, Tryz.results105, go_sem]) rfl ⟨rfl, ((But.setB _ _ _ _).mono (fun k _ h => Or.inl h)).trans (But.alloc _ _ _), HB.out.fail.next (But.alloc _ _ _)⟩
end Go.Proofs.YtpfkkmacakjmbaaGreatDoor
