import Derived.Test.YtmfbojnnoonidaaGreatDoorP16
import Derived.Test.YtmfbojnnoonidaaGreatDoorP01
/- The state behind an instruction, as the program says it: one list of what is asked for. -/
namespace Go.Proofs.YtmfbojnnoonidaaGreatDoor
open Go Sp
set_option linter.unusedSimpArgs false
set_option linter.unusedVariables false

def takesT (cs : List Cls) (gs : List Sig) (b : Bod) (x : Ins) : List UInt8 :=
  if x.op.toNat = 115 ∨ x.op.toNat = 100 then [45] else if x.op.toNat = 101 then [38, 38] else if x.op.toNat = 120 then [38] else popsT cs gs b x
def suitsT (cs : List Cls) (a c : UInt8) : Bool := if c.toNat = 38 then isR a else subT cs a c
def suitT (cs : List Cls) (st asked : List UInt8) : Bool := decide (asked.length ≤ st.length) && (List.range asked.length).all fun i => suitsT cs (st.getD (st.length - asked.length + i) 0) (asked.getD i 0)
def laysT (cs : List Cls) (gs : List Sig) (x : Ins) (lo : List UInt8) : List UInt8 := if x.op.toNat = 108 then [lo.getD x.b 0] else pushT cs gs x

def behindT (cs : List Cls) (gs : List Sig) (b : Bod) (x : Ins) (st lo : List UInt8) : Option (List UInt8 × List UInt8) :=
  if suitT cs st (takesT cs gs b x) = false ∨ (x.op.toNat = 108 ∧ (lo.getD x.b 0).toNat = 45) then none else
  some (st.take (st.length - (takesT cs gs b x).length) ++ laysT cs gs x lo, if x.op.toNat = 115 then lo.set x.b (st.getD (st.length - 1) 0) else lo)

theorem suit1 {cs : List Cls} {st : List UInt8} {c : UInt8} : suitT cs st [c] = (decide (1 ≤ st.length) && suitsT cs (st.getD (st.length - 1) 0) c) := by
  simp [suitT, List.range_succ]
theorem suit2 {cs : List Cls} {st : List UInt8} {c d : UInt8} : suitT cs st [c, d] = (decide (2 ≤ st.length) && (suitsT cs (st.getD (st.length - 2) 0) c && suitsT cs (st.getD (st.length - 2 + 1) 0) d)) := by
  simp [suitT, List.range_succ]

/-- No letter of a class, nor 'i', is the sign that asks for any reference. -/
theorem suit_fits {cs : List Cls} {st wa : List UInt8} (h : ∀ c ∈ wa, c.toNat ≠ 38) : suitT cs st wa = fitsT cs st wa := by
  unfold suitT fitsT
  congr 1
  rw [Bool.eq_iff_iff]
  simp only [List.all_eq_true, List.mem_range]
  have key : ∀ i, i < wa.length → suitsT cs (st.getD (st.length - wa.length + i) 0) (wa.getD i 0) = subT cs (st.getD (st.length - wa.length + i) 0) (wa.getD i 0) := by
    intro i hi
    unfold suitsT
    rw [if_neg]
    have : wa.getD i 0 = wa[i] := by simp [List.getD, hi]
    rw [this]
    exact h _ (List.getElem_mem hi)
  exact ⟨fun hh i hi => by rw [← key i hi]; exact hh i hi, fun hh i hi => by rw [key i hi]; exact hh i hi⟩

theorem effT_behind {cs : List Cls} {gs : List Sig} {b : Bod} {x : Ins} {st lo : List UInt8} (hp : ∀ c ∈ popsT cs gs b x, c.toNat ≠ 38) : effT cs gs b x st lo = behindT cs gs b x st lo := by
  have top : ∀ a : UInt8, suitsT cs a 45 = true := fun a => by unfold suitsT; rw [if_neg (by decide)]; exact subT_iff.2 (Or.inr (Or.inl rfl))
  have ref : ∀ a : UInt8, suitsT cs a 38 = isR a := fun a => by unfold suitsT; rw [if_pos (by decide)]
  unfold effT behindT takesT laysT
  by_cases h115 : x.op.toNat = 115
  · rw [if_pos (Or.inl h115), if_pos (Or.inl h115), suit1, top, Bool.and_true]
    simp only [h115, looseT]
    by_cases hl : st.length < 1
    · simp [hl]
    · have : 1 ≤ st.length := by omega
      simp [this, show ¬ st.length < 1 from hl]
  by_cases h100 : x.op.toNat = 100
  · rw [if_pos (Or.inr (Or.inl h100)), if_pos (Or.inr h100), suit1, top, Bool.and_true]
    simp only [h100, looseT]
    by_cases hl : st.length < 1
    · simp [hl]
    · have : 1 ≤ st.length := by omega
      simp [this, show ¬ st.length < 1 from hl]
  have hsd : ¬ (x.op.toNat = 115 ∨ x.op.toNat = 100) := by omega
  by_cases h101 : x.op.toNat = 101
  · rw [if_pos (Or.inr (Or.inr (Or.inl h101))), if_neg hsd, if_pos h101, suit2, ref, ref]
    simp only [h101, looseT, if_true]
    by_cases hl : st.length < 2
    · simp [hl, show ¬ 2 ≤ st.length by omega]
    · have h2 : 2 ≤ st.length := by omega
      have e : st.length - 2 + 1 = st.length - 1 := by omega
      rw [e]
      cases h3 : isR (st.getD (st.length - 1) 0) <;> cases h4 : isR (st.getD (st.length - 2) 0) <;> simp [hl, h2, h3, h4]
  by_cases h120 : x.op.toNat = 120
  · rw [if_pos (Or.inr (Or.inr (Or.inr h120))), if_neg hsd, if_neg h101, if_pos h120, suit1, ref]
    simp only [h120, looseT]
    by_cases hl : st.length < 1
    · simp [hl, show ¬ 1 ≤ st.length by omega]
    · have h2 : 1 ≤ st.length := by omega
      cases h3 : isR (st.getD (st.length - 1) 0) <;> simp [hl, h2, h3]
  have hlo : ¬ (x.op.toNat = 115 ∨ x.op.toNat = 100 ∨ x.op.toNat = 101 ∨ x.op.toNat = 120) := by omega
  rw [if_neg hlo, if_neg hsd, if_neg h101, if_neg h120, suit_fits hp]
  by_cases h108 : x.op.toNat = 108
  · have hpo : popsT cs gs b x = [] := by
      unfold popsT
      simp [h108, arith]
    rw [if_pos h108, hpo]
    simp only [h108, if_true, true_and]
    have hf : fitsT cs st [] = true := by simp [fitsT]
    rw [hf]
    simp
  · rw [if_neg h108, if_neg h108]
    simp only [h108, false_and, or_false]
    cases fitsT cs st (popsT cs gs b x) <;> simp [h115]

theorem popsT_ok {im : Img} (hW : WfI im) {bd : Bod} (hbd : WfB im.classes im.sigs bd) {x : Ins} (hx : WfX im.classes im.sigs.length bd.locals.length x) : ∀ c ∈ popsT im.classes im.sigs bd x, okT im.classes.length c = true := by
  intro c hc
  have hcl : ∀ a, a < im.classes.length → okT im.classes.length (clsT a) = true := by
    intro a ha
    have := hW.nc
    rw [okT_iff]
    right; left
    have h1 : (clsT a).toNat = 65 + a := by simp [clsT]; omega
    omega
  have h105 : okT im.classes.length 105 = true := by simp [okT_iff]
  have hfld : x.op.toNat = 112 → okT im.classes.length (fieldT im.classes x.a x.b) = true := by
    intro h
    have h1 := hx.cls (by omega)
    have h2 := hx.fld (by omega)
    obtain ⟨cl, hcl⟩ : ∃ cl, im.classes[x.a]? = some cl := ⟨_, List.getElem?_eq_getElem h1⟩
    unfold fieldT
    rw [hcl]
    simp only [nFields, hcl] at h2
    simp only [Option.map_some, Option.getD_some] at h2 ⊢
    have hf := hW.cls x.a cl hcl
    have hm : cl.fields.getD x.b 0 ∈ cl.fields := by
      have : cl.fields.getD x.b 0 = cl.fields[x.b]'(by simpa using h2) := by simp [List.getD, h2]
      rw [this]; exact List.getElem_mem _
    exact isTy_ok (isTy_mono (by omega) (hf.2.2.2 _ hm))
  have harg : x.op.toNat = 99 → okT im.classes.length (argT im.sigs x.b) = true := by
    intro h
    obtain ⟨g, hg⟩ : ∃ g, im.sigs[x.b]? = some g := ⟨_, List.getElem?_eq_getElem (hx.sig h)⟩
    unfold argT
    rw [hg]
    exact isTy_ok (hW.sig g (List.mem_of_getElem? hg)).1
  have hret : ¬ bd.cls < 0 → okT im.classes.length (retT im.sigs bd.meth.toNat) = true := by
    intro h
    rcases hbd.cls with h1 | h1
    · omega
    · obtain ⟨g, hg⟩ : ∃ g, im.sigs[bd.meth.toNat]? = some g := ⟨_, List.getElem?_eq_getElem (by omega)⟩
      unfold retT
      rw [hg]
      exact isTy_ok (hW.sig g (List.mem_of_getElem? hg)).2
  unfold popsT at hc
  split at hc
  · simp at hc; subst hc; exact h105
  split at hc
  · simp at hc; subst hc; exact h105
  split at hc
  · rename_i h; simp at hc; subst hc; exact hcl _ (hx.cls (by omega))
  split at hc
  · rename_i h
    simp at hc
    rcases hc with rfl | rfl
    · exact hcl _ (hx.cls (by omega))
    · exact hfld h
  split at hc
  · rename_i h
    simp at hc
    rcases hc with rfl | rfl
    · exact hcl _ (hx.cls (by omega))
    · exact harg h
  split at hc
  · split at hc
    · simp at hc; subst hc; exact h105
    · rename_i h; simp at hc; subst hc; exact hret h
  · simp at hc

theorem effT_prog {im : Img} (hW : WfI im) {bd : Bod} (hbd : WfB im.classes im.sigs bd) {x : Ins} (hx : WfX im.classes im.sigs.length bd.locals.length x) (st lo : List UInt8) : effT im.classes im.sigs bd x st lo = behindT im.classes im.sigs bd x st lo :=
  effT_behind (fun c hc => by have := popsT_ok hW hbd hx c hc; rw [okT_iff] at this; have := hW.nc; omega)
end Go.Proofs.YtmfbojnnoonidaaGreatDoor
/- The program's reader: its smallest steps. -/
namespace Go.Proofs.YtmfbojnnoonidaaGreatDoor
open Go Go.RowKit Sp
set_option linter.unusedSimpArgs false
set_option linter.unusedVariables false

/-- The program's reader lies in block b. -/
def XrB (w : World) (b : Nat) (s : ByteArray) (i : Nat) (bad : Bool) (v0 v1 v2 : Value) : Prop :=
  w.heap[b]? = some (.cells #[v0, v1, v2, .int .i64 i, .bool bad, .string s] 147)

section
variable {w : World} {b : Nat} {s : ByteArray} {i : Nat} {bad : Bool} {v0 v1 v2 : Value}
theorem XrB.lt (h : XrB w b s i bad v0 v1 v2) : b < w.heap.size := lt_of_block h
theorem XrB.c0 (h : XrB w b s i bad v0 v1 v2) : w.cell? ⟨b, 0, none⟩ = some v0 := by rw [cell_of_row w b 0 _ _ (0, 0) h]; rfl
theorem XrB.c1 (h : XrB w b s i bad v0 v1 v2) : w.cell? ⟨b, 1, none⟩ = some v1 := by rw [cell_of_row w b 1 _ _ (0, 0) h]; rfl
theorem XrB.c2 (h : XrB w b s i bad v0 v1 v2) : w.cell? ⟨b, 2, none⟩ = some v2 := by rw [cell_of_row w b 2 _ _ (0, 0) h]; rfl
theorem XrB.c3 (h : XrB w b s i bad v0 v1 v2) : w.cell? ⟨b, 3, none⟩ = some (.int .i64 i) := by rw [cell_of_row w b 3 _ _ (0, 0) h]; rfl
theorem XrB.c4 (h : XrB w b s i bad v0 v1 v2) : w.cell? ⟨b, 4, none⟩ = some (.bool bad) := by rw [cell_of_row w b 4 _ _ (0, 0) h]; rfl
theorem XrB.c5 (h : XrB w b s i bad v0 v1 v2) : w.cell? ⟨b, 5, none⟩ = some (.string s) := by rw [cell_of_row w b 5 _ _ (0, 0) h]; rfl
theorem XrB.fz (h : XrB w b s i bad v0 v1 v2) (j : Nat) : w.frozen? ⟨b, j, none⟩ = false := frozen_of_row w b j _ _ h
theorem XrB.but {F : Nat → Prop} {w' : World} (h : XrB w b s i bad v0 v1 v2) (hb : But F w w') (hf : ¬ F b) : XrB w' b s i bad v0 v1 v2 := (hb.block b h.lt hf).trans h
theorem XrB.set0 (h : XrB w b s i bad v0 v1 v2) (u : Value) : XrB (w.setCell ⟨b, 0, none⟩ u) b s i bad u v1 v2 := heap_setCell_same w b 0 _ _ _ h
theorem XrB.set1 (h : XrB w b s i bad v0 v1 v2) (u : Value) : XrB (w.setCell ⟨b, 1, none⟩ u) b s i bad v0 u v2 := heap_setCell_same w b 1 _ _ _ h
theorem XrB.set2 (h : XrB w b s i bad v0 v1 v2) (u : Value) : XrB (w.setCell ⟨b, 2, none⟩ u) b s i bad v0 v1 u := heap_setCell_same w b 2 _ _ _ h
theorem XrB.set3 (h : XrB w b s i bad v0 v1 v2) (j : Nat) : XrB (w.setCell ⟨b, 3, none⟩ (.int .i64 j)) b s j bad v0 v1 v2 := heap_setCell_same w b 3 _ _ _ h
theorem XrB.set4 (h : XrB w b s i bad v0 v1 v2) (d : Bool) : XrB (w.setCell ⟨b, 4, none⟩ (.bool d)) b s i d v0 v1 v2 := heap_setCell_same w b 4 _ _ _ h
theorem XrB.drewN (h : XrB w b s i bad v0 v1 v2) (n : Nat) : XrB (w.drewN n) b s i bad v0 v1 v2 := h
end

section
variable (b : Nat) (s : ByteArray) (i : Nat) (bad : Bool) (v0 v1 v2 : Value) (w : World)

set_option maxHeartbeats 400000 in
theorem xnext_any (hR : XrB w b s i bad v0 v1 v2) :
    Calls Tryz.prog 146 #[.pointer (some ⟨b, 0, none⟩)] w fun e w' => e = .returned (.int .u8 (pk s i).toNat) ∧ ∃ n, w' = w.drewN n := by
  have h3 := hR.c3
  have h5 := hR.c5
  clear hR
  have h0 : ¬ (i : Int) < 0 := by omega
  by_cases hi : (i : Int) < (s.size : Int)
  · have hp : pk s i = s[i]'(by omega) := by unfold pk; rw [dif_pos (by omega)]
    rw [hp]; clear hp
    go_enter Tryz.func146, Tryz.ntmps146
    go_wp2
    go_quiet (fail)
    go_wp2
    go_quiet (fail)
    go_wp2
    go_ret
    exact ⟨rfl, _, World.drewN_drewN _ _ _⟩
  · have hp : pk s i = 0 := by unfold pk; rw [dif_neg (by omega)]
    rw [hp]; clear hp
    go_enter Tryz.func146, Tryz.ntmps146
    go_wp2
    go_quiet (fail)
    go_wp2
    go_ret
    exact ⟨rfl, _, rfl⟩

set_option maxHeartbeats 400000 in
theorem xrefuse_bad (j : Nat) (hR : XrB w b s i true v0 v1 v2) :
    Calls Tryz.prog 109 #[.pointer (some ⟨b, 0, none⟩), .int .i64 j] w fun e w' => e = .returned (.tuple #[]) ∧ But (· = b) w w' ∧ XrB w' b s i true v0 v1 v2 := by
  have h4 := hR.c4
  go_enter Tryz.func109, Tryz.ntmps109
  go_wp2
  go_end0
  exact ⟨rfl, But.refl _ _, hR⟩

set_option maxHeartbeats 400000 in
theorem xrefuse_ok (j : Nat) (hR : XrB w b s i false v0 v1 v2) :
    Calls Tryz.prog 109 #[.pointer (some ⟨b, 0, none⟩), .int .i64 j] w fun e w' => e = .returned (.tuple #[]) ∧ But (· = b) w w' ∧ XrB w' b s j true v0 v1 v2 := by
  have h4 := hR.c4
  have h3 := hR.c3
  have f3 := hR.fz 3
  have f4 := hR.fz 4
  go_enter Tryz.func109, Tryz.ntmps109
  go_wp2
  go_end0
  exact ⟨rfl, (But.setB _ _ _ _).trans (But.setB _ _ _ _), (hR.set4 true).set3 j⟩

set_option maxHeartbeats 400000 in
theorem xbefore_any (c : UInt8) (hR : XrB w b s i bad v0 v1 v2) :
    Calls Tryz.prog 103 #[.pointer (some ⟨b, 0, none⟩), .int .u8 c.toNat] w fun e w' => e = .returned (.bool (!bad && !decide (pk s i = c))) ∧ ∃ n, w' = w.drewN n := by
  have h4 := hR.c4
  cases bad with
  | true =>
    go_enter Tryz.func103, Tryz.ntmps103
    go_wp2_with fail
    exact bodyPost_ret (v := .bool false) (by simp [results, Tryz.results103, go_sem]) rfl ⟨rfl, 0, rfl⟩
  | false =>
    by_cases hc : pk s i = c
    · have e : (((pk s i).toNat : Int) == (c.toNat : Int)) = true := by rw [hc]; simp
      have e' : (((pk s i).toNat : Int) != (c.toNat : Int)) = false := by simp [bne, e]
      have ev : (!false && !decide (pk s i = c)) = false := by simp [hc]
      rw [ev]
      clear ev hc
      go_enter Tryz.func103, Tryz.ntmps103
      go_wp2_with fail
      refine (xnext_any b s i false v0 v1 v2 _ hR).mono ?_
      rintro en w' ⟨rfl, n, rfl⟩
      go_wp2_with fail
      exact bodyPost_ret (v := .bool false) (by simp [results, Tryz.results103, go_sem, e, e']) rfl ⟨rfl, n, rfl⟩
    · have e : (((pk s i).toNat : Int) == (c.toNat : Int)) = false := by rw [beq_eq_false_iff_ne]; intro h; exact hc (UInt8.toNat_inj.1 (by omega))
      have e' : (((pk s i).toNat : Int) != (c.toNat : Int)) = true := by simp [bne, e]
      have ev : (!false && !decide (pk s i = c)) = true := by simp [hc]
      rw [ev]
      clear ev hc
      go_enter Tryz.func103, Tryz.ntmps103
      go_wp2_with fail
      refine (xnext_any b s i false v0 v1 v2 _ hR).mono ?_
      rintro en w' ⟨rfl, n, rfl⟩
      go_wp2_with fail
      exact bodyPost_ret (v := .bool true) (by simp [results, Tryz.results103, go_sem, e, e']) rfl ⟨rfl, n, rfl⟩

/-- What TakeByte leaves: the byte, the place, whether the reader has failed. -/
def tbP (s : ByteArray) (i : Nat) (bad : Bool) : UInt8 × Nat × Bool :=
  if bad = true ∨ s.size ≤ i then (0, i, true) else (pk s i, i + 1, false)

set_option maxHeartbeats 400000 in
theorem xtakeByte_any (hs : s.size ≤ 2000) (hR : XrB w b s i bad v0 v1 v2) :
    Calls Tryz.prog 114 #[.pointer (some ⟨b, 0, none⟩)] w fun e w' => e = .returned (.int .u8 (tbP s i bad).1.toNat) ∧ But (· = b) w w' ∧ XrB w' b s (tbP s i bad).2.1 (tbP s i bad).2.2 v0 v1 v2 := by
  have h3 := hR.c3
  have h4 := hR.c4
  have h5 := hR.c5
  have f3 := hR.fz 3
  have f4 := hR.fz 4
  have blt := hR.lt
  by_cases hi : (i : Int) < (s.size : Int)
  · cases bad with
    | true =>
      rw [show tbP s i true = (0, i, true) from by simp [tbP]]
      go_enter Tryz.func114, Tryz.ntmps114
      go_wp2
      go_quiet (fail)
      go_wp2
      go_ret
      exact ⟨rfl, But.drewN _ _ _, hR.drewN _⟩
    | false =>
      rw [show tbP s i false = (pk s i, i + 1, false) from by unfold tbP; rw [if_neg (by simp; omega)]]
      go_enter Tryz.func114, Tryz.ntmps114
      go_wp2
      go_quiet (fail)
      go_wp2_with fail
      refine (xnext_any b s i false v0 v1 v2 _ (hR.drewN _)).mono ?_
      rintro en w' ⟨rfl, n, rfl⟩
      go_wp2_with fail
      go_ret
      exact ⟨rfl, (But.drewN _ _ _).trans (But.setB _ _ _ _), by simpa using (hR.drewN _).set3 (i + 1)⟩
  · rw [show tbP s i bad = (0, i, true) from by unfold tbP; rw [if_pos (by right; omega)]]
    go_enter Tryz.func114, Tryz.ntmps114
    go_wp2
    go_quiet (fail)
    go_wp2
    go_ret
    exact ⟨rfl, (But.drewN _ _ _).trans (But.setB _ _ _ _), (hR.drewN _).set4 true⟩
end

def tkP (s : ByteArray) (c : UInt8) (i : Nat) (bad : Bool) : Nat × Bool := if bad = false ∧ pk s i = c then (i + 1, false) else (i, true)

section
variable (b : Nat) (s : ByteArray) (i : Nat) (bad : Bool) (v0 v1 v2 : Value) (w : World)

theorem tbP_zero {s : ByteArray} {i : Nat} {bad : Bool} (h : bad = true ∨ s.size ≤ i) : tbP s i bad = (0, i, true) := by unfold tbP; rw [if_pos h]
theorem tbP_ok {s : ByteArray} {i : Nat} (h : i < s.size) : tbP s i false = (pk s i, i + 1, false) := by unfold tbP; rw [if_neg (by simp; omega)]
theorem pk_end {s : ByteArray} {i : Nat} (h : s.size ≤ i) : pk s i = 0 := by unfold pk; rw [dif_neg (by omega)]

set_option maxHeartbeats 400000 in
theorem xtake_any (c : UInt8) (hc0 : 0 < c.toNat) (hs : s.size ≤ 2000) (hR : XrB w b s i bad v0 v1 v2) :
    Calls Tryz.prog 67 #[.pointer (some ⟨b, 0, none⟩), .int .u8 c.toNat] w fun e w' => e = .returned (.tuple #[]) ∧ But (· = b) w w' ∧ XrB w' b s (tkP s c i bad).1 (tkP s c i bad).2 v0 v1 v2 := by
  have h3 := hR.c3
  by_cases hz : bad = true ∨ s.size ≤ i
  · have htk : tkP s c i bad = (i, true) := by
      unfold tkP
      rw [if_neg]
      rintro ⟨h1, h2⟩
      rcases hz with h | h
      · rw [h] at h1; cases h1
      · rw [pk_end h] at h2; subst h2; simp at hc0
    rw [htk]
    have hb := xtakeByte_any b s i bad v0 v1 v2 w hs hR
    rw [tbP_zero hz] at hb
    have HB := hid hb
    clear hb htk
    have e : ((0 : Int) == (c.toNat : Int)) = false := by rw [beq_eq_false_iff_ne]; omega
    have e' : ((0 : Int) != (c.toNat : Int)) = true := by simp [bne, e]
    have e2 : ¬ ((0 : Int) = (c.toNat : Int)) := by omega
    go_enter Tryz.func67, Tryz.ntmps67
    go_wp2_with fail
    refine HB.out.mono ?_
    rintro en w1 ⟨rfl, hB1, hR1⟩
    go_wp2_with fail
    refine (xrefuse_bad b s i v0 v1 v2 w1 i hR1).mono ?_
    rintro en w2 ⟨rfl, hB2, hR2⟩
    go_wp2_with fail
    go_end0
    exact ⟨rfl, hB1.trans hB2, hR2⟩
  · have hz' := not_or.1 hz
    have hbf : bad = false := by simpa using hz'.1
    subst hbf
    have hb := xtakeByte_any b s i false v0 v1 v2 w hs hR
    rw [tbP_ok (by omega)] at hb
    have HB := hid hb
    clear hb
    by_cases hc : pk s i = c
    · rw [show tkP s c i false = (i + 1, false) from by unfold tkP; rw [if_pos ⟨rfl, hc⟩]]
      have e : (((pk s i).toNat : Int) == (c.toNat : Int)) = true := by rw [hc]; simp
      have e' : (((pk s i).toNat : Int) != (c.toNat : Int)) = false := by simp [bne, e]
      have e2 : (((pk s i).toNat : Int) = (c.toNat : Int)) := by rw [hc]
      have E2 := hid e2
      clear hc e2 hz hz'
      go_enter Tryz.func67, Tryz.ntmps67
      go_wp2_with fail
      refine HB.out.mono ?_
      rintro en w1 ⟨rfl, hB1, hR1⟩
      go_wp2_with fail
      go_end0
      exact ⟨rfl, hB1, hR1⟩
    · rw [show tkP s c i false = (i, true) from by unfold tkP; rw [if_neg (fun h => hc h.2)]]
      have e : (((pk s i).toNat : Int) == (c.toNat : Int)) = false := by rw [beq_eq_false_iff_ne]; intro h; exact hc (UInt8.toNat_inj.1 (by omega))
      have e' : (((pk s i).toNat : Int) != (c.toNat : Int)) = true := by simp [bne, e]
      have e2 : ¬ (((pk s i).toNat : Int) = (c.toNat : Int)) := by simpa using e
      clear hc hz hz'
      go_enter Tryz.func67, Tryz.ntmps67
      go_wp2_with fail
      refine HB.out.mono ?_
      rintro en w1 ⟨rfl, hB1, hR1⟩
      go_wp2_with fail
      refine (xrefuse_ok b s (i + 1) v0 v1 v2 w1 i hR1).mono ?_
      rintro en w2 ⟨rfl, hB2, hR2⟩
      go_wp2_with fail
      go_end0
      exact ⟨rfl, hB1.trans hB2, hR2⟩

def dgX (s : ByteArray) (n i : Nat) (bad : Bool) : Nat × Nat × Bool := if bad = false ∧ isDig n (pk s i) = true then ((pk s i).toNat - 48, i + 1, false) else (0, i, true)

set_option maxHeartbeats 800000 in
theorem xtakeDigit_any (n : Nat) (hn : n ≤ 100) (hs : s.size ≤ 2000) (hR : XrB w b s i bad v0 v1 v2) :
    Calls Tryz.prog 107 #[.pointer (some ⟨b, 0, none⟩), .int .i64 n] w fun e w' => e = .returned (.int .i64 (dgX s n i bad).1) ∧ But (· = b) w w' ∧ XrB w' b s (dgX s n i bad).2.1 (dgX s n i bad).2.2 v0 v1 v2 := by
  have h3 := hR.c3
  by_cases hz : bad = true ∨ s.size ≤ i
  · have htk : dgX s n i bad = (0, i, true) := by
      unfold dgX
      rw [if_neg]
      rintro ⟨h1, h2⟩
      rcases hz with h | h
      · rw [h] at h1; cases h1
      · rw [pk_end h] at h2; simp [isDig] at h2
    rw [htk]
    have hb := xtakeByte_any b s i bad v0 v1 v2 w hs hR
    rw [tbP_zero hz] at hb
    have HB := hid hb
    clear hb htk
    go_enter Tryz.func107, Tryz.ntmps107
    go_wp2_with fail
    refine HB.out.mono ?_
    rintro en w1 ⟨rfl, hB1, hR1⟩
    go_wp2_with fail
    refine (xrefuse_bad b s i v0 v1 v2 w1 i hR1).mono ?_
    rintro en w2 ⟨rfl, hB2, hR2⟩
    go_wp2_with fail
    go_ret
    exact ⟨rfl, hB1.trans hB2, hR2⟩
  · have hz' := not_or.1 hz
    have hbf : bad = false := by simpa using hz'.1
    subst hbf
    have hb := xtakeByte_any b s i false v0 v1 v2 w hs hR
    rw [tbP_ok (by omega)] at hb
    have HB := hid hb
    clear hb
    by_cases hd : isDig n (pk s i) = true
    · rw [show dgX s n i false = ((pk s i).toNat - 48, i + 1, false) from by unfold dgX; rw [if_pos ⟨rfl, hd⟩]]
      simp only [isDig, Bool.and_eq_true, decide_eq_true_eq] at hd
      revert HB
      generalize pk s i = c at *
      intro HB
      have a1 : ¬ ((c.toNat : Int) < 48) := by omega
      have a2 : ¬ (57 < (c.toNat : Int)) := by omega
      have hsub : IntKind.u8.wrap ((c.toNat : Int) - 48) = ((c.toNat - 48 : Nat) : Int) := by
        rw [IntWalk.u8_in _ (by omega)]; omega
      have a3 : ¬ ((n : Int) ≤ ((c.toNat - 48 : Nat) : Int)) := by omega
      clear hz hz' hd
      go_enter Tryz.func107, Tryz.ntmps107
      go_wp2_with fail
      refine HB.out.mono ?_
      rintro en w1 ⟨rfl, hB1, hR1⟩
      go_wp2_with fail
      go_ret
      exact ⟨rfl, hB1, hR1⟩
    · rw [show dgX s n i false = (0, i, true) from by unfold dgX; rw [if_neg (fun h => hd h.2)]]
      simp only [isDig, Bool.and_eq_true, decide_eq_true_eq] at hd
      revert HB
      generalize pk s i = c at *
      intro HB
      clear hz hz'
      by_cases a1 : (c.toNat : Int) < 48
      · clear hd
        go_enter Tryz.func107, Tryz.ntmps107
        go_wp2_with fail
        refine HB.out.mono ?_
        rintro en w1 ⟨rfl, hB1, hR1⟩
        go_wp2_with fail
        refine (xrefuse_ok b s (i + 1) v0 v1 v2 w1 i hR1).mono ?_
        rintro en w2 ⟨rfl, hB2, hR2⟩
        go_wp2_with fail
        go_ret
        exact ⟨rfl, hB1.trans hB2, hR2⟩
      · by_cases a2 : 57 < (c.toNat : Int)
        · clear hd
          go_enter Tryz.func107, Tryz.ntmps107
          go_wp2_with fail
          refine HB.out.mono ?_
          rintro en w1 ⟨rfl, hB1, hR1⟩
          go_wp2_with fail
          refine (xrefuse_ok b s (i + 1) v0 v1 v2 w1 i hR1).mono ?_
          rintro en w2 ⟨rfl, hB2, hR2⟩
          go_wp2_with fail
          go_ret
          exact ⟨rfl, hB1.trans hB2, hR2⟩
        · have hsub : IntKind.u8.wrap ((c.toNat : Int) - 48) = ((c.toNat - 48 : Nat) : Int) := by
            rw [IntWalk.u8_in _ (by omega)]; omega
          have a3 : (n : Int) ≤ ((c.toNat - 48 : Nat) : Int) := by omega
          clear hd
          go_enter Tryz.func107, Tryz.ntmps107
          go_wp2_with fail
          refine HB.out.mono ?_
          rintro en w1 ⟨rfl, hB1, hR1⟩
          go_wp2_with fail
          refine (xrefuse_ok b s (i + 1) v0 v1 v2 w1 i hR1).mono ?_
          rintro en w2 ⟨rfl, hB2, hR2⟩
          go_wp2_with fail
          go_ret
          exact ⟨rfl, hB1.trans hB2, hR2⟩
end
end Go.Proofs.YtmfbojnnoonidaaGreatDoor
namespace Go.Proofs.YtmfbojnnoonidaaGreatDoor
open Go Go.RowKit Sp
set_option linter.unusedSimpArgs false
set_option linter.unusedVariables false

def ltX (s : ByteArray) (n i : Nat) (bad : Bool) : UInt8 × Nat × Bool := if bad = false ∧ isLet n (pk s i) = true then (pk s i, i + 1, false) else (45, i, true)
def tyX (s : ByteArray) (n i : Nat) (bad : Bool) : UInt8 × Nat × Bool := if bad = false ∧ isTy n (pk s i) = true then (pk s i, i + 1, false) else (if (pk s i).toNat = 105 then 0 else 45, i, true)
def paX (s : ByteArray) (n i : Nat) (bad : Bool) : UInt8 × Nat × Bool := if bad = false ∧ ((pk s i).toNat = 45 ∨ isLet n (pk s i) = true) then (pk s i, i + 1, false) else (if (pk s i).toNat = 45 then 0 else 45, i, true)

section
variable (b : Nat) (s : ByteArray) (i : Nat) (bad : Bool) (v0 v1 v2 : Value) (w : World)

set_option maxHeartbeats 800000 in
theorem xletter_any (n : Nat) (hn : n ≤ 100) (hs : s.size ≤ 2000) (hR : XrB w b s i bad v0 v1 v2) :
    Calls Tryz.prog 150 #[.pointer (some ⟨b, 0, none⟩), .int .i64 n] w fun e w' => e = .returned (.int .u8 (ltX s n i bad).1.toNat) ∧ But (· = b) w w' ∧ XrB w' b s (ltX s n i bad).2.1 (ltX s n i bad).2.2 v0 v1 v2 := by
  have h3 := hR.c3
  by_cases hz : bad = true ∨ s.size ≤ i
  · have htk : ltX s n i bad = (45, i, true) := by
      unfold ltX
      rw [if_neg]
      rintro ⟨h1, h2⟩
      rcases hz with h | h
      · rw [h] at h1; cases h1
      · rw [pk_end h] at h2; simp [isLet] at h2
    rw [htk]
    have hb := xtakeByte_any b s i bad v0 v1 v2 w hs hR
    rw [tbP_zero hz] at hb
    have HB := hid hb
    clear hb htk
    go_enter Tryz.func150, Tryz.ntmps150
    go_wp2_with fail
    refine HB.out.mono ?_
    rintro en w1 ⟨rfl, hB1, hR1⟩
    go_wp2_with fail
    refine (xrefuse_bad b s i v0 v1 v2 w1 i hR1).mono ?_
    rintro en w2 ⟨rfl, hB2, hR2⟩
    go_wp2_with fail
    go_ret
    exact ⟨rfl, hB1.trans hB2, hR2⟩
  · have hz' := not_or.1 hz
    have hbf : bad = false := by simpa using hz'.1
    subst hbf
    have hb := xtakeByte_any b s i false v0 v1 v2 w hs hR
    rw [tbP_ok (by omega)] at hb
    have HB := hid hb
    clear hb
    by_cases hd : isLet n (pk s i) = true
    · rw [show ltX s n i false = (pk s i, i + 1, false) from by unfold ltX; rw [if_pos ⟨rfl, hd⟩]]
      simp only [isLet, Bool.and_eq_true, decide_eq_true_eq] at hd
      revert HB
      generalize pk s i = c at *
      intro HB
      have c255 : c.toNat < 256 := c.toNat_lt
      have a1 : ¬ ((c.toNat : Int) < 65) := by omega
      have hsub : IntKind.u8.wrap ((c.toNat : Int) - 65) = ((c.toNat - 65 : Nat) : Int) := by
        rw [IntWalk.u8_in _ (by omega)]; omega
      have a3 : ¬ ((n : Int) ≤ ((c.toNat - 65 : Nat) : Int)) := by omega
      clear hz hz' hd
      go_enter Tryz.func150, Tryz.ntmps150
      go_wp2_with fail
      refine HB.out.mono ?_
      rintro en w1 ⟨rfl, hB1, hR1⟩
      go_wp2_with fail
      go_ret
      exact ⟨rfl, hB1, hR1⟩
    · rw [show ltX s n i false = (45, i, true) from by unfold ltX; rw [if_neg (fun h => hd h.2)]]
      simp only [isLet, Bool.and_eq_true, decide_eq_true_eq] at hd
      revert HB
      generalize pk s i = c at *
      intro HB
      have c255 : c.toNat < 256 := c.toNat_lt
      clear hz hz'
      by_cases a1 : (c.toNat : Int) < 65
      · clear hd
        go_enter Tryz.func150, Tryz.ntmps150
        go_wp2_with fail
        refine HB.out.mono ?_
        rintro en w1 ⟨rfl, hB1, hR1⟩
        go_wp2_with fail
        refine (xrefuse_ok b s (i + 1) v0 v1 v2 w1 i hR1).mono ?_
        rintro en w2 ⟨rfl, hB2, hR2⟩
        go_wp2_with fail
        go_ret
        exact ⟨rfl, hB1.trans hB2, hR2⟩
      · have hsub : IntKind.u8.wrap ((c.toNat : Int) - 65) = ((c.toNat - 65 : Nat) : Int) := by
          rw [IntWalk.u8_in _ (by omega)]; omega
        have a3 : (n : Int) ≤ ((c.toNat - 65 : Nat) : Int) := by omega
        clear hd
        go_enter Tryz.func150, Tryz.ntmps150
        go_wp2_with fail
        refine HB.out.mono ?_
        rintro en w1 ⟨rfl, hB1, hR1⟩
        go_wp2_with fail
        refine (xrefuse_ok b s (i + 1) v0 v1 v2 w1 i hR1).mono ?_
        rintro en w2 ⟨rfl, hB2, hR2⟩
        go_wp2_with fail
        go_ret
        exact ⟨rfl, hB1.trans hB2, hR2⟩

set_option maxHeartbeats 800000 in
theorem xclass_any (n cap : Nat) (ao : Option Addr) (hn : n ≤ 100) (hs : s.size ≤ 2000) (hR : XrB w b s i bad (.slice ao n cap) v1 v2) :
    Calls Tryz.prog 106 #[.pointer (some ⟨b, 0, none⟩)] w fun e w' => e = .returned (.int .u8 (ltX s n i bad).1.toNat) ∧ But (· = b) w w' ∧ XrB w' b s (ltX s n i bad).2.1 (ltX s n i bad).2.2 (.slice ao n cap) v1 v2 := by
  have h0 := hR.c0
  go_enter Tryz.func106, Tryz.ntmps106
  go_wp2_with fail
  refine (xletter_any b s i bad (.slice ao n cap) v1 v2 w n hn hs hR).mono ?_
  rintro en w2 ⟨rfl, hB2, hR2⟩
  go_wp2_with fail
  go_ret
  exact ⟨rfl, hB2, hR2⟩

set_option maxHeartbeats 800000 in
theorem xtype_any (n : Nat) (hn : n ≤ 4) (hs : s.size ≤ 2000) (hR : XrB w b s i bad v0 v1 v2) :
    Calls Tryz.prog 105 #[.pointer (some ⟨b, 0, none⟩), .int .i64 n] w fun e w' => e = .returned (.int .u8 (tyX s n i bad).1.toNat) ∧ But (· = b) w w' ∧ XrB w' b s (tyX s n i bad).2.1 (tyX s n i bad).2.2 v0 v1 v2 := by
  by_cases h105 : (pk s i).toNat = 105
  · have e : (((pk s i).toNat : Int) == 105) = true := by rw [beq_iff_eq]; omega
    have hlt : i < s.size := pk_lt (by omega)
    have htb : tyX s n i bad = tbP s i bad := by
      unfold tyX tbP
      cases bad with
      | true => simp [h105]
      | false => rw [if_pos ⟨rfl, by simp [isTy, h105]⟩, if_neg (by simp; omega)]
    rw [htb]
    clear h105 htb
    go_enter Tryz.func105, Tryz.ntmps105
    go_wp2_with fail
    refine (xnext_any b s i bad v0 v1 v2 w hR).mono ?_
    rintro en w1 ⟨rfl, m, rfl⟩
    go_wp2_with fail
    refine (xtakeByte_any b s i bad v0 v1 v2 _ hs (hR.drewN m)).mono ?_
    rintro en w2 ⟨rfl, hB2, hR2⟩
    go_wp2_with fail
    go_ret
    exact ⟨rfl, (But.drewN _ _ _).trans hB2, hR2⟩
  · have e : (((pk s i).toNat : Int) == 105) = false := by rw [beq_eq_false_iff_ne]; omega
    have htb : tyX s n i bad = ltX s n i bad := by
      unfold tyX ltX
      simp [isTy, h105]
    rw [htb]
    clear h105 htb
    go_enter Tryz.func105, Tryz.ntmps105
    go_wp2_with fail
    refine (xnext_any b s i bad v0 v1 v2 w hR).mono ?_
    rintro en w1 ⟨rfl, m, rfl⟩
    go_wp2_with fail
    refine (xletter_any b s i bad v0 v1 v2 _ n (by omega) hs (hR.drewN m)).mono ?_
    rintro en w2 ⟨rfl, hB2, hR2⟩
    go_wp2_with fail
    go_ret
    exact ⟨rfl, (But.drewN _ _ _).trans hB2, hR2⟩

set_option maxHeartbeats 800000 in
theorem xparent_any (n cap : Nat) (ao : Option Addr) (hn : n ≤ 4) (hs : s.size ≤ 2000) (hR : XrB w b s i bad (.slice ao n cap) v1 v2) :
    Calls Tryz.prog 147 #[.pointer (some ⟨b, 0, none⟩)] w fun e w' => e = .returned (.int .u8 (paX s n i bad).1.toNat) ∧ But (· = b) w w' ∧ XrB w' b s (paX s n i bad).2.1 (paX s n i bad).2.2 (.slice ao n cap) v1 v2 := by
  by_cases h45 : (pk s i).toNat = 45
  · have e : (((pk s i).toNat : Int) == 45) = true := by rw [beq_iff_eq]; omega
    have hlt : i < s.size := pk_lt (by omega)
    have htb : paX s n i bad = tbP s i bad := by
      unfold paX tbP
      cases bad with
      | true => simp [h45]
      | false => rw [if_pos ⟨rfl, Or.inl h45⟩, if_neg (by simp; omega)]
    rw [htb]
    clear h45 htb
    go_enter Tryz.func147, Tryz.ntmps147
    go_wp2_with fail
    refine (xnext_any b s i bad (.slice ao n cap) v1 v2 w hR).mono ?_
    rintro en w1 ⟨rfl, m, rfl⟩
    go_wp2_with fail
    refine (xtakeByte_any b s i bad (.slice ao n cap) v1 v2 _ hs (hR.drewN m)).mono ?_
    rintro en w2 ⟨rfl, hB2, hR2⟩
    go_wp2_with fail
    go_ret
    exact ⟨rfl, (But.drewN _ _ _).trans hB2, hR2⟩
  · have e : (((pk s i).toNat : Int) == 45) = false := by rw [beq_eq_false_iff_ne]; omega
    have htb : paX s n i bad = ltX s n i bad := by
      unfold paX ltX
      simp [h45]
    rw [htb]
    clear h45 htb
    go_enter Tryz.func147, Tryz.ntmps147
    go_wp2_with fail
    refine (xnext_any b s i bad (.slice ao n cap) v1 v2 w hR).mono ?_
    rintro en w1 ⟨rfl, m, rfl⟩
    go_wp2_with fail
    refine (xclass_any b s i bad v1 v2 _ n cap ao (by omega) hs (hR.drewN m)).mono ?_
    rintro en w2 ⟨rfl, hB2, hR2⟩
    go_wp2_with fail
    go_ret
    exact ⟨rfl, (But.drewN _ _ _).trans hB2, hR2⟩
end
end Go.Proofs.YtmfbojnnoonidaaGreatDoor
