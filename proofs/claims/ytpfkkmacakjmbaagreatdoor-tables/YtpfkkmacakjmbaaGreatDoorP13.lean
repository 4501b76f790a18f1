import Derived.Test.YtpfkkmacakjmbaaGreatDoorP12
import Derived.Laws.StructEq
import Derived.Test.YtpfkkmacakjmbaaGreatDoorP00
namespace Go.Proofs.YtpfkkmacakjmbaaGreatDoor
open Go Go.RowKit Sp
set_option linter.unusedSimpArgs false
set_option linter.unusedVariables false
attribute [local go_sem ↓] Go.wp_at_zero Go.wp_at_succ
set_option maxHeartbeats 800000 in
theorem ways_any (x : Ins) (i : Nat) (w : World) (hi : i ≤ 1000) :
  Calls Tryz.prog 85 #[.agg #[.int .u8 x.op.toNat, .int .i64 x.a, .int .i64 x.b, .int .i64 x.pos], .int .i64 i] w fun en w' => en = .returned (.tuple #[.int .i64 (waysT x i).1, .int .i64 (waysT x i).2]) ∧ But (fun _ => False) w w' := by
 obtain ⟨R, hRR⟩ : ∃ R, waysT x i = R := ⟨_, rfl⟩
 rw [hRR]
 unfold waysT at hRR
 by_cases h1 : x.op.toNat = 116
 ·rw [if_pos h1] at hRR
  subst hRR
  have t1 : ((x.op.toNat : Int) == 116) = true := by rw [beq_iff_eq]; omega
  clear h1
  go_enter Tryz.func85, Tryz.ntmps85
  go_wp2
  go_ret2
  exact ⟨rfl, But.alloc _ _ _⟩
 rw [if_neg h1] at hRR
 have t1 : ((x.op.toNat : Int) == 116) = false := by rw [beq_eq_false_iff_ne]; omega
 by_cases h2 : x.op.toNat = 106
 ·rw [if_pos h2] at hRR
  subst hRR
  have t2 : ((x.op.toNat : Int) == 106) = true := by rw [beq_iff_eq]; omega
  clear h1 h2
  go_enter Tryz.func85, Tryz.ntmps85
  go_wp2
  go_ret2
  exact ⟨rfl, But.alloc _ _ _⟩
 rw [if_neg h2] at hRR
 have t2 : ((x.op.toNat : Int) == 106) = false := by rw [beq_eq_false_iff_ne]; omega
 by_cases h3 : x.op.toNat = 102
 ·rw [if_pos h3] at hRR
  subst hRR
  have t3 : ((x.op.toNat : Int) == 102) = true := by rw [beq_iff_eq]; omega
  clear h1 h2 h3
  go_enter Tryz.func85, Tryz.ntmps85
  go_wp2
  go_quiet (fail)
  go_wp2
  go_ret2
  exact ⟨rfl, (But.alloc _ _ _).trans (But.drewN _ _ _)⟩
 ·rw [if_neg h3] at hRR
  subst hRR
  have t3 : ((x.op.toNat : Int) == 102) = false := by rw [beq_eq_false_iff_ne]; omega
  clear h1 h2 h3
  go_enter Tryz.func85, Tryz.ntmps85
  go_wp2
  go_ret2
  exact ⟨rfl, But.alloc _ _ _⟩
theorem start_any (bd : Bod) (ak : Option Addr) (n capk : Nat) (w : World) :
  Calls Tryz.prog 56 #[.agg #[.int .i64 bd.cls, .int .i64 bd.meth, .string ⟨bd.locals.toArray⟩, .slice ak n capk, .slice none 0 0]] w fun en w' => en = .returned (.agg #[.bool true, .string ⟨#[]⟩, .string ⟨bd.locals.toArray⟩]) ∧ But (fun _ => False) w w' := by
 go_enter Tryz.func56, Tryz.ntmps56
 go_wp2
 refine bodyPost_ret (v := .agg #[.bool true, .string ⟨#[]⟩, .string ⟨bd.locals.toArray⟩]) (by simp [results, Tryz.results56, go_sem]) rfl ⟨rfl, ?_⟩
 exact (But.alloc _ _ _).trans (But.alloc _ _ _)
/-- A state as a Go value's cells. -/
def stV (o : Option (List UInt8 × List UInt8)) : Array Value := match o with
 | none => #[.bool false, .string ⟨#[]⟩, .string ⟨#[]⟩]
 | some (s, l) => #[.bool true, .string ⟨s.toArray⟩, .string ⟨l.toArray⟩]
def mergeV (cs : List Cls) (a : Option (List UInt8 × List UInt8)) (sb lb : List UInt8) : Value := match mergeT cs a sb lb with
 | some m => .tuple #[.agg (stV (some m)), .bool true]
 | none => .tuple #[.agg (stV a), .bool false]
set_option maxHeartbeats 800000 in
set_option maxRecDepth 100000 in
theorem merge_any (bi : Nat) (cs : List Cls) (nl : Nat) (a : Option (List UInt8 × List UInt8)) (sb lb : List UInt8) (w : World) (hI : ClsAt w bi cs) (hw : WfC cs) (hn : cs.length ≤ 4) (hnl : nl ≤ 5) (ha : ∀ s l, a = some (s, l) → okS cs.length nl s l) (hb : okS cs.length nl sb lb) :
  Calls Tryz.prog 227 #[.pointer (some ⟨bi, 0, none⟩), .agg (stV a), .agg #[.bool true, .string ⟨sb.toArray⟩, .string ⟨lb.toArray⟩]] w fun en w' => en = .returned (mergeV cs a sb lb) ∧ But (fun _ => False) w w' := by
 obtain ⟨hb1, hb2, hb3, hb4⟩ := hb
 cases a with
 | none =>
  simp only [stV, mergeV, mergeT]
  go_enter Tryz.func227, Tryz.ntmps227
  go_wp2_with fail
  refine bodyPost_ret (v := .tuple #[.agg #[.bool true, .string ⟨sb.toArray⟩, .string ⟨lb.toArray⟩], .bool true]) (by simp [results, Tryz.results227, go_sem]) rfl ⟨rfl, ?_⟩
  exact ((But.alloc _ _ _).trans (But.alloc _ _ _)).trans (But.alloc _ _ _)
 | some m =>
  obtain ⟨sa, la⟩ := m
  obtain ⟨ha1, ha2, ha3, ha4⟩ := ha sa la rfl
  by_cases hl : sa.length = sb.length
  ·have t1 : ((sa.length : Int) != (sb.length : Int)) = false := by rw [bne_eq_false_iff_eq]; omega
   have hmr : mergeV cs (some (sa, la)) sb lb = .tuple #[.agg #[.bool true, .string ⟨(bothT cs sa sb).toArray⟩, .string ⟨(bothT cs la lb).toArray⟩], .bool true] := by simp [mergeV, mergeT, hl, stV]
   rw [hmr]
   simp only [stV]
   have HL : Hid (sa.length = sb.length) := hl
   have HL2 : Hid (la.length = lb.length) := by show _ = _; omega
   have hsa := bothT_len (cs := cs) hl
   generalize hX : bothT cs sa sb = X
   generalize hY : bothT cs la lb = Y
   have HX : Hid (bothT cs sa sb = X) := hX
   have HY : Hid (bothT cs la lb = Y) := hY
   have hla5 : la.length ≤ 100 := by omega
   clear hl hmr hsa hX hY ha3 hb3
   go_enter Tryz.func227, Tryz.ntmps227
   go_wp2_with fail
   have hB0 : But (fun _ => False) w (((w.alloc (.cells #[.bool true, .string ⟨sa.toArray⟩, .string ⟨la.toArray⟩] 91)).alloc (.cells #[.bool true, .string ⟨sb.toArray⟩, .string ⟨lb.toArray⟩] 91)).alloc (.cells #[.bool false, .string ⟨#[]⟩, .string ⟨#[]⟩] 91)) := ((But.alloc _ _ _).trans (But.alloc _ _ _)).trans (But.alloc _ _ _)
   have hgR : (((w.alloc (.cells #[.bool true, .string ⟨sa.toArray⟩, .string ⟨la.toArray⟩] 91)).alloc (.cells #[.bool true, .string ⟨sb.toArray⟩, .string ⟨lb.toArray⟩] 91)).alloc (.cells #[.bool false, .string ⟨#[]⟩, .string ⟨#[]⟩] 91)).heap[w.heap.size + 2]? = some (.cells #[.bool false, .string ⟨#[]⟩, .string ⟨#[]⟩] 91) := heap_alloc_at (by simp) _
   have hgB : (((w.alloc (.cells #[.bool true, .string ⟨sa.toArray⟩, .string ⟨la.toArray⟩] 91)).alloc (.cells #[.bool true, .string ⟨sb.toArray⟩, .string ⟨lb.toArray⟩] 91)).alloc (.cells #[.bool false, .string ⟨#[]⟩, .string ⟨#[]⟩] 91)).heap[w.heap.size + 1]? = some (.cells #[.bool true, .string ⟨sb.toArray⟩, .string ⟨lb.toArray⟩] 91) := ((But.alloc (fun _ => False) _ _).block _ (by simp) (fun h => h)).trans (heap_alloc_at (by simp) _)
   have hgA : (((w.alloc (.cells #[.bool true, .string ⟨sa.toArray⟩, .string ⟨la.toArray⟩] 91)).alloc (.cells #[.bool true, .string ⟨sb.toArray⟩, .string ⟨lb.toArray⟩] 91)).alloc (.cells #[.bool false, .string ⟨#[]⟩, .string ⟨#[]⟩] 91)).heap[w.heap.size]? = some (.cells #[.bool true, .string ⟨sa.toArray⟩, .string ⟨la.toArray⟩] 91) := (((But.alloc (fun _ => False) _ _).trans (But.alloc (fun _ => False) _ _)).block _ (by simp) (fun h => h)).trans (heap_alloc_new w _)
   generalize (((w.alloc (.cells #[.bool true, .string ⟨sa.toArray⟩, .string ⟨la.toArray⟩] 91)).alloc (.cells #[.bool true, .string ⟨sb.toArray⟩, .string ⟨lb.toArray⟩] 91)).alloc (.cells #[.bool false, .string ⟨#[]⟩, .string ⟨#[]⟩] 91)) = W at *
   refine (both_any bi cs sa sb _ (hI.but hB0) hw hn ha1 hb1 HL.out (by omega)).mono ?_
   rw [HX.out]
   rintro en w1 ⟨rfl, hB1⟩
   replace hgR := (hB1.block _ (lt_of_block hgR) (fun h => h)).trans hgR
   replace hgB := (hB1.block _ (lt_of_block hgB) (fun h => h)).trans hgB
   replace hgA := (hB1.block _ (lt_of_block hgA) (fun h => h)).trans hgA
   have hBw1 := hB0.trans hB1
   have a2 : w1.cell? ⟨w.heap.size, 2, none⟩ = some (.string ⟨la.toArray⟩) := by rw [cell_of_row w1 _ 2 _ _ (0, 0) hgA]; rfl
   have b2 : w1.cell? ⟨w.heap.size + 1, 2, none⟩ = some (.string ⟨lb.toArray⟩) := by rw [cell_of_row w1 _ 2 _ _ (0, 0) hgB]; rfl
   go_wp2_with fail
   refine (both_any bi cs la lb _ (hI.but hBw1) hw hn ha2 hb2 HL2.out (by omega)).mono ?_
   rw [HY.out]
   rintro en w2 ⟨rfl, hB2⟩
   replace hgR := (hB2.block _ (lt_of_block hgR) (fun h => h)).trans hgR
   have hBw2 := hBw1.trans hB2
   have r0 : w2.cell? ⟨w.heap.size + 2, 0, none⟩ = some (.bool false) := by rw [cell_of_row w2 _ 0 _ _ (0, 0) hgR]; rfl
   have r1 : w2.cell? ⟨w.heap.size + 2, 1, none⟩ = some (.string ⟨#[]⟩) := by rw [cell_of_row w2 _ 1 _ _ (0, 0) hgR]; rfl
   have r2 : w2.cell? ⟨w.heap.size + 2, 2, none⟩ = some (.string ⟨#[]⟩) := by rw [cell_of_row w2 _ 2 _ _ (0, 0) hgR]; rfl
   have f0 : w2.frozen? ⟨w.heap.size + 2, 0, none⟩ = false := frozen_of_row w2 _ 0 _ _ hgR
   have f1 : w2.frozen? ⟨w.heap.size + 2, 1, none⟩ = false := frozen_of_row w2 _ 1 _ _ hgR
   have f2 : w2.frozen? ⟨w.heap.size + 2, 2, none⟩ = false := frozen_of_row w2 _ 2 _ _ hgR
   clear a2 b2
   go_wp2_with fail
   refine bodyPost_ret (v := .tuple #[.agg #[.bool true, .string ⟨X.toArray⟩, .string ⟨Y.toArray⟩], .bool true]) (by simp [results, Tryz.results227, go_sem, r0, r1, r2]) rfl ⟨rfl, ?_⟩
   exact ((hBw2.next (But.setB _ _ _ _) (fun k hk h => by omega)).next (But.setB _ _ _ _) (fun k hk h => by omega)).next (But.setB _ _ _ _) (fun k hk h => by omega)
  ·have t1 : ((sa.length : Int) != (sb.length : Int)) = true := by rw [bne_iff_ne]; omega
   have hmr : mergeV cs (some (sa, la)) sb lb = .tuple #[.agg #[.bool true, .string ⟨sa.toArray⟩, .string ⟨la.toArray⟩], .bool false] := by simp [mergeV, mergeT, hl, stV]
   rw [hmr]
   simp only [stV]
   clear hl hmr ha3 hb3
   go_enter Tryz.func227, Tryz.ntmps227
   go_wp2_with fail
   refine bodyPost_ret (v := .tuple #[.agg #[.bool true, .string ⟨sa.toArray⟩, .string ⟨la.toArray⟩], .bool false]) (by simp [results, Tryz.results227, go_sem]) rfl ⟨rfl, ?_⟩
   exact ((But.alloc _ _ _).trans (But.alloc _ _ _)).trans (But.alloc _ _ _)
end Go.Proofs.YtpfkkmacakjmbaaGreatDoor
namespace Go.Proofs.YtpfkkmacakjmbaaGreatDoor
open Go Go.RowKit Sp
theorem neq_state (w : World) (b1 b2 : Bool) (x1 y1 x2 y2 : ByteArray) :
  (binOp .neq 91 (.agg #[.bool b1, .string x1, .string y1]) (.agg #[.bool b2, .string x2, .string y2])).run Tryz.prog w =
   .ok (.bool (!decide (b1 = b2 ∧ x1 = x2 ∧ y1 = y2))) w := by
 rw [run_neq_struct, run_equalIn_struct _ 9999 _ _ _ (by kernel_rfl) (by kernel_rfl)]
 have hL : ∀ x y : ByteArray, (x.toList == y.toList) = decide (x = y) := by
  intro x y
  rw [Bool.eq_iff_iff, beq_iff_eq, decide_eq_true_iff]
  constructor
  ·intro h
   rw [ByteArray.toList_eq, ByteArray.toList_eq] at h
   obtain ⟨⟨x⟩⟩ := x
   obtain ⟨⟨y⟩⟩ := y
   simp only at h
   rw [h]
  ·intro h; rw [h]
 have hb : (b1 == b2) = decide (b1 = b2) := by cases b1 <;> cases b2 <;> rfl
 have hx := hL x1 x2
 have hy := hL y1 y2
 clear hL
 by_cases h1 : b1 = b2
 ·by_cases h2 : x1 = x2
  ·by_cases h3 : y1 = y2
   ·simp only [h1, h2, h3]
    go_simp
   ·simp only [h3, decide_false] at hy
    go_simp
  ·go_simp
 ·go_simp
end Go.Proofs.YtpfkkmacakjmbaaGreatDoor
namespace Go.Proofs.YtpfkkmacakjmbaaGreatDoor
open Go Go.RowKit Sp
set_option linter.unusedSimpArgs false
set_option linter.unusedVariables false
attribute [local go_sem ↓] Go.wp_at_zero Go.wp_at_succ
/-- A table's cells. -/
def tabCells (tb : List (Option (List UInt8 × List UInt8))) : List Value := tb.flatMap fun o => (stV o).toList
theorem stV_len (o : Option (List UInt8 × List UInt8)) : (stV o).toList.length = 3 := by
 cases o <;> rfl
theorem tabCells_at {tb : List (Option (List UInt8 × List UInt8))} {j k : Nat} {o : Option (List UInt8 × List UInt8)} (h : tb[j]? = some o) (hk : k < 3) : (tabCells tb)[j * 3 + k]? = (stV o).toList[k]? :=
 flat_at (fun o : Option (List UInt8 × List UInt8) => (stV o).toList) 3 stV_len tb j k o h hk
def TabAt (w : World) (gA : Nat) (tb : List (Option (List UInt8 × List UInt8))) : Prop := w.heap[gA]? = some (.cells (tabCells tb).toArray 91)
def TrnB (w : World) (bt gA n : Nat) (ch bad : Bool) : Prop := w.heap[bt]? = some (.cells #[.slice (some ⟨gA, 0, none⟩) n n, .bool ch, .bool bad] 274)
section
variable {w : World} {bt gA n : Nat} {ch bad : Bool}
theorem TrnB.lt (h : TrnB w bt gA n ch bad) : bt < w.heap.size := lt_of_block h
theorem TrnB.c0 (h : TrnB w bt gA n ch bad) : w.cell? ⟨bt, 0, none⟩ = some (.slice (some ⟨gA, 0, none⟩) n n) := by rw [cell_of_row w bt 0 _ _ (0, 0) h]; rfl
theorem TrnB.c1 (h : TrnB w bt gA n ch bad) : w.cell? ⟨bt, 1, none⟩ = some (.bool ch) := by rw [cell_of_row w bt 1 _ _ (0, 0) h]; rfl
theorem TrnB.c2 (h : TrnB w bt gA n ch bad) : w.cell? ⟨bt, 2, none⟩ = some (.bool bad) := by rw [cell_of_row w bt 2 _ _ (0, 0) h]; rfl
theorem TrnB.fz (h : TrnB w bt gA n ch bad) (j : Nat) : w.frozen? ⟨bt, j, none⟩ = false := frozen_of_row w bt j _ _ h
theorem TrnB.but {F : Nat → Prop} {w' : World} (h : TrnB w bt gA n ch bad) (hb : But F w w') (hf : ¬ F bt) : TrnB w' bt gA n ch bad := (hb.block bt h.lt hf).trans h
theorem TrnB.set1 (h : TrnB w bt gA n ch bad) (d : Bool) : TrnB (w.setCell ⟨bt, 1, none⟩ (.bool d)) bt gA n d bad := heap_setCell_same w bt 1 _ _ _ h
theorem TrnB.set2 (h : TrnB w bt gA n ch bad) (d : Bool) : TrnB (w.setCell ⟨bt, 2, none⟩ (.bool d)) bt gA n ch d := heap_setCell_same w bt 2 _ _ _ h
end
theorem TabAt.lt {w : World} {gA : Nat} {tb : List (Option (List UInt8 × List UInt8))} (h : TabAt w gA tb) : gA < w.heap.size := lt_of_block h
theorem TabAt.but {F : Nat → Prop} {w w' : World} {gA : Nat} {tb : List (Option (List UInt8 × List UInt8))} (h : TabAt w gA tb) (hb : But F w w') (hf : ¬ F gA) : TabAt w' gA tb := (hb.block gA h.lt hf).trans h
theorem TabAt.cell {w : World} {gA : Nat} {tb : List (Option (List UInt8 × List UInt8))} (h : TabAt w gA tb) {j k : Nat} {o : Option (List UInt8 × List UInt8)} (hj : tb[j]? = some o) (hk : k < 3) : w.cell? ⟨gA, j * 3 + k, none⟩ = (stV o).toList[k]? := by
 rw [cell_of_row w gA _ _ _ (0, 0) h, ← tabCells_at hj hk]
 simp
theorem TabAt.fz {w : World} {gA : Nat} {tb : List (Option (List UInt8 × List UInt8))} (h : TabAt w gA tb) (j : Nat) : w.frozen? ⟨gA, j, none⟩ = false := frozen_of_row w gA j _ _ h
theorem flat_set3 : ∀ (tb : List (Option (List UInt8 × List UInt8))) (j : Nat) (a b c : Value) (m : Option (List UInt8 × List UInt8)), j < tb.length → (stV m).toList = [a, b, c] →
  tabCells (tb.set j m) = (((tabCells tb).set (j * 3) a).set (j * 3 + 1) b).set (j * 3 + 2) c := by
 intro tb
 induction tb with
 | nil => intro j a b c m h _; simp at h
 | cons o tb ih =>
  intro j a b c m h hm
  have ho := stV_len o
  match ho' : (stV o).toList, ho with
  | [x, y, z], _ =>
   cases j with
   | zero => simp [tabCells, hm, ho']
   | succ j =>
    have := ih j a b c m (by simpa using h) hm
    simp only [tabCells, List.set_cons_succ, List.flatMap_cons, ho'] at this ⊢
    rw [this]
    rw [show (j + 1) * 3 = j * 3 + 3 from by omega]
    rfl
theorem TabAt.set {w : World} {gA : Nat} {tb : List (Option (List UInt8 × List UInt8))} (h : TabAt w gA tb) {j : Nat} (hj : j < tb.length) (s l : List UInt8) :
  TabAt (((w.setCell ⟨gA, j * 3, none⟩ (.bool true)).setCell ⟨gA, j * 3 + 1, none⟩ (.string ⟨s.toArray⟩)).setCell ⟨gA, j * 3 + 2, none⟩ (.string ⟨l.toArray⟩)) gA (tb.set j (some (s, l))) := by
 unfold TabAt
 rw [flat_set3 tb j (.bool true) (.string ⟨s.toArray⟩) (.string ⟨l.toArray⟩) (some (s, l)) hj rfl]
 have h1 := heap_setCell_same w gA (j * 3) _ _ (.bool true) h
 have h2 := heap_setCell_same _ gA (j * 3 + 1) _ _ (.string ⟨s.toArray⟩) h1
 have h3 := heap_setCell_same _ gA (j * 3 + 2) _ _ (.string ⟨l.toArray⟩) h2
 simpa using h3
def IntoPost (R : List (Option (List UInt8 × List UInt8)) × Bool × Bool) (bt gA n : Nat) (w' : World) : Prop := TrnB w' bt gA n R.2.1 R.2.2 ∧ TabAt w' gA R.1
set_option maxHeartbeats 1600000 in
set_option maxRecDepth 100000 in
theorem into_any (bt gA bi : Nat) (cs : List Cls) (nl : Nat) (tb : List (Option (List UInt8 × List UInt8))) (ch bad : Bool) (j : Int) (sb lb : List UInt8) (w : World) (hI : ClsAt w bi cs) (hw : WfC cs) (hn : cs.length ≤ 4) (hnl : nl ≤ 5) (htl : tb.length ≤ 100)
  (hne : bt ≠ gA) (hT : TrnB w bt gA tb.length ch bad) (hA : TabAt w gA tb) (hok : ∀ (k : Nat) s l, tb[k]? = some (some (s, l)) → okS cs.length nl s l) (hb : okS cs.length nl sb lb) (hjr : -1 ≤ j ∧ j ≤ 1000) :
  Calls Tryz.prog 185 #[.pointer (some ⟨bt, 0, none⟩), .pointer (some ⟨bi, 0, none⟩), .int .i64 j, .agg #[.bool true, .string ⟨sb.toArray⟩, .string ⟨lb.toArray⟩]] w fun en w' => en = .returned (.tuple #[]) ∧ But (fun k => k = bt ∨ k = gA) w w' ∧
   IntoPost (intoT cs (tb, ch, bad) j sb lb) bt gA tb.length w' := by
 have c2 := hT.c2
 have f2 := hT.fz 2
 have blt := hT.lt
 cases bad with
 | true =>
  rw [show intoT cs (tb, ch, true) j sb lb = (tb, ch, true) from by simp [intoT]]
  go_enter Tryz.func185, Tryz.ntmps185
  go_wp2_with fail
  exact bodyPost_ret (v := .tuple #[]) (by simp [results, Tryz.results185, go_sem]) rfl ⟨rfl, But.alloc _ _ _, hT.but (But.alloc (fun _ => False) _ _) (fun h => h), hA.but (But.alloc (fun _ => False) _ _) (fun h => h)⟩
 | false =>
 by_cases hj0 : j < 0
 ·rw [show intoT cs (tb, ch, false) j sb lb = (tb, ch, false) from by unfold intoT; rw [if_pos (Or.inr hj0)]]
  go_enter Tryz.func185, Tryz.ntmps185
  go_wp2_with fail
  exact bodyPost_ret (v := .tuple #[]) (by simp [results, Tryz.results185, go_sem]) rfl ⟨rfl, But.alloc _ _ _, hT.but (But.alloc (fun _ => False) _ _) (fun h => h), hA.but (But.alloc (fun _ => False) _ _) (fun h => h)⟩
 have c0 := hT.c0
 by_cases hjn : (tb.length : Int) ≤ j
 ·have hres : intoT cs (tb, ch, false) j sb lb = (tb, ch, true) := by unfold intoT; rw [if_neg (by simp; omega), if_pos hjn]
  rw [hres]
  clear hres
  go_enter Tryz.func185, Tryz.ntmps185
  go_wp2_with fail
  have hBs : But (· = bt) w ((w.setCell ⟨bt, 2, none⟩ (.bool true)).alloc (.cells #[.bool true, .string ⟨sb.toArray⟩, .string ⟨lb.toArray⟩] 91)) := (But.setB _ _ _ _).trans (But.alloc _ _ _)
  exact bodyPost_ret (v := .tuple #[]) (by simp [results, Tryz.results185, go_sem]) rfl ⟨rfl, hBs.mono (fun _ _ h => Or.inl h), (hT.set2 true).but (But.alloc (fun _ => False) _ _) (fun h => h), hA.but hBs (fun h => hne h.symm)⟩
 ·obtain ⟨jn, rfl⟩ := Int.eq_ofNat_of_zero_le (by omega : 0 ≤ j)
  have hjl : jn < tb.length := by omega
  have hjI : (jn : Int) < (tb.length : Int) := by omega
  have hgl := List.getElem?_eq_getElem hjl
  obtain ⟨o, ho⟩ : ∃ o, tb[jn] = o := ⟨_, rfl⟩
  rw [ho] at hgl
  have hgd : tb.getD jn none = o := by simp [List.getD, hgl]
  have hokj : ∀ s l, o = some (s, l) → okS cs.length nl s l := fun s l h => hok jn s l (by rw [hgl, h])
  have hstep : intoT cs (tb, ch, false) (jn : Int) sb lb = match mergeT cs o sb lb with
    | none => (tb, ch, true)
    | some m => if some m = o then (tb, ch, false) else (tb.set jn (some m), true, false) := by
   unfold intoT
   rw [if_neg (by simp), if_neg (by simpa using hjI)]
   simp only [Int.toNat_natCast, hgd]
   cases mergeT cs o sb lb <;> rfl
  obtain ⟨R, hR⟩ : ∃ R, intoT cs (tb, ch, false) (jn : Int) sb lb = R := ⟨_, rfl⟩
  rw [hR]
  have HR := hid (hstep.symm.trans hR)
  clear hR
  have HGL := hid hgl
  have hmg := merge_any bi cs nl o sb lb
  clear hstep hgd hj0 hjn ho
  go_enter Tryz.func185, Tryz.ntmps185
  go_wp2_with fail
  have hB0 : But (fun _ => False) w (w.alloc (.cells #[.bool true, .string ⟨sb.toArray⟩, .string ⟨lb.toArray⟩] 91)) := But.alloc _ _ _
  have hgb : (w.alloc (.cells #[.bool true, .string ⟨sb.toArray⟩, .string ⟨lb.toArray⟩] 91)).heap[w.heap.size]? = some (.cells #[.bool true, .string ⟨sb.toArray⟩, .string ⟨lb.toArray⟩] 91) := heap_alloc_new _ _
  revert hB0 hgb
  generalize (w.alloc (.cells #[.bool true, .string ⟨sb.toArray⟩, .string ⟨lb.toArray⟩] 91)) = W
  intro hB0 hgb
  have hTW := hT.but hB0 (fun h => h)
  have hAW := hA.but hB0 (fun h => h)
  have k0 : W.cell? ⟨w.heap.size, 0, none⟩ = some (.bool true) := by rw [cell_of_row W _ 0 _ _ (0, 0) hgb]; rfl
  have k1 : W.cell? ⟨w.heap.size, 1, none⟩ = some (.string ⟨sb.toArray⟩) := by rw [cell_of_row W _ 1 _ _ (0, 0) hgb]; rfl
  have k2 : W.cell? ⟨w.heap.size, 2, none⟩ = some (.string ⟨lb.toArray⟩) := by rw [cell_of_row W _ 2 _ _ (0, 0) hgb]; rfl
  have e0 := hTW.c0
  have ltT := hTW.lt
  have ltA := hAW.lt
  have ltb := lt_of_block hgb
  obtain ⟨o0, o1, o2, hov⟩ : ∃ o0 o1 o2, stV o = #[.bool o0, .string o1, .string o2] := by cases o <;> exact ⟨_, _, _, rfl⟩
  have q0 := hAW.cell (k := 0) HGL.out (by omega)
  have q1 := hAW.cell (k := 1) HGL.out (by omega)
  have q2 := hAW.cell (k := 2) HGL.out (by omega)
  rw [hov] at q0 q1 q2
  simp only [Nat.add_zero] at q0
  have q0' : W.cell? ⟨gA, jn * 3, none⟩ = some (.bool o0) := q0
  have q1' : W.cell? ⟨gA, jn * 3 + 1, none⟩ = some (.string o1) := q1
  have q2' : W.cell? ⟨gA, jn * 3 + 2, none⟩ = some (.string o2) := q2
  clear q0 q1 q2 c0 c2
  have hS0 : But (fun _ => False) W W.drew := But.drew _ _
  refine wpTx_begin (But (fun _ => False) W) 16 (by kernel_rfl) ?_
  have fSA := hid (fun wS (h : (But (fun _ => False) W) wS) => (And.intro ((h.cell (p := ⟨bt, 0, none⟩) ltT (fun h => h)).trans e0) (And.intro ((h.cell (p := ⟨gA, jn * 3, none⟩) ltA (fun h => h)).trans q0') (And.intro ((h.cell (p := ⟨gA, jn * 3 + 1, none⟩) ltA (fun h => h)).trans q1') (And.intro ((h.cell (p := ⟨gA, jn * 3 + 2, none⟩) ltA (fun h => h)).trans q2') (And.intro ((h.cell (p := ⟨w.heap.size, 0, none⟩) ltb (fun h => h)).trans k0) (And.intro ((h.cell (p := ⟨w.heap.size, 1, none⟩) ltb (fun h => h)).trans k1) ((h.cell (p := ⟨w.heap.size, 2, none⟩) ltb (fun h => h)).trans k2))))))))
  refine wpTx_take (v := ?vA0) rfl (by kernel_rfl) ?qA0 rfl hS0 ?yA0 ?rA0
  case yA0 => intro wS h; obtain ⟨q0, q1, q2, q3, q4, q5, q6⟩ := fSA.out wS h; clear h; go_simp; try rfl
  case qA0 => exact fun _ _ _ h => h
  dsimp only [Act.put]
  try simp only [puts]
  refine wpTx_take (v := ?vA1) rfl (by kernel_rfl) ?qA1 rfl hS0 ?yA1 ?rA1
  case yA1 => intro wS h; obtain ⟨q0, q1, q2, q3, q4, q5, q6⟩ := fSA.out wS h; clear h; go_simp; try rfl
  case qA1 => exact fun _ _ _ h => h
  dsimp only [Act.put]
  try simp only [puts]
  refine wpTx_take (v := ?vA2) rfl (by kernel_rfl) ?qA2 rfl hS0 ?yA2 ?rA2
  case yA2 => intro wS h; obtain ⟨q0, q1, q2, q3, q4, q5, q6⟩ := fSA.out wS h; clear h; go_simp; try rfl
  case qA2 => exact fun _ _ _ h => h
  dsimp only [Act.put]
  try simp only [puts]
  refine wpTx_take (v := ?vA3) rfl (by kernel_rfl) ?qA3 rfl hS0 ?yA3 ?rA3
  case yA3 => intro wS h; obtain ⟨q0, q1, q2, q3, q4, q5, q6⟩ := fSA.out wS h; clear h; go_simp; try rfl
  case qA3 => exact fun _ _ _ h => h
  dsimp only [Act.put]
  try simp only [puts]
  refine wpTx_take (v := ?vA4) rfl (by kernel_rfl) ?qA4 rfl hS0 ?yA4 ?rA4
  case yA4 => intro wS h; obtain ⟨q0, q1, q2, q3, q4, q5, q6⟩ := fSA.out wS h; clear h; go_simp; try rfl
  case qA4 => exact fun _ _ _ h => h
  dsimp only [Act.put]
  try simp only [puts]
  refine wpTx_take (v := ?vA5) rfl (by kernel_rfl) ?qA5 rfl hS0 ?yA5 ?rA5
  case yA5 => intro wS h; obtain ⟨q0, q1, q2, q3, q4, q5, q6⟩ := fSA.out wS h; clear h; go_simp; try rfl
  case qA5 => exact fun _ _ _ h => h
  dsimp only [Act.put]
  try simp only [puts]
  refine wpTx_take (v := ?vA6) rfl (by kernel_rfl) ?qA6 rfl hS0 ?yA6 ?rA6
  case yA6 => intro wS h; obtain ⟨q0, q1, q2, q3, q4, q5, q6⟩ := fSA.out wS h; clear h; go_simp; try rfl
  case qA6 => exact fun _ _ _ h => h
  dsimp only [Act.put]
  try simp only [puts]
  refine wpTx_take (v := ?vA7) rfl (by kernel_rfl) ?qA7 rfl hS0 ?yA7 ?rA7
  case yA7 => intro wS h; obtain ⟨q0, q1, q2, q3, q4, q5, q6⟩ := fSA.out wS h; clear h; go_simp; try rfl
  case qA7 => exact fun _ _ _ h => h
  dsimp only [Act.put]
  try simp only [puts]
  refine wpTx_take (v := ?vA8) rfl (by kernel_rfl) ?qA8 rfl hS0 ?yA8 ?rA8
  case yA8 => intro wS h; obtain ⟨q0, q1, q2, q3, q4, q5, q6⟩ := fSA.out wS h; clear h; go_simp; try rfl
  case qA8 => exact fun _ _ _ h => h
  dsimp only [Act.put]
  try simp only [puts]
  try clear fSA
  obtain ⟨m0, m1, m2, okb, hmv, hMv⟩ : ∃ m0 m1 m2 okb, mergeV cs o sb lb = .tuple #[.agg #[.bool m0, .string m1, .string m2], .bool okb] ∧
    ((mergeT cs o sb lb = none ∧ okb = false) ∨ ∃ s l, mergeT cs o sb lb = some (s, l) ∧ okb = true ∧ m0 = true ∧ m1 = ⟨s.toArray⟩ ∧ m2 = ⟨l.toArray⟩) := by
   unfold mergeV
   cases hm : mergeT cs o sb lb with
   | none => exact ⟨o0, o1, o2, false, by simp [hov], Or.inl ⟨rfl, rfl⟩⟩
   | some m => exact ⟨true, ⟨m.1.toArray⟩, ⟨m.2.toArray⟩, true, rfl, Or.inr ⟨m.1, m.2, rfl, rfl, rfl, rfl, rfl⟩⟩
  rw [hov, hmv] at hmg
  have HMV := hid hMv
  clear hMv
  have HMG := hid (fun (wx : World) (h : But (fun _ => False) W wx) => hmg wx ((hI.but hB0).but h) hw hn hnl hokj hb)
  clear hmg hmv
  refine wpTx_fork (q := 13) (o := ?oA9) (oq := ?oqA9) (rest := ?rsA9) (restq := ?rqA9) ?hoA9 ?hqA9 ?hrA9 ?stA9 ?sqA9
  case hoA9 => rfl
  case hqA9 => rfl
  case hrA9 => kernel_rfl
  case' stA9 =>
   intro KS hKS
   go_simp
   refine (HMG.out W.drew hS0).mono ?_
   rintro en w1 ⟨rfl, hB1⟩
   have hBW1 : But (fun _ => False) W w1 := hS0.trans hB1
   refine hKS.out _ _ (fun _ => hBW1) ?_
   clear hKS KS
   refine wpTx_take (v := ?vA10) rfl (by kernel_rfl) ?qA10 rfl hBW1 ?yA10 ?rA10
   case yA10 => intro wS h; clear h; go_simp; try rfl
   case qA10 => exact fun _ _ _ h => h
   dsimp only [Act.put]
   try simp only [puts]
   refine wpTx_take (v := ?vA11) rfl (by kernel_rfl) ?qA11 rfl hBW1 ?yA11 ?rA11
   case yA11 => intro wS h; clear h; go_simp; try rfl
   case qA11 => exact fun _ _ _ h => h
   dsimp only [Act.put]
   try simp only [puts]
   refine wpTx_take (v := ?vA12) rfl (by kernel_rfl) ?qA12 rfl hBW1 ?yA12 ?rA12
   case yA12 => intro wS h; clear h; go_simp; try rfl
   case qA12 => exact fun _ _ _ h => h
   dsimp only [Act.put]
   try simp only [puts]
   refine wpTx_step (o := ?oA13) (rest := ?rsA13) ?hoA13 ?hrA13 ?stA13
   case hoA13 => rfl
   case hrA13 => kernel_rfl
   case' stA13 =>
   intro KS hKS
   go_simp
   refine hKS.out _ _ (fun _ => hBW1.trans (But.alloc _ _ _)) ?_
   clear hKS KS
   refine wpTx_step (o := ?oA14) (rest := ?rsA14) ?hoA14 ?hrA14 ?stA14
   case hoA14 => rfl
   case hrA14 => kernel_rfl
   case' stA14 =>
   intro KS hKS
   go_simp
   refine hKS.out _ _ (fun _ => hBW1.trans (But.alloc _ _ _)) ?_
   clear hKS KS
   refine wpTx_step (o := ?oA15) (rest := ?rsA15) ?hoA15 ?hrA15 ?stA15
   case hoA15 => rfl
   case hrA15 => kernel_rfl
   case' stA15 =>
   intro KS hKS
   go_simp
   refine hKS.out _ _ (fun _ => hBW1.trans (But.alloc _ _ _)) ?_
   clear hKS KS
   refine wpTx_done rfl (by kernel_rfl) ?_
   have hB2 : But (fun _ => False) W (w1.alloc (.cells #[.bool m0, .string m1, .string m2] 91)) := hBW1.trans (But.alloc _ _ _)
   have hgm : (w1.alloc (.cells #[.bool m0, .string m1, .string m2] 91)).heap[w1.heap.size]? = some (.cells #[.bool m0, .string m1, .string m2] 91) := heap_alloc_new _ _
   have hbm : W.heap.size ≤ w1.heap.size := hBW1.size
   revert hB2 hgm hbm
   clear hB1 hBW1
   generalize (w1.alloc (.cells #[.bool m0, .string m1, .string m2] 91)) = w2
   generalize w1.heap.size = bm
   intro hB2 hgm hbm
   clear w1
  case' sqA9 =>
   intro KS hKS
   go_simp
   have hBd : But (fun _ => False) W (W.alloc (.cells #[.bool false, .string ⟨#[]⟩, .string ⟨#[]⟩] 91)).drew := (But.alloc _ _ _).trans (But.drew _ _)
   have hgd : (W.alloc (.cells #[.bool false, .string ⟨#[]⟩, .string ⟨#[]⟩] 91)).drew.heap[W.heap.size]? = some (.cells #[.bool false, .string ⟨#[]⟩, .string ⟨#[]⟩] 91) := heap_alloc_new _ _
   revert hBd hgd
   generalize (W.alloc (.cells #[.bool false, .string ⟨#[]⟩, .string ⟨#[]⟩] 91)).drew = Wd
   have hbm : W.heap.size ≤ W.heap.size := Nat.le_refl _
   revert hbm
   generalize hbmE : W.heap.size = bm
   intro hbm hBd hgd
   have hbm : W.heap.size ≤ bm := by omega
   have HBM := hid hbmE
   clear hbmE
   refine hKS.out _ _ (fun _ => hBd) ?_
   clear hKS KS
   refine wpTy_step (o := ?oAY9) (rest := ?rsAY9) ?hoAY9 ?hkAY9 ?hrAY9 ?stAY9
   case hoAY9 => rfl
   case hkAY9 => kernel_rfl
   case hrAY9 => kernel_rfl
   case' stAY9 =>
   intro KS hKS
   go_simp
   refine (HMG.out Wd hBd).mono ?_
   rintro en w1 ⟨rfl, hB1⟩
   have hBW1 : But (fun _ => False) W w1 := hBd.trans hB1
   have hgd1 : w1.heap[bm]? = some (.cells #[.bool false, .string ⟨#[]⟩, .string ⟨#[]⟩] 91) := (hB1.block bm (lt_of_block hgd) (fun h => h)).trans hgd
   refine hKS.out _ _ (fun _ => hBW1) ?_
   clear hKS KS
   refine wpTy_take (v := ?vAY10) rfl (by kernel_rfl) ?qAY10 rfl hBW1 ?yAY10 ?rAY10
   case yAY10 => intro wS h; clear h; go_simp; try rfl
   case qAY10 => exact fun _ _ _ h => h
   dsimp only [Act.put]
   try simp only [puts]
   refine wpTy_take (v := ?vAY11) rfl (by kernel_rfl) ?qAY11 rfl hBW1 ?yAY11 ?rAY11
   case yAY11 => intro wS h; clear h; go_simp; try rfl
   case qAY11 => exact fun _ _ _ h => h
   dsimp only [Act.put]
   try simp only [puts]
   refine wpTy_take (v := ?vAY12) rfl (by kernel_rfl) ?qAY12 rfl hBW1 ?yAY12 ?rAY12
   case yAY12 => intro wS h; clear h; go_simp; try rfl
   case qAY12 => exact fun _ _ _ h => h
   dsimp only [Act.put]
   try simp only [puts]
   refine wpTy_past ?_
   have r0 : w1.cell? ⟨bm, 0, none⟩ = some (.bool false) := by rw [cell_of_row w1 _ 0 _ _ (0, 0) hgd1]; rfl
   have r1 : w1.cell? ⟨bm, 1, none⟩ = some (.string ⟨#[]⟩) := by rw [cell_of_row w1 _ 1 _ _ (0, 0) hgd1]; rfl
   have r2 : w1.cell? ⟨bm, 2, none⟩ = some (.string ⟨#[]⟩) := by rw [cell_of_row w1 _ 2 _ _ (0, 0) hgd1]; rfl
   have z0 : w1.frozen? ⟨bm, 0, none⟩ = false := frozen_of_row w1 bm 0 _ _ hgd1
   have z1 : w1.frozen? ⟨bm, 1, none⟩ = false := frozen_of_row w1 bm 1 _ _ hgd1
   have z2 : w1.frozen? ⟨bm, 2, none⟩ = false := frozen_of_row w1 bm 2 _ _ hgd1
   have rlt := lt_of_block hgd1
   have hbs : ∀ j u (wx : World), But (fun _ => False) W wx → But (fun _ => False) W (wx.setCell ⟨bm, j, none⟩ u) := fun j u wx h => h.next (But.setB _ _ _ _) (fun k hk e => by omega)
   have hB2 := hbs 2 (.string m2) _ (hbs 1 (.string m1) _ (hbs 0 (.bool m0) _ hBW1))
   have hgm := heap_setCell_same _ bm 2 _ _ (.string m2) (heap_setCell_same _ bm 1 _ _ (.string m1) (heap_setCell_same _ bm 0 _ _ (.bool m0) hgd1))
   refine wpTx_step (o := ?oAY14) (rest := ?rsAY14) ?hoAY14 ?hrAY14 ?stAY14
   case hoAY14 => rfl
   case hrAY14 => kernel_rfl
   case' stAY14 =>
   intro KS hKS
   go_simp
   refine hKS.out _ _ (fun _ => hB2) ?_
   clear hKS KS
   refine wpTx_step (o := ?oAY15) (rest := ?rsAY15) ?hoAY15 ?hrAY15 ?stAY15
   case hoAY15 => rfl
   case hrAY15 => kernel_rfl
   case' stAY15 =>
   intro KS hKS
   go_simp
   refine hKS.out _ _ (fun _ => hB2) ?_
   clear hKS KS
   refine wpTx_done rfl (by kernel_rfl) ?_
   have hgm' : (((w1.setCell ⟨bm, 0, none⟩ (.bool m0)).setCell ⟨bm, 1, none⟩ (.string m1)).setCell ⟨bm, 2, none⟩ (.string m2)).heap[bm]? = some (.cells #[.bool m0, .string m1, .string m2] 91) := hgm
   clear hgm
   revert hB2 hgm'
   clear hBd hgd hbs hgd1 r0 r1 r2 z0 z1 z2 rlt hB1 hBW1
   generalize (((w1.setCell ⟨bm, 0, none⟩ (.bool m0)).setCell ⟨bm, 1, none⟩ (.string m1)).setCell ⟨bm, 2, none⟩ (.string m2)) = w2
   intro hB2 hgm
   clear w1 Wd HBM
  ·have hT2 := hTW.but hB2 (fun h => h)
   have hA2 := hAW.but hB2 (fun h => h)
   have g2 := hT2.fz 2
   have glt := hT2.lt
   have c22 := hT2.c2
   clear HMG k0 k1 k2 e0 hTW hAW
   rcases HMV.out with ⟨hM, rfl⟩ | ⟨s, l, hM, rfl, rfl, rfl, rfl⟩
   ·have hRR : (tb, ch, true) = R := by rw [← HR.out, hM]
    clear HR hM HMV
    subst hRR
    go_wp2_with fail
    exact bodyPost_ret (v := .tuple #[]) (by simp [results, Tryz.results185, go_sem]) rfl ⟨rfl, (((hB0.trans hB2)).mono (fun _ _ h => h.elim)).next (But.setB _ _ _ _) (fun _ _ h => Or.inl h), hT2.set2 true, hA2.but (But.setB _ _ _ _) (fun h => hne h.symm)⟩
   ·clear HMV
    have c20 := hT2.c0
    have hBW2 : But (fun _ => False) w w2 := hB0.trans hB2
    have n0 : w2.cell? ⟨bm, 0, none⟩ = some (.bool true) := by rw [cell_of_row w2 _ 0 _ _ (0, 0) hgm]; rfl
    have n1 : w2.cell? ⟨bm, 1, none⟩ = some (.string ⟨s.toArray⟩) := by rw [cell_of_row w2 _ 1 _ _ (0, 0) hgm]; rfl
    have n2 : w2.cell? ⟨bm, 2, none⟩ = some (.string ⟨l.toArray⟩) := by rw [cell_of_row w2 _ 2 _ _ (0, 0) hgm]; rfl
    have p0 := hB2.cell (p := ⟨gA, jn * 3, none⟩) ltA (fun h => h)
    have p1 := hB2.cell (p := ⟨gA, jn * 3 + 1, none⟩) ltA (fun h => h)
    have p2 := hB2.cell (p := ⟨gA, jn * 3 + 2, none⟩) ltA (fun h => h)
    rw [q0'] at p0
    rw [q1'] at p1
    rw [q2'] at p2
    clear q0' q1' q2' hB2 ltT ltA ltb
    have ltA := hA2.lt
    have ltm := lt_of_block hgm
    go_wp2_with fail
    obtain ⟨dd, hnq, hdd⟩ : ∃ dd : Bool, (∀ wx, (binOp .neq 91 (.agg #[.bool true, .string ⟨s.toArray⟩, .string ⟨l.toArray⟩]) (.agg #[.bool o0, .string o1, .string o2])).run Tryz.prog wx = .ok (.bool dd) wx) ∧
      ((some (s, l) = o ∧ dd = false) ∨ (some (s, l) ≠ o ∧ dd = true)) := by
     refine ⟨_, fun wx => neq_state wx true o0 ⟨s.toArray⟩ ⟨l.toArray⟩ o1 o2, ?_⟩
     by_cases hsame : some (s, l) = o
     ·left
      refine ⟨hsame, ?_⟩
      subst hsame
      have hv : stV (some (s, l)) = #[.bool true, .string ⟨s.toArray⟩, .string ⟨l.toArray⟩] := rfl
      rw [hv] at hov
      simp only [Array.mk.injEq, List.cons.injEq, Value.bool.injEq, Value.string.injEq, and_true] at hov
      obtain ⟨rfl, rfl, rfl⟩ := hov
      simp
     ·right
      refine ⟨hsame, ?_⟩
      rw [Bool.not_eq_true', decide_eq_false_iff_not]
      rintro ⟨rfl, rfl, rfl⟩
      apply hsame
      cases o with
      | none => simp [stV] at hov
      | some m =>
       obtain ⟨ms, ml⟩ := m
       simp [stV] at hov
       obtain ⟨h1, h2⟩ := hov
       rw [h1, h2]
    have HDD := hid hdd
    clear hdd
    have hC1 : But (fun _ => False) w2 w2.drew := But.drew _ _
    refine wpTx_begin (But (fun _ => False) w2) 9 (by kernel_rfl) ?_
    have fSAB := hid (fun wS (h : (But (fun _ => False) w2) wS) => (And.intro ((h.cell (p := ⟨bm, 0, none⟩) ltm (fun h => h)).trans n0) (And.intro ((h.cell (p := ⟨bm, 1, none⟩) ltm (fun h => h)).trans n1) (And.intro ((h.cell (p := ⟨bm, 2, none⟩) ltm (fun h => h)).trans n2) (And.intro ((h.cell (p := ⟨bt, 0, none⟩) glt (fun h => h)).trans c20) (And.intro ((h.cell (p := ⟨gA, jn * 3, none⟩) ltA (fun h => h)).trans p0) (And.intro ((h.cell (p := ⟨gA, jn * 3 + 1, none⟩) ltA (fun h => h)).trans p1) ((h.cell (p := ⟨gA, jn * 3 + 2, none⟩) ltA (fun h => h)).trans p2))))))))
    refine wpTx_take (v := ?vAB0) rfl (by kernel_rfl) ?qAB0 rfl hC1 ?yAB0 ?rAB0
    case yAB0 => intro wS h; obtain ⟨q0, q1, q2, q3, q4, q5, q6⟩ := fSAB.out wS h; clear h; go_simp; try rfl
    case qAB0 => exact fun _ _ _ h => h
    dsimp only [Act.put]
    try simp only [puts]
    refine wpTx_take (v := ?vAB1) rfl (by kernel_rfl) ?qAB1 rfl hC1 ?yAB1 ?rAB1
    case yAB1 => intro wS h; obtain ⟨q0, q1, q2, q3, q4, q5, q6⟩ := fSAB.out wS h; clear h; go_simp; try rfl
    case qAB1 => exact fun _ _ _ h => h
    dsimp only [Act.put]
    try simp only [puts]
    refine wpTx_take (v := ?vAB2) rfl (by kernel_rfl) ?qAB2 rfl hC1 ?yAB2 ?rAB2
    case yAB2 => intro wS h; obtain ⟨q0, q1, q2, q3, q4, q5, q6⟩ := fSAB.out wS h; clear h; go_simp; try rfl
    case qAB2 => exact fun _ _ _ h => h
    dsimp only [Act.put]
    try simp only [puts]
    refine wpTx_take (v := ?vAB3) rfl (by kernel_rfl) ?qAB3 rfl hC1 ?yAB3 ?rAB3
    case yAB3 => intro wS h; obtain ⟨q0, q1, q2, q3, q4, q5, q6⟩ := fSAB.out wS h; clear h; go_simp; try rfl
    case qAB3 => exact fun _ _ _ h => h
    dsimp only [Act.put]
    try simp only [puts]
    refine wpTx_take (v := ?vAB4) rfl (by kernel_rfl) ?qAB4 rfl hC1 ?yAB4 ?rAB4
    case yAB4 => intro wS h; obtain ⟨q0, q1, q2, q3, q4, q5, q6⟩ := fSAB.out wS h; clear h; go_simp; try rfl
    case qAB4 => exact fun _ _ _ h => h
    dsimp only [Act.put]
    try simp only [puts]
    refine wpTx_take (v := ?vAB5) rfl (by kernel_rfl) ?qAB5 rfl hC1 ?yAB5 ?rAB5
    case yAB5 => intro wS h; obtain ⟨q0, q1, q2, q3, q4, q5, q6⟩ := fSAB.out wS h; clear h; go_simp; try rfl
    case qAB5 => exact fun _ _ _ h => h
    dsimp only [Act.put]
    try simp only [puts]
    refine wpTx_take (v := ?vAB6) rfl (by kernel_rfl) ?qAB6 rfl hC1 ?yAB6 ?rAB6
    case yAB6 => intro wS h; obtain ⟨q0, q1, q2, q3, q4, q5, q6⟩ := fSAB.out wS h; clear h; go_simp; try rfl
    case qAB6 => exact fun _ _ _ h => h
    dsimp only [Act.put]
    try simp only [puts]
    refine wpTx_take (v := ?vAB7) rfl (by kernel_rfl) ?qAB7 rfl hC1 ?yAB7 ?rAB7
    case yAB7 => intro wS h; obtain ⟨q0, q1, q2, q3, q4, q5, q6⟩ := fSAB.out wS h; clear h; go_simp; try rfl
    case qAB7 => exact fun _ _ _ h => h
    dsimp only [Act.put]
    try simp only [puts]
    refine wpTx_take (v := ?vAB8) rfl (by kernel_rfl) ?qAB8 rfl hC1 ?yAB8 ?rAB8
    case yAB8 => intro wS h; obtain ⟨q0, q1, q2, q3, q4, q5, q6⟩ := fSAB.out wS h; clear h; go_simp; try rfl
    case qAB8 => exact fun _ _ _ h => h
    dsimp only [Act.put]
    try simp only [puts]
    try clear fSAB
    refine wpTx_done rfl (by kernel_rfl) ?_
    clear hnq
    rcases HDD.out with ⟨hsame, rfl⟩ | ⟨hsame, rfl⟩
    ·have hRR : (tb, ch, false) = R := by rw [← HR.out, hM]; simp only [if_pos hsame]
     clear HR hM HDD hsame
     subst hRR
     go_wp2_with fail
     exact bodyPost_end (v := .tuple #[]) (by simp [results, Tryz.results185, go_sem]) rfl ⟨rfl, (hBW2.trans (But.drew _ _)).mono (fun _ _ h => h.elim), hT2.but (But.drew (fun _ => False) _) (fun h => h), hA2.but (But.drew (fun _ => False) _) (fun h => h)⟩
    ·have hRR : (tb.set jn (some (s, l)), true, false) = R := by rw [← HR.out, hM]; simp only [if_neg hsame]
     clear HR hM HDD hsame
     subst hRR
     go_wp2_with fail
     have hC2 : But (fun _ => False) w2 w2.drew.drew := (But.drew _ _).trans (But.drew _ _)
     refine wpTx_begin (But (fun _ => False) w2) 7 (by kernel_rfl) ?_
     revert hC2
     clear hC1
     generalize w2.drew.drew = w3
     intro hC2
     have fSAC := hid (fun wS (h : (But (fun _ => False) w2) wS) => (And.intro ((h.cell (p := ⟨bm, 0, none⟩) ltm (fun h => h)).trans n0) (And.intro ((h.cell (p := ⟨bm, 1, none⟩) ltm (fun h => h)).trans n1) (And.intro ((h.cell (p := ⟨bm, 2, none⟩) ltm (fun h => h)).trans n2) ((h.cell (p := ⟨bt, 0, none⟩) glt (fun h => h)).trans c20)))))
     refine wpTx_take (v := ?vAC0) rfl (by kernel_rfl) ?qAC0 rfl hC2 ?yAC0 ?rAC0
     case yAC0 => intro wS h; obtain ⟨q0, q1, q2, q3⟩ := fSAC.out wS h; clear h; go_simp; try rfl
     case qAC0 => exact fun _ _ _ h => h
     dsimp only [Act.put]
     try simp only [puts]
     refine wpTx_take (v := ?vAC1) rfl (by kernel_rfl) ?qAC1 rfl hC2 ?yAC1 ?rAC1
     case yAC1 => intro wS h; obtain ⟨q0, q1, q2, q3⟩ := fSAC.out wS h; clear h; go_simp; try rfl
     case qAC1 => exact fun _ _ _ h => h
     dsimp only [Act.put]
     try simp only [puts]
     refine wpTx_take (v := ?vAC2) rfl (by kernel_rfl) ?qAC2 rfl hC2 ?yAC2 ?rAC2
     case yAC2 => intro wS h; obtain ⟨q0, q1, q2, q3⟩ := fSAC.out wS h; clear h; go_simp; try rfl
     case qAC2 => exact fun _ _ _ h => h
     dsimp only [Act.put]
     try simp only [puts]
     refine wpTx_take (v := ?vAC3) rfl (by kernel_rfl) ?qAC3 rfl hC2 ?yAC3 ?rAC3
     case yAC3 => intro wS h; obtain ⟨q0, q1, q2, q3⟩ := fSAC.out wS h; clear h; go_simp; try rfl
     case qAC3 => exact fun _ _ _ h => h
     dsimp only [Act.put]
     try simp only [puts]
     refine wpTx_take (v := ?vAC4) rfl (by kernel_rfl) ?qAC4 rfl hC2 ?yAC4 ?rAC4
     case yAC4 => intro wS h; obtain ⟨q0, q1, q2, q3⟩ := fSAC.out wS h; clear h; go_simp; try rfl
     case qAC4 => exact fun _ _ _ h => h
     dsimp only [Act.put]
     try simp only [puts]
     refine wpTx_take (v := ?vAC5) rfl (by kernel_rfl) ?qAC5 rfl hC2 ?yAC5 ?rAC5
     case yAC5 => intro wS h; obtain ⟨q0, q1, q2, q3⟩ := fSAC.out wS h; clear h; go_simp; try rfl
     case qAC5 => exact fun _ _ _ h => h
     dsimp only [Act.put]
     try simp only [puts]
     refine wpTx_take (v := ?vAC6) rfl (by kernel_rfl) ?qAC6 rfl hC2 ?yAC6 ?rAC6
     case yAC6 => intro wS h; obtain ⟨q0, q1, q2, q3⟩ := fSAC.out wS h; clear h; go_simp; try rfl
     case qAC6 => exact fun _ _ _ h => h
     dsimp only [Act.put]
     try simp only [puts]
     try clear fSAC
     have hT3 := hT2.but hC2 (fun h => h)
     have hA3 := hA2.but hC2 (fun h => h)
     have u0 := (hC2.cell (p := ⟨gA, jn * 3, none⟩) ltA (fun h => h)).trans p0
     have u1 := (hC2.cell (p := ⟨gA, jn * 3 + 1, none⟩) ltA (fun h => h)).trans p1
     have u2 := (hC2.cell (p := ⟨gA, jn * 3 + 2, none⟩) ltA (fun h => h)).trans p2
     have z0 := hA3.fz (jn * 3)
     have z1 := hA3.fz (jn * 3 + 1)
     have z2 := hA3.fz (jn * 3 + 2)
     have zlt := hA3.lt
     clear p0 p1 p2 n0 n1 n2 hgm c20 c22
     refine wpTx_step (o := ?oAC7) (rest := ?rsAC7) ?hoAC7 ?hrAC7 ?stAC7
     case hoAC7 => rfl
     case hrAC7 => kernel_rfl
     case' stAC7 =>
     intro KS hKS
     go_simp
     refine hKS.out _ _ (fun h => absurd h (by decide)) ?_
     clear hKS KS
     refine wpTx_done rfl (by kernel_rfl) ?_
     have hA4 := hA3.set hjl s l
     have hB4 : But (· = gA) w3 (((w3.setCell ⟨gA, jn * 3, none⟩ (.bool true)).setCell ⟨gA, jn * 3 + 1, none⟩ (.string ⟨s.toArray⟩)).setCell ⟨gA, jn * 3 + 2, none⟩ (.string ⟨l.toArray⟩)) := ((But.setB _ _ _ _).trans (But.setB _ _ _ _)).trans (But.setB _ _ _ _)
     revert hA4 hB4
     clear u0 u1 u2 z0 z1 z2
     generalize (((w3.setCell ⟨gA, jn * 3, none⟩ (.bool true)).setCell ⟨gA, jn * 3 + 1, none⟩ (.string ⟨s.toArray⟩)).setCell ⟨gA, jn * 3 + 2, none⟩ (.string ⟨l.toArray⟩)) = w4
     intro hA4 hB4
     have hT4 := hT3.but hB4 hne
     have x1 := hT4.c1
     have y1 := hT4.fz 1
     have xlt := hT4.lt
     go_wp2_with fail
     exact bodyPost_end (v := .tuple #[]) (by simp [results, Tryz.results185, go_sem]) rfl ⟨rfl, (((hBW2.trans hC2).mono (fun _ _ h => h.elim)).next hB4 (fun _ _ h => Or.inr h)).next (But.setB _ _ _ _) (fun _ _ h => Or.inl h), hT4.set1 true, hA4.but (But.setB _ _ _ _) (fun h => hne h.symm)⟩
  ·have hT2 := hTW.but hB2 (fun h => h)
   have hA2 := hAW.but hB2 (fun h => h)
   have g2 := hT2.fz 2
   have glt := hT2.lt
   have c22 := hT2.c2
   clear HMG k0 k1 k2 e0 hTW hAW
   rcases HMV.out with ⟨hM, rfl⟩ | ⟨s, l, hM, rfl, rfl, rfl, rfl⟩
   ·have hRR : (tb, ch, true) = R := by rw [← HR.out, hM]
    clear HR hM HMV
    subst hRR
    go_wp2_with fail
    exact bodyPost_ret (v := .tuple #[]) (by simp [results, Tryz.results185, go_sem]) rfl ⟨rfl, (((hB0.trans hB2)).mono (fun _ _ h => h.elim)).next (But.setB _ _ _ _) (fun _ _ h => Or.inl h), hT2.set2 true, hA2.but (But.setB _ _ _ _) (fun h => hne h.symm)⟩
   ·clear HMV
    have c20 := hT2.c0
    have hBW2 : But (fun _ => False) w w2 := hB0.trans hB2
    have n0 : w2.cell? ⟨bm, 0, none⟩ = some (.bool true) := by rw [cell_of_row w2 _ 0 _ _ (0, 0) hgm]; rfl
    have n1 : w2.cell? ⟨bm, 1, none⟩ = some (.string ⟨s.toArray⟩) := by rw [cell_of_row w2 _ 1 _ _ (0, 0) hgm]; rfl
    have n2 : w2.cell? ⟨bm, 2, none⟩ = some (.string ⟨l.toArray⟩) := by rw [cell_of_row w2 _ 2 _ _ (0, 0) hgm]; rfl
    have p0 := hB2.cell (p := ⟨gA, jn * 3, none⟩) ltA (fun h => h)
    have p1 := hB2.cell (p := ⟨gA, jn * 3 + 1, none⟩) ltA (fun h => h)
    have p2 := hB2.cell (p := ⟨gA, jn * 3 + 2, none⟩) ltA (fun h => h)
    rw [q0'] at p0
    rw [q1'] at p1
    rw [q2'] at p2
    clear q0' q1' q2' hB2 ltT ltA ltb
    have ltA := hA2.lt
    have ltm := lt_of_block hgm
    go_wp2_with fail
    obtain ⟨dd, hnq, hdd⟩ : ∃ dd : Bool, (∀ wx, (binOp .neq 91 (.agg #[.bool true, .string ⟨s.toArray⟩, .string ⟨l.toArray⟩]) (.agg #[.bool o0, .string o1, .string o2])).run Tryz.prog wx = .ok (.bool dd) wx) ∧
      ((some (s, l) = o ∧ dd = false) ∨ (some (s, l) ≠ o ∧ dd = true)) := by
     refine ⟨_, fun wx => neq_state wx true o0 ⟨s.toArray⟩ ⟨l.toArray⟩ o1 o2, ?_⟩
     by_cases hsame : some (s, l) = o
     ·left
      refine ⟨hsame, ?_⟩
      subst hsame
      have hv : stV (some (s, l)) = #[.bool true, .string ⟨s.toArray⟩, .string ⟨l.toArray⟩] := rfl
      rw [hv] at hov
      simp only [Array.mk.injEq, List.cons.injEq, Value.bool.injEq, Value.string.injEq, and_true] at hov
      obtain ⟨rfl, rfl, rfl⟩ := hov
      simp
     ·right
      refine ⟨hsame, ?_⟩
      rw [Bool.not_eq_true', decide_eq_false_iff_not]
      rintro ⟨rfl, rfl, rfl⟩
      apply hsame
      cases o with
      | none => simp [stV] at hov
      | some m =>
       obtain ⟨ms, ml⟩ := m
       simp [stV] at hov
       obtain ⟨h1, h2⟩ := hov
       rw [h1, h2]
    have HDD := hid hdd
    clear hdd
    have hC1 : But (fun _ => False) w2 w2.drew := But.drew _ _
    refine wpTx_begin (But (fun _ => False) w2) 9 (by kernel_rfl) ?_
    have fSBB := hid (fun wS (h : (But (fun _ => False) w2) wS) => (And.intro ((h.cell (p := ⟨bm, 0, none⟩) ltm (fun h => h)).trans n0) (And.intro ((h.cell (p := ⟨bm, 1, none⟩) ltm (fun h => h)).trans n1) (And.intro ((h.cell (p := ⟨bm, 2, none⟩) ltm (fun h => h)).trans n2) (And.intro ((h.cell (p := ⟨bt, 0, none⟩) glt (fun h => h)).trans c20) (And.intro ((h.cell (p := ⟨gA, jn * 3, none⟩) ltA (fun h => h)).trans p0) (And.intro ((h.cell (p := ⟨gA, jn * 3 + 1, none⟩) ltA (fun h => h)).trans p1) ((h.cell (p := ⟨gA, jn * 3 + 2, none⟩) ltA (fun h => h)).trans p2))))))))
    refine wpTx_take (v := ?vBB0) rfl (by kernel_rfl) ?qBB0 rfl hC1 ?yBB0 ?rBB0
    case yBB0 => intro wS h; obtain ⟨q0, q1, q2, q3, q4, q5, q6⟩ := fSBB.out wS h; clear h; go_simp; try rfl
    case qBB0 => exact fun _ _ _ h => h
    dsimp only [Act.put]
    try simp only [puts]
    refine wpTx_take (v := ?vBB1) rfl (by kernel_rfl) ?qBB1 rfl hC1 ?yBB1 ?rBB1
    case yBB1 => intro wS h; obtain ⟨q0, q1, q2, q3, q4, q5, q6⟩ := fSBB.out wS h; clear h; go_simp; try rfl
    case qBB1 => exact fun _ _ _ h => h
    dsimp only [Act.put]
    try simp only [puts]
    refine wpTx_take (v := ?vBB2) rfl (by kernel_rfl) ?qBB2 rfl hC1 ?yBB2 ?rBB2
    case yBB2 => intro wS h; obtain ⟨q0, q1, q2, q3, q4, q5, q6⟩ := fSBB.out wS h; clear h; go_simp; try rfl
    case qBB2 => exact fun _ _ _ h => h
    dsimp only [Act.put]
    try simp only [puts]
    refine wpTx_take (v := ?vBB3) rfl (by kernel_rfl) ?qBB3 rfl hC1 ?yBB3 ?rBB3
    case yBB3 => intro wS h; obtain ⟨q0, q1, q2, q3, q4, q5, q6⟩ := fSBB.out wS h; clear h; go_simp; try rfl
    case qBB3 => exact fun _ _ _ h => h
    dsimp only [Act.put]
    try simp only [puts]
    refine wpTx_take (v := ?vBB4) rfl (by kernel_rfl) ?qBB4 rfl hC1 ?yBB4 ?rBB4
    case yBB4 => intro wS h; obtain ⟨q0, q1, q2, q3, q4, q5, q6⟩ := fSBB.out wS h; clear h; go_simp; try rfl
    case qBB4 => exact fun _ _ _ h => h
    dsimp only [Act.put]
    try simp only [puts]
    refine wpTx_take (v := ?vBB5) rfl (by kernel_rfl) ?qBB5 rfl hC1 ?yBB5 ?rBB5
    case yBB5 => intro wS h; obtain ⟨q0, q1, q2, q3, q4, q5, q6⟩ := fSBB.out wS h; clear h; go_simp; try rfl
    case qBB5 => exact fun _ _ _ h => h
    dsimp only [Act.put]
    try simp only [puts]
    refine wpTx_take (v := ?vBB6) rfl (by kernel_rfl) ?qBB6 rfl hC1 ?yBB6 ?rBB6
    case yBB6 => intro wS h; obtain ⟨q0, q1, q2, q3, q4, q5, q6⟩ := fSBB.out wS h; clear h; go_simp; try rfl
    case qBB6 => exact fun _ _ _ h => h
    dsimp only [Act.put]
    try simp only [puts]
    refine wpTx_take (v := ?vBB7) rfl (by kernel_rfl) ?qBB7 rfl hC1 ?yBB7 ?rBB7
    case yBB7 => intro wS h; obtain ⟨q0, q1, q2, q3, q4, q5, q6⟩ := fSBB.out wS h; clear h; go_simp; try rfl
    case qBB7 => exact fun _ _ _ h => h
    dsimp only [Act.put]
    try simp only [puts]
    refine wpTx_take (v := ?vBB8) rfl (by kernel_rfl) ?qBB8 rfl hC1 ?yBB8 ?rBB8
    case yBB8 => intro wS h; obtain ⟨q0, q1, q2, q3, q4, q5, q6⟩ := fSBB.out wS h; clear h; go_simp; try rfl
    case qBB8 => exact fun _ _ _ h => h
    dsimp only [Act.put]
    try simp only [puts]
    try clear fSBB
    refine wpTx_done rfl (by kernel_rfl) ?_
    clear hnq
    rcases HDD.out with ⟨hsame, rfl⟩ | ⟨hsame, rfl⟩
    ·have hRR : (tb, ch, false) = R := by rw [← HR.out, hM]; simp only [if_pos hsame]
     clear HR hM HDD hsame
     subst hRR
     go_wp2_with fail
     exact bodyPost_end (v := .tuple #[]) (by simp [results, Tryz.results185, go_sem]) rfl ⟨rfl, (hBW2.trans (But.drew _ _)).mono (fun _ _ h => h.elim), hT2.but (But.drew (fun _ => False) _) (fun h => h), hA2.but (But.drew (fun _ => False) _) (fun h => h)⟩
    ·have hRR : (tb.set jn (some (s, l)), true, false) = R := by rw [← HR.out, hM]; simp only [if_neg hsame]
     clear HR hM HDD hsame
     subst hRR
     go_wp2_with fail
     have hC2 : But (fun _ => False) w2 w2.drew.drew := (But.drew _ _).trans (But.drew _ _)
     refine wpTx_begin (But (fun _ => False) w2) 7 (by kernel_rfl) ?_
     revert hC2
     clear hC1
     generalize w2.drew.drew = w3
     intro hC2
     have fSBC := hid (fun wS (h : (But (fun _ => False) w2) wS) => (And.intro ((h.cell (p := ⟨bm, 0, none⟩) ltm (fun h => h)).trans n0) (And.intro ((h.cell (p := ⟨bm, 1, none⟩) ltm (fun h => h)).trans n1) (And.intro ((h.cell (p := ⟨bm, 2, none⟩) ltm (fun h => h)).trans n2) ((h.cell (p := ⟨bt, 0, none⟩) glt (fun h => h)).trans c20)))))
     refine wpTx_take (v := ?vBC0) rfl (by kernel_rfl) ?qBC0 rfl hC2 ?yBC0 ?rBC0
     case yBC0 => intro wS h; obtain ⟨q0, q1, q2, q3⟩ := fSBC.out wS h; clear h; go_simp; try rfl
     case qBC0 => exact fun _ _ _ h => h
     dsimp only [Act.put]
     try simp only [puts]
     refine wpTx_take (v := ?vBC1) rfl (by kernel_rfl) ?qBC1 rfl hC2 ?yBC1 ?rBC1
     case yBC1 => intro wS h; obtain ⟨q0, q1, q2, q3⟩ := fSBC.out wS h; clear h; go_simp; try rfl
     case qBC1 => exact fun _ _ _ h => h
     dsimp only [Act.put]
     try simp only [puts]
     refine wpTx_take (v := ?vBC2) rfl (by kernel_rfl) ?qBC2 rfl hC2 ?yBC2 ?rBC2
     case yBC2 => intro wS h; obtain ⟨q0, q1, q2, q3⟩ := fSBC.out wS h; clear h; go_simp; try rfl
     case qBC2 => exact fun _ _ _ h => h
     dsimp only [Act.put]
     try simp only [puts]
     refine wpTx_take (v := ?vBC3) rfl (by kernel_rfl) ?qBC3 rfl hC2 ?yBC3 ?rBC3
     case yBC3 => intro wS h; obtain ⟨q0, q1, q2, q3⟩ := fSBC.out wS h; clear h; go_simp; try rfl
     case qBC3 => exact fun _ _ _ h => h
     dsimp only [Act.put]
     try simp only [puts]
     refine wpTx_take (v := ?vBC4) rfl (by kernel_rfl) ?qBC4 rfl hC2 ?yBC4 ?rBC4
     case yBC4 => intro wS h; obtain ⟨q0, q1, q2, q3⟩ := fSBC.out wS h; clear h; go_simp; try rfl
     case qBC4 => exact fun _ _ _ h => h
     dsimp only [Act.put]
     try simp only [puts]
     refine wpTx_take (v := ?vBC5) rfl (by kernel_rfl) ?qBC5 rfl hC2 ?yBC5 ?rBC5
     case yBC5 => intro wS h; obtain ⟨q0, q1, q2, q3⟩ := fSBC.out wS h; clear h; go_simp; try rfl
     case qBC5 => exact fun _ _ _ h => h
     dsimp only [Act.put]
     try simp only [puts]
     refine wpTx_take (v := ?vBC6) rfl (by kernel_rfl) ?qBC6 rfl hC2 ?yBC6 ?rBC6
     case yBC6 => intro wS h; obtain ⟨q0, q1, q2, q3⟩ := fSBC.out wS h; clear h; go_simp; try rfl
     case qBC6 => exact fun _ _ _ h => h
     dsimp only [Act.put]
     try simp only [puts]
     try clear fSBC
     have hT3 := hT2.but hC2 (fun h => h)
     have hA3 := hA2.but hC2 (fun h => h)
     have u0 := (hC2.cell (p := ⟨gA, jn * 3, none⟩) ltA (fun h => h)).trans p0
     have u1 := (hC2.cell (p := ⟨gA, jn * 3 + 1, none⟩) ltA (fun h => h)).trans p1
     have u2 := (hC2.cell (p := ⟨gA, jn * 3 + 2, none⟩) ltA (fun h => h)).trans p2
     have z0 := hA3.fz (jn * 3)
     have z1 := hA3.fz (jn * 3 + 1)
     have z2 := hA3.fz (jn * 3 + 2)
     have zlt := hA3.lt
     clear p0 p1 p2 n0 n1 n2 hgm c20 c22
     refine wpTx_step (o := ?oBC7) (rest := ?rsBC7) ?hoBC7 ?hrBC7 ?stBC7
     case hoBC7 => rfl
     case hrBC7 => kernel_rfl
     case' stBC7 =>
     intro KS hKS
     go_simp
     refine hKS.out _ _ (fun h => absurd h (by decide)) ?_
     clear hKS KS
     refine wpTx_done rfl (by kernel_rfl) ?_
     have hA4 := hA3.set hjl s l
     have hB4 : But (· = gA) w3 (((w3.setCell ⟨gA, jn * 3, none⟩ (.bool true)).setCell ⟨gA, jn * 3 + 1, none⟩ (.string ⟨s.toArray⟩)).setCell ⟨gA, jn * 3 + 2, none⟩ (.string ⟨l.toArray⟩)) := ((But.setB _ _ _ _).trans (But.setB _ _ _ _)).trans (But.setB _ _ _ _)
     revert hA4 hB4
     clear u0 u1 u2 z0 z1 z2
     generalize (((w3.setCell ⟨gA, jn * 3, none⟩ (.bool true)).setCell ⟨gA, jn * 3 + 1, none⟩ (.string ⟨s.toArray⟩)).setCell ⟨gA, jn * 3 + 2, none⟩ (.string ⟨l.toArray⟩)) = w4
     intro hA4 hB4
     have hT4 := hT3.but hB4 hne
     have x1 := hT4.c1
     have y1 := hT4.fz 1
     have xlt := hT4.lt
     go_wp2_with fail
     exact bodyPost_end (v := .tuple #[]) (by simp [results, Tryz.results185, go_sem]) rfl ⟨rfl, (((hBW2.trans hC2).mono (fun _ _ h => h.elim)).next hB4 (fun _ _ h => Or.inr h)).next (But.setB _ _ _ _) (fun _ _ h => Or.inl h), hT4.set1 true, hA4.but (But.setB _ _ _ _) (fun h => hne h.symm)⟩
end Go.Proofs.YtpfkkmacakjmbaaGreatDoor
