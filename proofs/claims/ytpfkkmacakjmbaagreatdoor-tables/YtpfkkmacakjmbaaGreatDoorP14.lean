import Derived.Test.YtpfkkmacakjmbaaGreatDoorP02
import Derived.Test.YtpfkkmacakjmbaaGreatDoorP13
import Derived.Laws.MakeOwn
namespace Go.Proofs.YtpfkkmacakjmbaaGreatDoor
open Go Go.RowKit Sp
set_option linter.unusedSimpArgs false
set_option linter.unusedVariables false
attribute [local go_sem ↓] Go.wp_at_zero Go.wp_at_succ
theorem State_info : (Tryz.prog.info? 91).map (fun i => (i.zero, i.size, i.bytes)) = some (some (.agg #[.bool false, .string ⟨#[]⟩, .string ⟨#[]⟩]), 3, 40) := by kernel_rfl
theorem made_tab (n : Nat) : madeCells #[.bool false, .string ⟨#[]⟩, .string ⟨#[]⟩] (n * 3) = (tabCells (List.replicate n none)).toArray := by
 apply Array.ext
 ·rw [size_madeCells]
  simp [tabCells, stV, List.flatMap_replicate]
 ·intro k h1 h2
  rw [size_madeCells] at h1
  have hk : k = k / 3 * 3 + k % 3 := by omega
  have hj : (List.replicate n (none : Option (List UInt8 × List UInt8)))[k / 3]? = some none := by rw [List.getElem?_replicate]; exact if_pos (by omega)
  have := tabCells_at hj (show k % 3 < 3 by omega)
  rw [← hk] at this
  have h3 : (tabCells (List.replicate n none)).toArray[k]? = some ((tabCells (List.replicate n none)).toArray[k]) := by rw [Array.getElem?_eq_getElem h2]
  rw [List.getElem?_toArray, this] at h3
  have h4 : (madeCells #[.bool false, .string ⟨#[]⟩, .string ⟨#[]⟩] (n * 3))[k]'(by rw [size_madeCells]; exact h1) = #[Value.bool false, .string ⟨#[]⟩, .string ⟨#[]⟩][k % 3]! := by
   simp [madeCells]
  rw [h4]
  generalize k % 3 = r at h3
  match r with
  | 0 => simp [stV] at h3; exact h3
  | 1 => simp [stV] at h3; exact h3
  | 2 => simp [stV] at h3; exact h3
  | r + 3 => simp [stV] at h3
theorem make_tab (n : Nat) (hn : n ≤ 1000) (w : World) : (Instr.makeSlice 45 (.int .i64 (n : Int)) (.int .i64 (n : Int))).run Tryz.prog w = .ok (.slice (some ⟨w.heap.size, 0, none⟩) n n) (w.alloc (.cells (tabCells (List.replicate n none)).toArray 91)) := by
 have hinf := State_info
 cases hi : Tryz.prog.info? 91 with
 | none => rw [hi] at hinf; cases hinf
 | some i =>
  rw [hi] at hinf
  simp only [Option.map_some, Option.some.injEq, Prod.mk.injEq] at hinf
  obtain ⟨hz, hs, hb⟩ := hinf
  have := run_make (P := Tryz.prog) w 45 91 i _ (by kernel_rfl) hi hz .i64 .i64 n n (by omega) (by omega) (by rw [hb]; omega) (by omega)
  rw [this, hs]
  simp only [Int.toNat_natCast, Value.cells]
  rw [made_tab]
theorem alloc3 (w : World) (x y z : Obj) : (((w.alloc x).alloc y).alloc z).heap[w.heap.size]? = some x ∧ (((w.alloc x).alloc y).alloc z).heap[w.heap.size + 1]? = some y ∧ (((w.alloc x).alloc y).alloc z).heap[w.heap.size + 1 + 1]? = some z := by
 have s1 : (w.alloc x).heap.size = w.heap.size + 1 := Array.size_push _
 have s2 : ((w.alloc x).alloc y).heap.size = w.heap.size + 1 + 1 := (Array.size_push _).trans (congrArg (· + 1) (Array.size_push _))
 have a1 := heap_alloc_new w x
 have a2 := heap_alloc_new (w.alloc x) y
 have a3 := heap_alloc_new ((w.alloc x).alloc y) z
 rw [s1] at a2
 rw [s2] at a3
 refine ⟨?_, ?_, a3⟩
 ·exact (((But.alloc (fun _ => False) (w.alloc x) y).trans (But.alloc _ _ _)).block _ (by omega) (fun h => h)).trans a1
 ·exact ((But.alloc (fun _ => False) ((w.alloc x).alloc y) z).block _ (by omega) (fun h => h)).trans a2
theorem into_T (bt gA bi : Nat) (cs : List Cls) (nl n : Nat) (T : Tn) (j : Int) (sb lb : List UInt8) (w : World) (hI : ClsAt w bi cs) (hw : WfC cs) (hn : cs.length ≤ 4) (hnl : nl ≤ 5) (hn1 : n ≤ 100)
  (hne : bt ≠ gA) (hT : TrnB w bt gA n T.2.1 T.2.2) (hA : TabAt w gA T.1) (hwf : wfT cs.length nl n T.1) (hb : okS cs.length nl sb lb) (hjr : -1 ≤ j ∧ j ≤ 1000) :
  Calls Tryz.prog 185 #[.pointer (some ⟨bt, 0, none⟩), .pointer (some ⟨bi, 0, none⟩), .int .i64 j, .agg #[.bool true, .string ⟨sb.toArray⟩, .string ⟨lb.toArray⟩]] w fun en w' => en = .returned (.tuple #[]) ∧ But (fun k => k = bt ∨ k = gA) w w' ∧
   TrnB w' bt gA n (intoT cs T j sb lb).2.1 (intoT cs T j sb lb).2.2 ∧ TabAt w' gA (intoT cs T j sb lb).1 := by
 obtain ⟨tb, ch, bad⟩ := T
 have hl := hwf.1
 have hok := hwf.okS hn1
 simp only at *
 clear hwf
 subst hl
 exact (into_any bt gA bi cs nl tb ch bad j sb lb w hI hw hn hnl hn1 hne hT hA hok hb hjr).mono (fun en w' h => ⟨h.1, h.2.1, h.2.2.1, h.2.2.2⟩)
def LeastPost (R : Option (List St)) (w : World) (en : Ending) (w' : World) : Prop := match R with
 | none => en = .returned (.tuple #[.slice none 0 0, .bool false])
 | some tb => ∃ gA, en = .returned (.tuple #[.slice (some ⟨gA, 0, none⟩) tb.length tb.length, .bool true]) ∧ TabAt w' gA tb ∧ w.heap.size ≤ gA
def BodB (w : World) (bb : Nat) (bd : Bod) (ak : Option Addr) (n capk : Nat) : Prop := w.heap[bb]? = some (.cells #[.int .i64 bd.cls, .int .i64 bd.meth, .string ⟨bd.locals.toArray⟩, .slice ak n capk, .slice none 0 0] 52)
theorem BodB.lt {w : World} {bb : Nat} {bd : Bod} {ak : Option Addr} {n capk : Nat} (h : BodB w bb bd ak n capk) : bb < w.heap.size := lt_of_block h
theorem BodB.but {F : Nat → Prop} {w w' : World} {bb : Nat} {bd : Bod} {ak : Option Addr} {n capk : Nat} (h : BodB w bb bd ak n capk) (hb : But F w w') (hf : ¬ F bb) : BodB w' bb bd ak n capk := (hb.block bb h.lt hf).trans h
set_option maxHeartbeats 1600000 in
set_option maxRecDepth 100000 in
theorem least_any (bi : Nat) (im : Img) (bd : Bod) (ak : Option Addr) (capk : Nat) (w : World) (hI : ImgAt w bi im) (hW : WfI im) (hbd : WfB im.classes im.sigs bd) (hc : w.ownsRow 0 144 4 (.slice ak bd.code.length capk) bd.code.length (insCells bd.code)) :
  Calls Tryz.prog 116 #[.pointer (some ⟨bi, 0, none⟩), .agg #[.int .i64 bd.cls, .int .i64 bd.meth, .string ⟨bd.locals.toArray⟩, .slice ak bd.code.length capk, .slice none 0 0]] w fun en w' => But (fun _ => False) w w' ∧ LeastPost (leastT im bd) w en w' := by
 obtain ⟨R, hRR⟩ : ∃ R, leastT im bd = R := ⟨_, rfl⟩
 rw [hRR]
 have HRR := hid hRR
 clear hRR
 have hwf0 := startTab_wf hbd
 obtain ⟨n, hn⟩ : ∃ n, bd.code.length = n := ⟨_, rfl⟩
 have hlen := hbd.len
 rw [hn] at hlen hc hwf0 ⊢
 have hmk := make_tab n (by omega)
 have hst := start_any bd ak n capk
 go_enter Tryz.func116, Tryz.ntmps116
 go_wp2_with fail
 clear hmk
 obtain ⟨W, hWd⟩ : ∃ W, W = (((w.alloc (.cells #[.int .i64 bd.cls, .int .i64 bd.meth, .string ⟨bd.locals.toArray⟩, .slice ak n capk, .slice none 0 0] 52)).alloc
    (.cells (tabCells (List.replicate n none)).toArray 91)).alloc (.cells #[.slice (some ⟨w.heap.size + 1, 0, none⟩) n n, .bool true, .bool false] 274)) := ⟨_, rfl⟩
 have hB0 : But (fun _ => False) w W := by rw [hWd]; exact ((But.alloc _ _ _).trans (But.alloc _ _ _)).trans (But.alloc _ _ _)
 have h3 := alloc3 w (.cells #[.int .i64 bd.cls, .int .i64 bd.meth, .string ⟨bd.locals.toArray⟩, .slice ak n capk, .slice none 0 0] 52) (.cells (tabCells (List.replicate n none)).toArray 91) (.cells #[.slice (some ⟨w.heap.size + 1, 0, none⟩) n n, .bool true, .bool false] 274)
 rw [← hWd] at h3 ⊢
 clear hWd
 obtain ⟨hgb, y1, y2⟩ := h3
 have hTb : TabAt W (w.heap.size + 1) (List.replicate n none) := y1
 have hTr : TrnB W (w.heap.size + 1 + 1) (w.heap.size + 1) n true false := y2
 clear y1 y2
 have hord : w.heap.size ≤ w.heap.size ∧ w.heap.size < w.heap.size + 1 ∧ w.heap.size + 1 < w.heap.size + 1 + 1 := by omega
 revert hgb hTb hTr hord
 generalize w.heap.size + 1 + 1 = bt
 generalize w.heap.size + 1 = gA
 obtain ⟨bb, hbb⟩ : ∃ bb, w.heap.size = bb := ⟨_, rfl⟩
 rw [hbb]
 intro hgb hTb hTr hord0
 have hord : w.heap.size ≤ bb ∧ bb < gA ∧ gA < bt := by omega
 have Hbb := hid hbb
 clear hbb hord0
 have b0 : W.cell? ⟨bb, 0, none⟩ = some (.int .i64 bd.cls) := by rw [cell_of_row W _ 0 _ _ (0, 0) hgb]; rfl
 have b1 : W.cell? ⟨bb, 1, none⟩ = some (.int .i64 bd.meth) := by rw [cell_of_row W _ 1 _ _ (0, 0) hgb]; rfl
 have b2 : W.cell? ⟨bb, 2, none⟩ = some (.string ⟨bd.locals.toArray⟩) := by rw [cell_of_row W _ 2 _ _ (0, 0) hgb]; rfl
 have b3 : W.cell? ⟨bb, 3, none⟩ = some (.slice ak n capk) := by rw [cell_of_row W _ 3 _ _ (0, 0) hgb]; rfl
 have b4 : W.cell? ⟨bb, 4, none⟩ = some (.slice none 0 0) := by rw [cell_of_row W _ 4 _ _ (0, 0) hgb]; rfl
 have ltb := lt_of_block hgb
 have e0 := hTr.c0
 have ltT := hTr.lt
 have hS0 : But (fun _ => False) W W.drew := But.drew _ _
 have HST := hid (hst W.drew)
 clear hst
 refine wpTx_begin (But (fun _ => False) W) 6 (by kernel_rfl) ?_
 have fSA := hid (fun wS (h : (But (fun _ => False) W) wS) => (And.intro ((h.cell (p := ⟨bt, 0, none⟩) ltT (fun h => h)).trans e0) (And.intro ((h.cell (p := ⟨bb, 0, none⟩) ltb (fun h => h)).trans b0) (And.intro ((h.cell (p := ⟨bb, 1, none⟩) ltb (fun h => h)).trans b1) (And.intro ((h.cell (p := ⟨bb, 2, none⟩) ltb (fun h => h)).trans b2) (And.intro ((h.cell (p := ⟨bb, 3, none⟩) ltb (fun h => h)).trans b3) ((h.cell (p := ⟨bb, 4, none⟩) ltb (fun h => h)).trans b4)))))))
 refine wpTx_take (v := ?vA0) rfl (by kernel_rfl) ?qA0 rfl hS0 ?yA0 ?rA0
 case yA0 => intro wS h; obtain ⟨q0, q1, q2, q3, q4, q5⟩ := fSA.out wS h; clear h; go_simp; try rfl
 case qA0 => exact fun _ _ _ h => h
 dsimp only [Act.put]
 try simp only [puts]
 refine wpTx_take (v := ?vA1) rfl (by kernel_rfl) ?qA1 rfl hS0 ?yA1 ?rA1
 case yA1 => intro wS h; obtain ⟨q0, q1, q2, q3, q4, q5⟩ := fSA.out wS h; clear h; go_simp; try rfl
 case qA1 => exact fun _ _ _ h => h
 dsimp only [Act.put]
 try simp only [puts]
 refine wpTx_take (v := ?vA2) rfl (by kernel_rfl) ?qA2 rfl hS0 ?yA2 ?rA2
 case yA2 => intro wS h; obtain ⟨q0, q1, q2, q3, q4, q5⟩ := fSA.out wS h; clear h; go_simp; try rfl
 case qA2 => exact fun _ _ _ h => h
 dsimp only [Act.put]
 try simp only [puts]
 refine wpTx_take (v := ?vA3) rfl (by kernel_rfl) ?qA3 rfl hS0 ?yA3 ?rA3
 case yA3 => intro wS h; obtain ⟨q0, q1, q2, q3, q4, q5⟩ := fSA.out wS h; clear h; go_simp; try rfl
 case qA3 => exact fun _ _ _ h => h
 dsimp only [Act.put]
 try simp only [puts]
 refine wpTx_take (v := ?vA4) rfl (by kernel_rfl) ?qA4 rfl hS0 ?yA4 ?rA4
 case yA4 => intro wS h; obtain ⟨q0, q1, q2, q3, q4, q5⟩ := fSA.out wS h; clear h; go_simp; try rfl
 case qA4 => exact fun _ _ _ h => h
 dsimp only [Act.put]
 try simp only [puts]
 try clear fSA
 refine wpTx_step (o := ?oA5) (rest := ?rsA5) ?hoA5 ?hrA5 ?stA5
 case hoA5 => rfl
 case hrA5 => kernel_rfl
 case' stA5 =>
 intro KS hKS
 go_simp
 refine HST.out.mono ?_
 rintro en w1 ⟨rfl, hB1⟩
 have hBW1 : But (fun _ => False) W w1 := hS0.trans hB1
 refine hKS.out _ _ (fun _ => hBW1) ?_
 clear hKS KS HST
 refine wpTx_step (o := ?oA6) (rest := ?rsA6) ?hoA6 ?hrA6 ?stA6
 case hoA6 => rfl
 case hrA6 => kernel_rfl
 case' stA6 =>
 intro KS hKS
 go_simp
 refine hKS.out _ _ (fun h => absurd h (by decide)) ?_
 clear hKS KS
 have hA1 := hTb.but hBW1 (fun h => h)
 have hT1 := hTr.but hBW1 (fun h => h)
 have hr0 : (List.replicate n (none : Option (List UInt8 × List UInt8)))[0]? = some none := by rw [List.getElem?_replicate]; exact if_pos hlen.1
 have u0 : w1.cell? ⟨gA, 0, none⟩ = some (.bool false) := hA1.cell (k := 0) hr0 (by omega)
 have u1 : w1.cell? ⟨gA, 1, none⟩ = some (.string ⟨#[]⟩) := hA1.cell (k := 1) hr0 (by omega)
 have u2 : w1.cell? ⟨gA, 2, none⟩ = some (.string ⟨#[]⟩) := hA1.cell (k := 2) hr0 (by omega)
 have z0 := hA1.fz 0
 have z1 := hA1.fz 1
 have z2 := hA1.fz 2
 have zlt := hA1.lt
 clear hr0
 refine wpTx_step (o := ?oA7) (rest := ?rsA7) ?hoA7 ?hrA7 ?stA7
 case hoA7 => rfl
 case hrA7 => kernel_rfl
 case' stA7 =>
 intro KS hKS
 go_simp
 refine hKS.out _ _ (fun h => absurd h (by decide)) ?_
 clear hKS KS
 refine wpTx_done rfl (by kernel_rfl) ?_
 have hA2 := hA1.set (j := 0) (by simpa using hlen.1) [] bd.locals
 have hB2 : But (· = gA) w1 (((w1.setCell ⟨gA, 0, none⟩ (.bool true)).setCell ⟨gA, 1, none⟩ (.string ⟨#[]⟩)).setCell ⟨gA, 2, none⟩ (.string ⟨bd.locals.toArray⟩)) := ((But.setB _ _ _ _).trans (But.setB _ _ _ _)).trans (But.setB _ _ _ _)
 have hA2' : TabAt (((w1.setCell ⟨gA, 0, none⟩ (.bool true)).setCell ⟨gA, 1, none⟩ (.string ⟨#[]⟩)).setCell ⟨gA, 2, none⟩ (.string ⟨bd.locals.toArray⟩)) gA (startTab bd) := by
  unfold startTab
  rw [hn]
  simpa using hA2
 clear hA2
 revert hA2' hB2
 clear u0 u1 u2 z0 z1 z2
 generalize (((w1.setCell ⟨gA, 0, none⟩ (.bool true)).setCell ⟨gA, 1, none⟩ (.string ⟨#[]⟩)).setCell ⟨gA, 2, none⟩ (.string ⟨bd.locals.toArray⟩)) = w2
 intro hB2 hA2
 have hT2 := hT1.but hB2 (fun h => by omega)
 have hgb2 : BodB w2 bb bd ak n capk := (hB2.block bb (Nat.lt_of_lt_of_le ltb hBW1.size) (fun h => by omega)).trans ((hBW1.block bb ltb (fun h => h)).trans hgb)
 have hB02 : But (fun _ => False) w w2 := by
  refine (hB0.trans hBW1).next hB2 (fun k hk h => ?_)
  omega
 clear hB2 hA1 hT1 hBW1 hB1 hS0 hTr hTb e0 ltT b0 b1 b2 b3 b4 ltb zlt hgb hB0
 clear w1 W
 have HN := hid hn
 clear hn
 go_wp2_with fail
 go_loopg [7] 80000 (fun mm rs wr => ∃ (r : Nat) (tb : List St) (ch : Bool), rs = .int .i64 r ∧ r ≤ 80000 ∧ r + mm ≤ 80000 ∧ 80000 ≤ r + mm ∧ But (fun _ => False) w wr ∧ BodB wr bb bd ak n capk ∧ TrnB wr bt gA n ch false ∧ TabAt wr gA tb ∧ wfT im.classes.length bd.locals.length n tb ∧ Hid (roundsT im bd mm (tb, ch, false) = R))
 case atStart => exact ⟨0, startTab bd, true, rfl, by omega, by omega, by omega, hB02, hgb2, hT2, hA2, hwf0, HRR.out⟩
 case round =>
  obtain ⟨r, tb, ch, rfl, hr1, hr2, hr3, hBr, hBo, hTr, hTa, hwf, HA⟩ := hrel
  have hgk : gk = 80000 - r := by omega
  rw [hgk] at HA
  clear hgk hr2
  have c0 := hTr.c0
  have c1 := hTr.c1
  have f1 := hTr.fz 1
  have clt := hTr.lt
  by_cases hlt : r < 80000 ∧ ch = true
  ·obtain ⟨hlt, rfl⟩ := hlt
   have hkn : (r : Int) < 80000 := by omega
   obtain ⟨SW, hSW⟩ : ∃ SW, sweepT im bd n 0 (tb, false, false) = SW := ⟨_, rfl⟩
   have HSW := hid hSW
   have HR1 : Hid (afterSweep im bd (80000 - (r + 1)) SW = R) := by
    show _ = _
    rw [← HA.out, show 80000 - r = (80000 - (r + 1)) + 1 from by omega, ← hSW, ← HN.out, roundsT_go]
   clear hSW HA
   go_wp2_with fail
   have hTr' := hTr.set1 false
   have hBs : But (· = bt) wr (wr.setCell ⟨bt, 1, none⟩ (.bool false)) := But.setB _ _ _ _
   have hBo' := hBo.but hBs (by omega)
   have hTa' := hTa.but hBs (by omega)
   have hBc : But (fun _ => False) w (wr.setCell ⟨bt, 1, none⟩ (.bool false)) := hBr.next hBs (fun k hk h => by omega)
   revert hTr' hBo' hTa' hBc
   clear hTr hBo hTa hBr c0 c1 f1 clt hBs
   generalize (wr.setCell ⟨bt, 1, none⟩ (.bool false)) = wc
   intro hTc hBo hTa hBc
   go_loopg [8] n (fun mm is wr => ∃ (i : Nat) (T : Tn), is = .int .i64 i ∧ i ≤ n ∧ i + mm ≤ n ∧ n ≤ i + mm ∧ But (fun _ => False) w wr ∧ BodB wr bb bd ak n capk ∧ TrnB wr bt gA n T.2.1 T.2.2 ∧ TabAt wr gA T.1 ∧ wfT im.classes.length bd.locals.length n T.1 ∧ Hid (sweepT im bd mm i T = SW))
   case atStart => exact ⟨0, (tb, false, false), rfl, by omega, by omega, by omega, hBc, hBo, hTc, hTa, hwf, HSW.out⟩
   case round =>
    obtain ⟨i, T, rfl, hi1, hi2, hi3, hBr, hBo, hTr, hTa, hwf, HA⟩ := hrel
    have hgk : gk = n - i := by omega
    rw [hgk] at HA
    clear hgk hi2
    have c0 := hTr.c0
    have c2 := hTr.c2
    have clt := hTr.lt
    have b3 : wr.cell? ⟨bb, 3, none⟩ = some (.slice ak n capk) := by rw [cell_of_row wr _ 3 _ _ (0, 0) hBo]; rfl
    have blt := hBo.lt
    by_cases hgo : i < n ∧ T.2.2 = false
    ·obtain ⟨hlt, hbf⟩ := hgo
     have hkn : (i : Int) < (n : Int) := by omega
     rw [hbf] at c2
     have htl : i < T.1.length := by rw [hwf.1]; exact hlt
     obtain ⟨o, ho⟩ : ∃ o, T.1[i] = o := ⟨_, rfl⟩
     have hgl := List.getElem?_eq_getElem htl
     rw [ho] at hgl
     have q0 := hTa.cell (k := 0) hgl (by omega)
     have q1 := hTa.cell (k := 1) hgl (by omega)
     have q2 := hTa.cell (k := 2) hgl (by omega)
     simp only [Nat.add_zero] at q0
     have alt := hTa.lt
     cases o with
     | none =>
      have q0' : wr.cell? ⟨gA, i * 3, none⟩ = some (.bool false) := q0
      have HN1 : Hid (sweepT im bd (n - (i + 1)) (i + 1) T = SW) := by
       show _ = _
       rw [← HA.out, show n - i = (n - (i + 1)) + 1 from by omega, sweepT_some hbf (stepT_skip hgl)]
      clear q0 q1 q2 hgl ho HA
      go_wp2_with fail
      go_roundg (n - (i + 1))
      case measure => omega
      case rel => exact ⟨i + 1, T, by simp, by omega, by omega, by omega, hBr, hBo, hTr, hTa, hwf, HN1.out⟩
     | some st =>
      obtain ⟨st, lo⟩ := st
      have q0' : wr.cell? ⟨gA, i * 3, none⟩ = some (.bool true) := q0
      have q1' : wr.cell? ⟨gA, i * 3 + 1, none⟩ = some (.string ⟨st.toArray⟩) := q1
      have q2' : wr.cell? ⟨gA, i * 3 + 2, none⟩ = some (.string ⟨lo.toArray⟩) := q2
      have HGL := hid hgl
      clear q0 q1 q2 hgl ho
      have hltc : i < bd.code.length := by rw [HN.out]; exact hlt
      have hx := List.getElem?_eq_getElem hltc
      have hwx := hbd.code _ (List.getElem_mem hltc)
      obtain ⟨X, hX⟩ : ∃ X, bd.code[i] = X := ⟨_, rfl⟩
      rw [hX] at hx hwx
      clear hX
      obtain ⟨g, hak, hg1, hg2, hcell⟩ := owns_two hc hlen.1
      subst hak
      have i0 := (hBr.cell (p := ⟨g, _, none⟩) hg1 (fun h => h)).trans (hcell _ _ (insCells_at0 hx))
      have i1 := (hBr.cell (p := ⟨g, _, none⟩) hg1 (fun h => h)).trans (hcell _ _ (insCells_at1 hx))
      have i2 := (hBr.cell (p := ⟨g, _, none⟩) hg1 (fun h => h)).trans (hcell _ _ (insCells_at2 hx))
      have i3 := (hBr.cell (p := ⟨g, _, none⟩) hg1 (fun h => h)).trans (hcell _ _ (insCells_at3 hx))
      have glt : g < wr.heap.size := Nat.lt_of_lt_of_le hg1 hBr.size
      clear hcell
      have HX := hid hx
      clear hx
      have hok := hwf.okS hlen.2 i st lo HGL.out
      obtain ⟨m1, m2, okb, hev, hEv⟩ : ∃ m1 m2 okb, effV (effT im.classes im.sigs bd X st lo) st lo = .tuple #[.agg #[.bool true, .string m1, .string m2], .bool okb] ∧
        ((effT im.classes im.sigs bd X st lo = none ∧ okb = false) ∨ ∃ s l, effT im.classes im.sigs bd X st lo = some (s, l) ∧ okb = true ∧ m1 = ⟨s.toArray⟩ ∧ m2 = ⟨l.toArray⟩) := by
       unfold effV
       cases he : effT im.classes im.sigs bd X st lo with
       | none => exact ⟨_, _, false, rfl, Or.inl ⟨rfl, rfl⟩⟩
       | some m => exact ⟨_, _, true, rfl, Or.inr ⟨m.1, m.2, rfl, rfl, rfl, rfl⟩⟩
      have heff := fun (wx : World) (h : But (fun _ => False) wr wx) => effect_any bi im bd (some ⟨g, 0, none⟩) n capk X st lo wx ((hI.but hBr).but h) hW hbd hwx hok.1 (by have := hok.2.2.2; omega) hok.2.2.1 trivial
      rw [hev] at heff
      have HEF := hid heff
      have HEV := hid hEv
      clear heff hev hEv
      have b0 : wr.cell? ⟨bb, 0, none⟩ = some (.int .i64 bd.cls) := by rw [cell_of_row wr _ 0 _ _ (0, 0) hBo]; rfl
      have b1 : wr.cell? ⟨bb, 1, none⟩ = some (.int .i64 bd.meth) := by rw [cell_of_row wr _ 1 _ _ (0, 0) hBo]; rfl
      have b2 : wr.cell? ⟨bb, 2, none⟩ = some (.string ⟨bd.locals.toArray⟩) := by rw [cell_of_row wr _ 2 _ _ (0, 0) hBo]; rfl
      have b4 : wr.cell? ⟨bb, 4, none⟩ = some (.slice none 0 0) := by rw [cell_of_row wr _ 4 _ _ (0, 0) hBo]; rfl
      go_wp2_with fail
      have hS0 : But (fun _ => False) wr wr.drew := But.drew _ _
      refine wpTx_begin (But (fun _ => False) wr) 21 (by kernel_rfl) ?_
      have fSE := hid (fun wS (h : (But (fun _ => False) wr) wS) => (And.intro ((h.cell (p := ⟨bt, 0, none⟩) clt (fun h => h)).trans c0) (And.intro ((h.cell (p := ⟨gA, i * 3, none⟩) alt (fun h => h)).trans q0') (And.intro ((h.cell (p := ⟨gA, i * 3 + 1, none⟩) alt (fun h => h)).trans q1') (And.intro ((h.cell (p := ⟨gA, i * 3 + 2, none⟩) alt (fun h => h)).trans q2') (And.intro ((h.cell (p := ⟨bb, 0, none⟩) blt (fun h => h)).trans b0) (And.intro ((h.cell (p := ⟨bb, 1, none⟩) blt (fun h => h)).trans b1) (And.intro ((h.cell (p := ⟨bb, 2, none⟩) blt (fun h => h)).trans b2) (And.intro ((h.cell (p := ⟨bb, 3, none⟩) blt (fun h => h)).trans b3) (And.intro ((h.cell (p := ⟨bb, 4, none⟩) blt (fun h => h)).trans b4) (And.intro ((h.cell (p := ⟨g, i * 4, none⟩) glt (fun h => h)).trans i0) (And.intro ((h.cell (p := ⟨g, i * 4 + 1, none⟩) glt (fun h => h)).trans i1) (And.intro ((h.cell (p := ⟨g, i * 4 + 2, none⟩) glt (fun h => h)).trans i2) ((h.cell (p := ⟨g, i * 4 + 3, none⟩) glt (fun h => h)).trans i3))))))))))))))
      refine wpTx_take (v := ?vE0) rfl (by kernel_rfl) ?qE0 rfl hS0 ?yE0 ?rE0
      case yE0 => intro wS h; obtain ⟨q0, q1, q2, q3, q4, q5, q6, q7, q8, q9, q10, q11, q12⟩ := fSE.out wS h; clear h; go_simp; try rfl
      case qE0 => exact fun _ _ _ h => h
      dsimp only [Act.put]
      try simp only [puts]
      refine wpTx_take (v := ?vE1) rfl (by kernel_rfl) ?qE1 rfl hS0 ?yE1 ?rE1
      case yE1 => intro wS h; obtain ⟨q0, q1, q2, q3, q4, q5, q6, q7, q8, q9, q10, q11, q12⟩ := fSE.out wS h; clear h; go_simp; try rfl
      case qE1 => exact fun _ _ _ h => h
      dsimp only [Act.put]
      try simp only [puts]
      refine wpTx_take (v := ?vE2) rfl (by kernel_rfl) ?qE2 rfl hS0 ?yE2 ?rE2
      case yE2 => intro wS h; obtain ⟨q0, q1, q2, q3, q4, q5, q6, q7, q8, q9, q10, q11, q12⟩ := fSE.out wS h; clear h; go_simp; try rfl
      case qE2 => exact fun _ _ _ h => h
      dsimp only [Act.put]
      try simp only [puts]
      refine wpTx_take (v := ?vE3) rfl (by kernel_rfl) ?qE3 rfl hS0 ?yE3 ?rE3
      case yE3 => intro wS h; obtain ⟨q0, q1, q2, q3, q4, q5, q6, q7, q8, q9, q10, q11, q12⟩ := fSE.out wS h; clear h; go_simp; try rfl
      case qE3 => exact fun _ _ _ h => h
      dsimp only [Act.put]
      try simp only [puts]
      refine wpTx_take (v := ?vE4) rfl (by kernel_rfl) ?qE4 rfl hS0 ?yE4 ?rE4
      case yE4 => intro wS h; obtain ⟨q0, q1, q2, q3, q4, q5, q6, q7, q8, q9, q10, q11, q12⟩ := fSE.out wS h; clear h; go_simp; try rfl
      case qE4 => exact fun _ _ _ h => h
      dsimp only [Act.put]
      try simp only [puts]
      refine wpTx_take (v := ?vE5) rfl (by kernel_rfl) ?qE5 rfl hS0 ?yE5 ?rE5
      case yE5 => intro wS h; obtain ⟨q0, q1, q2, q3, q4, q5, q6, q7, q8, q9, q10, q11, q12⟩ := fSE.out wS h; clear h; go_simp; try rfl
      case qE5 => exact fun _ _ _ h => h
      dsimp only [Act.put]
      try simp only [puts]
      refine wpTx_take (v := ?vE6) rfl (by kernel_rfl) ?qE6 rfl hS0 ?yE6 ?rE6
      case yE6 => intro wS h; obtain ⟨q0, q1, q2, q3, q4, q5, q6, q7, q8, q9, q10, q11, q12⟩ := fSE.out wS h; clear h; go_simp; try rfl
      case qE6 => exact fun _ _ _ h => h
      dsimp only [Act.put]
      try simp only [puts]
      refine wpTx_take (v := ?vE7) rfl (by kernel_rfl) ?qE7 rfl hS0 ?yE7 ?rE7
      case yE7 => intro wS h; obtain ⟨q0, q1, q2, q3, q4, q5, q6, q7, q8, q9, q10, q11, q12⟩ := fSE.out wS h; clear h; go_simp; try rfl
      case qE7 => exact fun _ _ _ h => h
      dsimp only [Act.put]
      try simp only [puts]
      refine wpTx_take (v := ?vE8) rfl (by kernel_rfl) ?qE8 rfl hS0 ?yE8 ?rE8
      case yE8 => intro wS h; obtain ⟨q0, q1, q2, q3, q4, q5, q6, q7, q8, q9, q10, q11, q12⟩ := fSE.out wS h; clear h; go_simp; try rfl
      case qE8 => exact fun _ _ _ h => h
      dsimp only [Act.put]
      try simp only [puts]
      refine wpTx_take (v := ?vE9) rfl (by kernel_rfl) ?qE9 rfl hS0 ?yE9 ?rE9
      case yE9 => intro wS h; obtain ⟨q0, q1, q2, q3, q4, q5, q6, q7, q8, q9, q10, q11, q12⟩ := fSE.out wS h; clear h; go_simp; try rfl
      case qE9 => exact fun _ _ _ h => h
      dsimp only [Act.put]
      try simp only [puts]
      refine wpTx_take (v := ?vE10) rfl (by kernel_rfl) ?qE10 rfl hS0 ?yE10 ?rE10
      case yE10 => intro wS h; obtain ⟨q0, q1, q2, q3, q4, q5, q6, q7, q8, q9, q10, q11, q12⟩ := fSE.out wS h; clear h; go_simp; try rfl
      case qE10 => exact fun _ _ _ h => h
      dsimp only [Act.put]
      try simp only [puts]
      refine wpTx_take (v := ?vE11) rfl (by kernel_rfl) ?qE11 rfl hS0 ?yE11 ?rE11
      case yE11 => intro wS h; obtain ⟨q0, q1, q2, q3, q4, q5, q6, q7, q8, q9, q10, q11, q12⟩ := fSE.out wS h; clear h; go_simp; try rfl
      case qE11 => exact fun _ _ _ h => h
      dsimp only [Act.put]
      try simp only [puts]
      refine wpTx_take (v := ?vE12) rfl (by kernel_rfl) ?qE12 rfl hS0 ?yE12 ?rE12
      case yE12 => intro wS h; obtain ⟨q0, q1, q2, q3, q4, q5, q6, q7, q8, q9, q10, q11, q12⟩ := fSE.out wS h; clear h; go_simp; try rfl
      case qE12 => exact fun _ _ _ h => h
      dsimp only [Act.put]
      try simp only [puts]
      refine wpTx_take (v := ?vE13) rfl (by kernel_rfl) ?qE13 rfl hS0 ?yE13 ?rE13
      case yE13 => intro wS h; obtain ⟨q0, q1, q2, q3, q4, q5, q6, q7, q8, q9, q10, q11, q12⟩ := fSE.out wS h; clear h; go_simp; try rfl
      case qE13 => exact fun _ _ _ h => h
      dsimp only [Act.put]
      try simp only [puts]
      try clear fSE
      refine wpTx_fork (q := 18) (o := ?oE14) (oq := ?oqE14) (rest := ?rsE14) (restq := ?rqE14) ?hoE14 ?hqE14 ?hrE14 ?stE14 ?sqE14
      case hoE14 => rfl
      case hqE14 => rfl
      case hrE14 => kernel_rfl
      case' stE14 =>
       intro KS hKS
       go_simp
       refine (HEF.out wr.drew hS0).mono ?_
       rintro en w1 ⟨rfl, hB1⟩
       have hBW1 : But (fun _ => False) wr w1 := hS0.trans hB1
       refine hKS.out _ _ (fun _ => hBW1) ?_
       clear hKS KS
       refine wpTx_take (v := ?vE15) rfl (by kernel_rfl) ?qE15 rfl hBW1 ?yE15 ?rE15
       case yE15 => intro wS h; clear h; go_simp; try rfl
       case qE15 => exact fun _ _ _ h => h
       dsimp only [Act.put]
       try simp only [puts]
       refine wpTx_take (v := ?vE16) rfl (by kernel_rfl) ?qE16 rfl hBW1 ?yE16 ?rE16
       case yE16 => intro wS h; clear h; go_simp; try rfl
       case qE16 => exact fun _ _ _ h => h
       dsimp only [Act.put]
       try simp only [puts]
       refine wpTx_take (v := ?vE17) rfl (by kernel_rfl) ?qE17 rfl hBW1 ?yE17 ?rE17
       case yE17 => intro wS h; clear h; go_simp; try rfl
       case qE17 => exact fun _ _ _ h => h
       dsimp only [Act.put]
       try simp only [puts]
       refine wpTx_step (o := ?oE18) (rest := ?rsE18) ?hoE18 ?hrE18 ?stE18
       case hoE18 => rfl
       case hrE18 => kernel_rfl
       case' stE18 =>
       intro KS hKS
       go_simp
       refine hKS.out _ _ (fun _ => hBW1.trans (But.alloc _ _ _)) ?_
       clear hKS KS
       refine wpTx_step (o := ?oE19) (rest := ?rsE19) ?hoE19 ?hrE19 ?stE19
       case hoE19 => rfl
       case hrE19 => kernel_rfl
       case' stE19 =>
       intro KS hKS
       go_simp
       refine hKS.out _ _ (fun _ => hBW1.trans (But.alloc _ _ _)) ?_
       clear hKS KS
       refine wpTx_step (o := ?oE20) (rest := ?rsE20) ?hoE20 ?hrE20 ?stE20
       case hoE20 => rfl
       case hrE20 => kernel_rfl
       case' stE20 =>
       intro KS hKS
       go_simp
       refine hKS.out _ _ (fun _ => hBW1.trans (But.alloc _ _ _)) ?_
       clear hKS KS
       refine wpTx_done rfl (by kernel_rfl) ?_
       have hB2 : But (fun _ => False) wr (w1.alloc (.cells #[.bool true, .string m1, .string m2] 91)) := hBW1.trans (But.alloc _ _ _)
       have hgm : (w1.alloc (.cells #[.bool true, .string m1, .string m2] 91)).heap[w1.heap.size]? = some (.cells #[.bool true, .string m1, .string m2] 91) := heap_alloc_new _ _
       have hbm : wr.heap.size ≤ w1.heap.size := hBW1.size
       revert hB2 hgm hbm
       clear hB1 hBW1
       generalize (w1.alloc (.cells #[.bool true, .string m1, .string m2] 91)) = w2
       generalize w1.heap.size = bm
       intro hB2 hgm hbm
       clear w1
      case' sqE14 =>
       intro KS hKS
       go_simp
       have hBd : But (fun _ => False) wr (wr.alloc (.cells #[.bool false, .string ⟨#[]⟩, .string ⟨#[]⟩] 91)).drew := (But.alloc _ _ _).trans (But.drew _ _)
       have hgd : (wr.alloc (.cells #[.bool false, .string ⟨#[]⟩, .string ⟨#[]⟩] 91)).drew.heap[wr.heap.size]? = some (.cells #[.bool false, .string ⟨#[]⟩, .string ⟨#[]⟩] 91) := heap_alloc_new _ _
       revert hBd hgd
       generalize (wr.alloc (.cells #[.bool false, .string ⟨#[]⟩, .string ⟨#[]⟩] 91)).drew = Wd
       generalize hbmE : wr.heap.size = bm
       intro hBd hgd
       have hbm : wr.heap.size ≤ bm := by omega
       have HBM := hid hbmE
       clear hbmE
       refine hKS.out _ _ (fun _ => hBd) ?_
       clear hKS KS
       refine wpTy_step (o := ?oEY14) (rest := ?rsEY14) ?hoEY14 ?hkEY14 ?hrEY14 ?stEY14
       case hoEY14 => rfl
       case hkEY14 => kernel_rfl
       case hrEY14 => kernel_rfl
       case' stEY14 =>
       intro KS hKS
       go_simp
       refine (HEF.out Wd hBd).mono ?_
       rintro en w1 ⟨rfl, hB1⟩
       have hBW1 : But (fun _ => False) wr w1 := hBd.trans hB1
       have hgd1 : w1.heap[bm]? = some (.cells #[.bool false, .string ⟨#[]⟩, .string ⟨#[]⟩] 91) := (hB1.block bm (lt_of_block hgd) (fun h => h)).trans hgd
       refine hKS.out _ _ (fun _ => hBW1) ?_
       clear hKS KS
       refine wpTy_take (v := ?vEY15) rfl (by kernel_rfl) ?qEY15 rfl hBW1 ?yEY15 ?rEY15
       case yEY15 => intro wS h; clear h; go_simp; try rfl
       case qEY15 => exact fun _ _ _ h => h
       dsimp only [Act.put]
       try simp only [puts]
       refine wpTy_take (v := ?vEY16) rfl (by kernel_rfl) ?qEY16 rfl hBW1 ?yEY16 ?rEY16
       case yEY16 => intro wS h; clear h; go_simp; try rfl
       case qEY16 => exact fun _ _ _ h => h
       dsimp only [Act.put]
       try simp only [puts]
       refine wpTy_take (v := ?vEY17) rfl (by kernel_rfl) ?qEY17 rfl hBW1 ?yEY17 ?rEY17
       case yEY17 => intro wS h; clear h; go_simp; try rfl
       case qEY17 => exact fun _ _ _ h => h
       dsimp only [Act.put]
       try simp only [puts]
       refine wpTy_past ?_
       have r0 : w1.cell? ⟨bm, 0, none⟩ = some (.bool false) := by rw [cell_of_row w1 _ 0 _ _ (0, 0) hgd1]; rfl
       have r1 : w1.cell? ⟨bm, 1, none⟩ = some (.string ⟨#[]⟩) := by rw [cell_of_row w1 _ 1 _ _ (0, 0) hgd1]; rfl
       have r2 : w1.cell? ⟨bm, 2, none⟩ = some (.string ⟨#[]⟩) := by rw [cell_of_row w1 _ 2 _ _ (0, 0) hgd1]; rfl
       have z0 : w1.frozen? ⟨bm, 0, none⟩ = false := frozen_of_row w1 bm 0 _ _ hgd1
       have z1 : w1.frozen? ⟨bm, 1, none⟩ = false := frozen_of_row w1 bm 1 _ _ hgd1
       have z2 : w1.frozen? ⟨bm, 2, none⟩ = false := frozen_of_row w1 bm 2 _ _ hgd1
       have rlt := lt_of_block hgd1
       have hbs : ∀ j u (wx : World), But (fun _ => False) wr wx → But (fun _ => False) wr (wx.setCell ⟨bm, j, none⟩ u) := fun j u wx h => h.next (But.setB _ _ _ _) (fun k hk e => by omega)
       have hB2 := hbs 2 (.string m2) _ (hbs 1 (.string m1) _ (hbs 0 (.bool true) _ hBW1))
       have hgm := heap_setCell_same _ bm 2 _ _ (.string m2) (heap_setCell_same _ bm 1 _ _ (.string m1) (heap_setCell_same _ bm 0 _ _ (.bool true) hgd1))
       refine wpTx_step (o := ?oEY19) (rest := ?rsEY19) ?hoEY19 ?hrEY19 ?stEY19
       case hoEY19 => rfl
       case hrEY19 => kernel_rfl
       case' stEY19 =>
       intro KS hKS
       go_simp
       refine hKS.out _ _ (fun _ => hB2) ?_
       clear hKS KS
       refine wpTx_step (o := ?oEY20) (rest := ?rsEY20) ?hoEY20 ?hrEY20 ?stEY20
       case hoEY20 => rfl
       case hrEY20 => kernel_rfl
       case' stEY20 =>
       intro KS hKS
       go_simp
       refine hKS.out _ _ (fun _ => hB2) ?_
       clear hKS KS
       refine wpTx_done rfl (by kernel_rfl) ?_
       have hgm' : (((w1.setCell ⟨bm, 0, none⟩ (.bool true)).setCell ⟨bm, 1, none⟩ (.string m1)).setCell ⟨bm, 2, none⟩ (.string m2)).heap[bm]? = some (.cells #[.bool true, .string m1, .string m2] 91) := hgm
       clear hgm
       revert hB2 hgm'
       clear hBd hgd hbs hgd1 r0 r1 r2 z0 z1 z2 rlt hB1 hBW1
       generalize (((w1.setCell ⟨bm, 0, none⟩ (.bool true)).setCell ⟨bm, 1, none⟩ (.string m1)).setCell ⟨bm, 2, none⟩ (.string m2)) = w2
       intro hB2 hgm
       clear w1 Wd HBM
      ·clear HEF b0 b1 b2 b3 b4 q0' q1' q2' i0 i1 i2 i3 c0 c2
       have hTaL := hTa.lt
       have hTrL := hTr.lt
       have hTr2 := hTr.but hB2 (fun h => h)
       have hTa2 := hTa.but hB2 (fun h => h)
       have hBo2 := hBo.but hB2 (fun h => h)
       have hBw2 := hBr.trans hB2
       clear hTr hTa hBo hB2 hBr hS0 clt alt blt glt
       rcases HEV.out with ⟨hE, rfl⟩ | ⟨s, l, hE, rfl, rfl, rfl⟩
       ·have hR0 : none = R := by
         rw [← HR1.out, ← HA.out, show n - i = (n - (i + 1)) + 1 from by omega, sweepT_none hbf (stepT_none HX.out HGL.out hE)]
         rfl
        clear HEV hE HA HR1 HX HGL
        subst hR0
        go_wp2_with fail
        exact bodyPost_ret (v := .tuple #[.slice none 0 0, .bool false]) (by simp [results, Tryz.results116, go_sem]) rfl ⟨hBw2, rfl⟩
       ·have heo := effT_ok hW hwx (hwf.2 i st lo HGL.out).1 hE
        have HST := hid (stepT_some HX.out HGL.out hE)
        have HN1 : Hid (sweepT im bd (n - (i + 1)) (i + 1) (intoT im.classes (intoT im.classes T (waysT X i).1 s l) (waysT X i).2 s l) = SW) := by
         show _ = _
         rw [← HA.out, show n - i = (n - (i + 1)) + 1 from by omega, sweepT_some hbf HST.out]
        have hz1 := intoT_wf hW.nc hW.cls (j := (waysT X i).1) hwf heo.1 (by have := (hwf.2 i st lo HGL.out).2; omega)
        have hz2 := intoT_wf hW.nc hW.cls (j := (waysT X i).2) hz1.1 heo.1 (by have := (hwf.2 i st lo HGL.out).2; omega)
        have hob : okS im.classes.length bd.locals.length s l := ⟨heo.1.1, heo.1.2.1, heo.1.2.2, by have := heo.2; have := (hwf.2 i st lo HGL.out).2; have := setN_le T.1; have := hwf.1; omega⟩
        have HZ1 := hid hz1
        have HZ2 := hid hz2
        have HBF := hid hbf
        clear HEV hE HA HR1 heo HST hz1 hz2 HGL hok hbf
        obtain ⟨g', hak', hg1', hg2', hcell⟩ := owns_two hc hlen.1
        cases hak'
        have i0 := (hBw2.cell (p := ⟨g, _, none⟩) hg1 (fun h => h)).trans (hcell _ _ (insCells_at0 HX.out))
        have i1 := (hBw2.cell (p := ⟨g, _, none⟩) hg1 (fun h => h)).trans (hcell _ _ (insCells_at1 HX.out))
        have i2 := (hBw2.cell (p := ⟨g, _, none⟩) hg1 (fun h => h)).trans (hcell _ _ (insCells_at2 HX.out))
        have i3 := (hBw2.cell (p := ⟨g, _, none⟩) hg1 (fun h => h)).trans (hcell _ _ (insCells_at3 HX.out))
        have glt : g < w2.heap.size := Nat.lt_of_lt_of_le hg1 hBw2.size
        have b3 : w2.cell? ⟨bb, 3, none⟩ = some (.slice (some ⟨g, 0, none⟩) n capk) := by rw [cell_of_row w2 _ 3 _ _ (0, 0) hBo2]; rfl
        have blt := hBo2.lt
        clear hcell
        go_wp2_with fail
        refine (ways_any X i w2 (by omega)).mono ?_
        rintro en w3 ⟨rfl, hB3⟩
        have hwr : (-1 ≤ (waysT X i).1 ∧ (waysT X i).1 ≤ 1000) ∧ (-1 ≤ (waysT X i).2 ∧ (waysT X i).2 ≤ 1000) := by
         have := hwx.num
         unfold waysT
         split
         ·simp
         split
         ·simp; omega
         split
         ·simp; omega
         ·simp; omega
        revert HN1 HZ1 HZ2 hwr
        generalize (waysT X i).1 = x
        generalize (waysT X i).2 = y
        intro HN1 HZ1 HZ2 hwr
        have hTr3 := hTr2.but hB3 (fun h => h)
        have hTa3 := hTa2.but hB3 (fun h => h)
        have hBo3 := hBo2.but hB3 (fun h => h)
        have hBw3 := hBw2.trans hB3
        have hgm3 := (hB3.block bm (lt_of_block hgm) (fun h => h)).trans hgm
        have hbm3 : gA < bm ∧ bt < bm := ⟨Nat.lt_of_lt_of_le hTaL hbm, Nat.lt_of_lt_of_le hTrL hbm⟩
        clear hTr2 hTa2 hBo2 hBw2 hgm i0 i1 i2 i3 glt b3 blt hB3
        have k0 : w3.cell? ⟨bm, 0, none⟩ = some (.bool true) := by rw [cell_of_row w3 _ 0 _ _ (0, 0) hgm3]; rfl
        have k1 : w3.cell? ⟨bm, 1, none⟩ = some (.string ⟨s.toArray⟩) := by rw [cell_of_row w3 _ 1 _ _ (0, 0) hgm3]; rfl
        have k2 : w3.cell? ⟨bm, 2, none⟩ = some (.string ⟨l.toArray⟩) := by rw [cell_of_row w3 _ 2 _ _ (0, 0) hgm3]; rfl
        have klt := lt_of_block hgm3
        go_wp2_with fail
        refine (into_T bt gA bi im.classes bd.locals.length n T x s l w3 (hI.but hBw3).cls hW.cls hW.nc hbd.loc.1 hlen.2 (by omega) hTr3 hTa3 hwf hob hwr.1).mono ?_
        rintro en w4 ⟨rfl, hB4, hTr4, hTa4⟩
        have hBo4 := hBo3.but hB4 (fun h => by omega)
        have hBw4 : But (fun _ => False) w w4 := hBw3.next hB4 (fun k hk h => by omega)
        have hgm4 := (hB4.block bm (lt_of_block hgm3) (fun h => by omega)).trans hgm3
        clear k0 k1 k2 klt hTr3 hTa3 hBo3 hBw3 hgm3 hB4
        have k0 : w4.cell? ⟨bm, 0, none⟩ = some (.bool true) := by rw [cell_of_row w4 _ 0 _ _ (0, 0) hgm4]; rfl
        have k1 : w4.cell? ⟨bm, 1, none⟩ = some (.string ⟨s.toArray⟩) := by rw [cell_of_row w4 _ 1 _ _ (0, 0) hgm4]; rfl
        have k2 : w4.cell? ⟨bm, 2, none⟩ = some (.string ⟨l.toArray⟩) := by rw [cell_of_row w4 _ 2 _ _ (0, 0) hgm4]; rfl
        have klt := lt_of_block hgm4
        revert HN1 HZ1 HZ2 hTr4 hTa4
        generalize intoT im.classes T x s l = T1
        intro HN1 HZ1 HZ2 hTr4 hTa4
        go_wp2_with fail
        refine (into_T bt gA bi im.classes bd.locals.length n T1 y s l w4 (hI.but hBw4).cls hW.cls hW.nc hbd.loc.1 hlen.2 (by omega) hTr4 hTa4 HZ1.out.1 hob hwr.2).mono ?_
        rintro en w5 ⟨rfl, hB5, hTr5, hTa5⟩
        have hBo5 := hBo4.but hB5 (fun h => by omega)
        have hBw5 : But (fun _ => False) w w5 := hBw4.next hB5 (fun k hk h => by omega)
        clear k0 k1 k2 klt hTr4 hTa4 hBo4 hBw4 hgm4 hB5
        revert HN1 HZ2 hTr5 hTa5
        generalize intoT im.classes T1 y s l = T2
        intro HN1 HZ2 hTr5 hTa5
        go_wp2_with fail
        go_roundg (n - (i + 1))
        case measure => omega
        case rel => exact ⟨i + 1, T2, by simp, by omega, by omega, by omega, hBw5, hBo5, hTr5, hTa5, HZ2.out.1, HN1.out⟩
      ·clear HEF b0 b1 b2 b3 b4 q0' q1' q2' i0 i1 i2 i3 c0 c2
       have hTaL := hTa.lt
       have hTrL := hTr.lt
       have hTr2 := hTr.but hB2 (fun h => h)
       have hTa2 := hTa.but hB2 (fun h => h)
       have hBo2 := hBo.but hB2 (fun h => h)
       have hBw2 := hBr.trans hB2
       clear hTr hTa hBo hB2 hBr hS0 clt alt blt glt
       rcases HEV.out with ⟨hE, rfl⟩ | ⟨s, l, hE, rfl, rfl, rfl⟩
       ·have hR0 : none = R := by
         rw [← HR1.out, ← HA.out, show n - i = (n - (i + 1)) + 1 from by omega, sweepT_none hbf (stepT_none HX.out HGL.out hE)]
         rfl
        clear HEV hE HA HR1 HX HGL
        subst hR0
        go_wp2_with fail
        exact bodyPost_ret (v := .tuple #[.slice none 0 0, .bool false]) (by simp [results, Tryz.results116, go_sem]) rfl ⟨hBw2, rfl⟩
       ·have heo := effT_ok hW hwx (hwf.2 i st lo HGL.out).1 hE
        have HST := hid (stepT_some HX.out HGL.out hE)
        have HN1 : Hid (sweepT im bd (n - (i + 1)) (i + 1) (intoT im.classes (intoT im.classes T (waysT X i).1 s l) (waysT X i).2 s l) = SW) := by
         show _ = _
         rw [← HA.out, show n - i = (n - (i + 1)) + 1 from by omega, sweepT_some hbf HST.out]
        have hz1 := intoT_wf hW.nc hW.cls (j := (waysT X i).1) hwf heo.1 (by have := (hwf.2 i st lo HGL.out).2; omega)
        have hz2 := intoT_wf hW.nc hW.cls (j := (waysT X i).2) hz1.1 heo.1 (by have := (hwf.2 i st lo HGL.out).2; omega)
        have hob : okS im.classes.length bd.locals.length s l := ⟨heo.1.1, heo.1.2.1, heo.1.2.2, by have := heo.2; have := (hwf.2 i st lo HGL.out).2; have := setN_le T.1; have := hwf.1; omega⟩
        have HZ1 := hid hz1
        have HZ2 := hid hz2
        have HBF := hid hbf
        clear HEV hE HA HR1 heo HST hz1 hz2 HGL hok hbf
        obtain ⟨g', hak', hg1', hg2', hcell⟩ := owns_two hc hlen.1
        cases hak'
        have i0 := (hBw2.cell (p := ⟨g, _, none⟩) hg1 (fun h => h)).trans (hcell _ _ (insCells_at0 HX.out))
        have i1 := (hBw2.cell (p := ⟨g, _, none⟩) hg1 (fun h => h)).trans (hcell _ _ (insCells_at1 HX.out))
        have i2 := (hBw2.cell (p := ⟨g, _, none⟩) hg1 (fun h => h)).trans (hcell _ _ (insCells_at2 HX.out))
        have i3 := (hBw2.cell (p := ⟨g, _, none⟩) hg1 (fun h => h)).trans (hcell _ _ (insCells_at3 HX.out))
        have glt : g < w2.heap.size := Nat.lt_of_lt_of_le hg1 hBw2.size
        have b3 : w2.cell? ⟨bb, 3, none⟩ = some (.slice (some ⟨g, 0, none⟩) n capk) := by rw [cell_of_row w2 _ 3 _ _ (0, 0) hBo2]; rfl
        have blt := hBo2.lt
        clear hcell
        go_wp2_with fail
        refine (ways_any X i w2 (by omega)).mono ?_
        rintro en w3 ⟨rfl, hB3⟩
        have hwr : (-1 ≤ (waysT X i).1 ∧ (waysT X i).1 ≤ 1000) ∧ (-1 ≤ (waysT X i).2 ∧ (waysT X i).2 ≤ 1000) := by
         have := hwx.num
         unfold waysT
         split
         ·simp
         split
         ·simp; omega
         split
         ·simp; omega
         ·simp; omega
        revert HN1 HZ1 HZ2 hwr
        generalize (waysT X i).1 = x
        generalize (waysT X i).2 = y
        intro HN1 HZ1 HZ2 hwr
        have hTr3 := hTr2.but hB3 (fun h => h)
        have hTa3 := hTa2.but hB3 (fun h => h)
        have hBo3 := hBo2.but hB3 (fun h => h)
        have hBw3 := hBw2.trans hB3
        have hgm3 := (hB3.block bm (lt_of_block hgm) (fun h => h)).trans hgm
        have hbm3 : gA < bm ∧ bt < bm := ⟨Nat.lt_of_lt_of_le hTaL hbm, Nat.lt_of_lt_of_le hTrL hbm⟩
        clear hTr2 hTa2 hBo2 hBw2 hgm i0 i1 i2 i3 glt b3 blt hB3
        have k0 : w3.cell? ⟨bm, 0, none⟩ = some (.bool true) := by rw [cell_of_row w3 _ 0 _ _ (0, 0) hgm3]; rfl
        have k1 : w3.cell? ⟨bm, 1, none⟩ = some (.string ⟨s.toArray⟩) := by rw [cell_of_row w3 _ 1 _ _ (0, 0) hgm3]; rfl
        have k2 : w3.cell? ⟨bm, 2, none⟩ = some (.string ⟨l.toArray⟩) := by rw [cell_of_row w3 _ 2 _ _ (0, 0) hgm3]; rfl
        have klt := lt_of_block hgm3
        go_wp2_with fail
        refine (into_T bt gA bi im.classes bd.locals.length n T x s l w3 (hI.but hBw3).cls hW.cls hW.nc hbd.loc.1 hlen.2 (by omega) hTr3 hTa3 hwf hob hwr.1).mono ?_
        rintro en w4 ⟨rfl, hB4, hTr4, hTa4⟩
        have hBo4 := hBo3.but hB4 (fun h => by omega)
        have hBw4 : But (fun _ => False) w w4 := hBw3.next hB4 (fun k hk h => by omega)
        have hgm4 := (hB4.block bm (lt_of_block hgm3) (fun h => by omega)).trans hgm3
        clear k0 k1 k2 klt hTr3 hTa3 hBo3 hBw3 hgm3 hB4
        have k0 : w4.cell? ⟨bm, 0, none⟩ = some (.bool true) := by rw [cell_of_row w4 _ 0 _ _ (0, 0) hgm4]; rfl
        have k1 : w4.cell? ⟨bm, 1, none⟩ = some (.string ⟨s.toArray⟩) := by rw [cell_of_row w4 _ 1 _ _ (0, 0) hgm4]; rfl
        have k2 : w4.cell? ⟨bm, 2, none⟩ = some (.string ⟨l.toArray⟩) := by rw [cell_of_row w4 _ 2 _ _ (0, 0) hgm4]; rfl
        have klt := lt_of_block hgm4
        revert HN1 HZ1 HZ2 hTr4 hTa4
        generalize intoT im.classes T x s l = T1
        intro HN1 HZ1 HZ2 hTr4 hTa4
        go_wp2_with fail
        refine (into_T bt gA bi im.classes bd.locals.length n T1 y s l w4 (hI.but hBw4).cls hW.cls hW.nc hbd.loc.1 hlen.2 (by omega) hTr4 hTa4 HZ1.out.1 hob hwr.2).mono ?_
        rintro en w5 ⟨rfl, hB5, hTr5, hTa5⟩
        have hBo5 := hBo4.but hB5 (fun h => by omega)
        have hBw5 : But (fun _ => False) w w5 := hBw4.next hB5 (fun k hk h => by omega)
        clear k0 k1 k2 klt hTr4 hTa4 hBo4 hBw4 hgm4 hB5
        revert HN1 HZ2 hTr5 hTa5
        generalize intoT im.classes T1 y s l = T2
        intro HN1 HZ2 hTr5 hTa5
        go_wp2_with fail
        go_roundg (n - (i + 1))
        case measure => omega
        case rel => exact ⟨i + 1, T2, by simp, by omega, by omega, by omega, hBw5, hBo5, hTr5, hTa5, HZ2.out.1, HN1.out⟩
    ·have hsw : SW = some T := by
      rw [← HA.out]
      by_cases hb : T.2.2 = true
      ·exact sweepT_bad im bd _ _ T hb
      ·have : ¬ i < n := fun h => hgo ⟨h, by simpa using hb⟩
       rw [show n - i = 0 from by omega]
       rfl
     clear HA
     subst hsw
     by_cases hlt : i < n
     ·have hb : T.2.2 = true := by
       by_cases hb : T.2.2 = true
       ·exact hb
       ·exact absurd ⟨hlt, by simpa using hb⟩ hgo
      have hR0 : none = R := by rw [← HR1.out]; simp [afterSweep, hb]
      clear HR1 hgo
      subst hR0
      rw [hb] at c2
      have hkn : (i : Int) < (n : Int) := by omega
      go_wp2_with fail
      exact bodyPost_ret (v := .tuple #[.slice none 0 0, .bool false]) (by simp [results, Tryz.results116, go_sem]) rfl ⟨hBr, rfl⟩
     ·have hkn : ¬ (i : Int) < (n : Int) := by omega
      obtain ⟨tb1, ch1, bad1⟩ := T
      cases bad1 with
      | true =>
       have hR0 : none = R := by rw [← HR1.out]; simp [afterSweep]
       clear HR1 hgo
       subst hR0
       go_wp2_with fail
       exact bodyPost_ret (v := .tuple #[.slice none 0 0, .bool false]) (by simp [results, Tryz.results116, go_sem]) rfl ⟨hBr, rfl⟩
      | false =>
       have HR2 : Hid (roundsT im bd (80000 - (r + 1)) (tb1, ch1, false) = R) := by show _ = _; rw [← HR1.out]; simp [afterSweep]
       clear HR1 hgo
       go_wp2_with fail
       go_roundg (80000 - (r + 1))
       case measure => omega
       case rel => exact ⟨r + 1, tb1, ch1, by simp, by omega, by omega, by omega, hBr, hBo, hTr, hTa, hwf, HR2.out⟩
  ·have hR0 : some tb = R := by
    rw [← HA.out]
    cases ch with
    | false => rw [roundsT_stop]
    | true =>
     rw [show 80000 - r = 0 from by have : ¬ r < 80000 := fun h => hlt ⟨h, rfl⟩; omega]
     rfl
   clear HA HRR
   subst hR0
   have hfin : LeastPost (some tb) w (.returned (.tuple #[.slice (some ⟨gA, 0, none⟩) n n, .bool true])) wr := ⟨gA, by rw [hwf.1], hTa, by omega⟩
   have HF := hid hfin
   clear hfin
   by_cases hr : r < 80000
   ·have hch : ch = false := by
     cases ch
     ·rfl
     ·exact absurd ⟨hr, rfl⟩ hlt
    subst hch
    clear hlt
    have hkn : (r : Int) < 80000 := by omega
    go_wp2_with fail
    exact bodyPost_ret (v := .tuple #[.slice (some ⟨gA, 0, none⟩) n n, .bool true]) (by simp [results, Tryz.results116, go_sem]) rfl ⟨hBr, HF.out⟩
   ·clear hlt
    have hkn : ¬ (r : Int) < 80000 := by omega
    go_wp2_with fail
    exact bodyPost_ret (v := .tuple #[.slice (some ⟨gA, 0, none⟩) n n, .bool true]) (by simp [results, Tryz.results116, go_sem]) rfl ⟨hBr, HF.out⟩
end Go.Proofs.YtpfkkmacakjmbaaGreatDoor
