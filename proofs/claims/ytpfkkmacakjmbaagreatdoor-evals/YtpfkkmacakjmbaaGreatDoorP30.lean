import Derived.Test.YtpfkkmacakjmbaaGreatDoorP29
set_option maxRecDepth 100000
set_option maxHeartbeats 6400000
namespace Go.Proofs.YtpfkkmacakjmbaaGreatDoor
open Go Go.RowKit Sp
set_option linter.unusedSimpArgs false
set_option linter.unusedVariables false
attribute [local go_sem ↓] Go.wp_at_zero Go.wp_at_succ
def givenB (inp : ByteArray) (fuel : Int) : Bool := !decide (40 < inp.size ∨ fuel < 0 ∨ 4000 < fuel)
theorem given_any (inp : ByteArray) (fuel : Int) (w : World) :
  Calls Tryz.prog 71 #[.string inp, .int .i64 0, .int .i64 fuel] w fun en w' => en = .returned (.bool (givenB inp fuel)) ∧ But (fun _ => False) w w' := by
 have e : givenB inp fuel = (decide ((inp.size : Int) ≤ 40) && decide (0 ≤ fuel) && decide (fuel ≤ 4000)) := by
  unfold givenB
  rw [Bool.eq_iff_iff]
  simp
  omega
 rw [e]
 clear e
 by_cases h1 : (inp.size : Int) ≤ 40
 ·have h1B : decide ((inp.size : Int) ≤ 40) = true := decide_eq_true h1
  by_cases h2 : 0 ≤ fuel
  ·have h2B : decide (0 ≤ fuel) = true := decide_eq_true h2
   by_cases h3 : fuel ≤ 4000
   ·have h3B : decide (fuel ≤ 4000) = true := decide_eq_true h3
    rw [h1B, h2B, h3B]
    go_enter Tryz.func71, Tryz.ntmps71
    go_wp2_with fail
    go_ret
    exact ⟨rfl, But.refl _ _⟩
   ·have h3B : decide (fuel ≤ 4000) = false := decide_eq_false h3
    rw [h1B, h2B, h3B]
    go_enter Tryz.func71, Tryz.ntmps71
    go_wp2_with fail
    go_ret
    exact ⟨rfl, But.refl _ _⟩
  ·have h2B : decide (0 ≤ fuel) = false := decide_eq_false h2
   rw [h1B, h2B]
   go_enter Tryz.func71, Tryz.ntmps71
   go_wp2_with fail
   go_ret
   exact ⟨rfl, But.refl _ _⟩
 ·have h1B : decide ((inp.size : Int) ≤ 40) = false := decide_eq_false h1
  rw [h1B]
  go_enter Tryz.func71, Tryz.ntmps71
  go_wp2_with fail
  go_ret
  exact ⟨rfl, But.refl _ _⟩
theorem scanP_ready {s : ByteArray} {im : Img} (hs : s.size ≤ 2000) (hl : linkS s = .ok im) (h : (scanP s).1 = 0) : Ready im := by
 have hW : WfIS im := by
  unfold linkS at hl
  split at hl
  ·cases hl
  ·split at hl
   ·cases hl
   ·rename_i im' hr
    split at hl
    ·cases hl
    ·cases hl; exact readS_wf hs hr
 obtain ⟨hE, hk⟩ := linkS_wfE hl
 refine ⟨hW, hE, hk, fun b hb => ?_⟩
 unfold scanP at h
 rw [hl] at h
 simp only at h
 cases hf : im.bodies.findIdx? (fun b => !bodyT im b) with
 | some k => rw [hf] at h; simp at h
 | none =>
  rw [List.findIdx?_eq_none_iff] at hf
  simpa using hf b hb
theorem main_LT {im : Img} (h : Ready im) {mb : Bod} (hm : mb ∈ im.bodies) : LT im.classes [] mb.locals (localsV mb []) := by
 have e : localsV mb [] = mb.locals.map plainV := by simp [localsV]
 rw [e]
 refine ⟨by simp, fun j v hv => ?_⟩
 simp only [List.getElem?_map, Option.map_eq_some_iff] at hv
 obtain ⟨c, hc, rfl⟩ := hv
 rw [show mb.locals.getD j 0 = c from by rw [List.getD_eq_getElem?_getD, hc]; rfl]
 exact plain_VT h.cls4 ((h.wf.bod mb hm).loc.2 c (List.mem_of_getElem? hc))
theorem start_StT (im : Img) {fu : Nat} (h : fu ≤ 4000) : StT im 88000 ⟨[], 0, fu, []⟩ := ⟨⟨fun k ob h => by simp at h, fun k ob h => by simp at h, fun k ob j v h => by simp at h⟩, by simpa using h, by simp; omega, by omega, by simpa using h⟩
theorem evalV_eq {im : Img} {inp : ByteArray} {fu : Nat} {mb : Bod} {q : Nat} (hq : im.bodies.length = q + 1) (hm : im.bodies[q]? = some mb) : evalV im inp fu = match nodV im inp fu mb 1 0 (localsV mb []) ⟨[], 0, fu, []⟩ with
  | .bad e o => (o, 0, e)
  | .ok v _ s => (s.out, v.N, 0) := by
 unfold evalV
 rw [hq, Nat.add_sub_cancel, List.getD_eq_getElem?_getD, hm]
 rfl
theorem start_StX {w3 w4 : World} {bi base : Nat} {inp : ByteArray} {fu : Nat} {vl : Value} {l : List V} (hB : But (fun _ => False) w3 w4) (ho : w4.ownsRow base 135 2 vl l.length (valCells l)) (hb : w3.heap.size ≤ base) :
  StX (fun _ => False) w3 (w4.alloc (.cells #[.pointer (some ⟨bi, 0, none⟩), .slice none 0 0, .string inp, .int .i64 0, .int .i64 fu, .int .i64 1, .string ⟨#[]⟩, .int .i64 12] 133)) w4.heap.size bi inp 1 ⟨[], 0, fu, []⟩ vl l (.slice none 0 0) [] :=
 ⟨hB.trans (But.alloc _ _ _), heap_alloc_new _ _, rfl, owns_nil _ _ _ _, fun k ob v h => by simp at h, owns_mono (owns_but ho (But.alloc (fun _ => False) _ _) (fun _ _ h => h)) hb, hB.size, fun _ h => h.elim, fun h => h, fun _ _ h => h, fun _ h => by simp at h, fun _ _ h => h, fun _ h => by simp at h, fun _ _ _ _ _ h => by simp at h⟩
theorem evalS_any (s inp : ByteArray) (fuel : Int) (w : World) (hmax : s.size ≤ maxLen) (ht : TabW w) :
  Calls Tryz.prog 50 #[.string s, .string inp, .int .i64 fuel] w fun en w' => en = .returned (.tuple #[.string ⟨(evalP s inp fuel).1.toArray⟩, .int .i64 (evalP s inp fuel).2.1, .int .i64 (evalP s inp fuel).2.2]) ∧ But (fun _ => False) w w' := by
 obtain ⟨RR, hRR⟩ : ∃ RR, evalP s inp fuel = RR := ⟨_, rfl⟩
 rw [hRR]
 cases hg : givenB inp fuel with
 | false =>
  have hres : RR = ([], 0, 1) := by
   rw [← hRR]
   unfold evalP
   rw [if_pos (by rw [givenB, Bool.not_eq_false', decide_eq_true_eq] at hg; exact hg)]
  subst hres
  have HG := hid (given_any inp fuel)
  rw [hg] at HG
  clear hg hRR
  go_enter Tryz.func50, Tryz.ntmps50
  go_wp2_with fail
  refine (HG.out w).mono ?_
  rintro en w1 ⟨rfl, hB1⟩
  go_wp2_with fail
  exact bodyPost_ret (v := .tuple #[.string ⟨#[]⟩, .int .i64 0, .int .i64 1]) (by simp [results, Tryz.results50, go_sem]) rfl ⟨rfl, hB1⟩
 | true =>
  have hgn : ¬ (40 < inp.size ∨ fuel < 0 ∨ 4000 < fuel) := by rw [givenB, Bool.not_eq_true', decide_eq_false_iff_not] at hg; exact hg
  have HG := hid (given_any inp fuel)
  rw [hg] at HG
  clear hg
  by_cases hsc : (scanP s).1 = 0
  ·obtain ⟨im, hl⟩ : ∃ im, linkS s = .ok im := by
    cases hl : linkS s with
    | error e =>
     obtain ⟨e, p⟩ := e
     have := linkS_errpos hl
     rw [scanP_err hl] at hsc
     simp only at hsc
     omega
    | ok im => exact ⟨im, rfl⟩
   have hs2 : s.size ≤ 2000 := by
    unfold linkS at hl
    split at hl
    ·cases hl
    ·omega
   have hR := scanP_ready hs2 hl hsc
   have hres : RR = evalV im inp fuel.toNat := by
    rw [← hRR]
    unfold evalP
    rw [if_neg hgn, hl]
    simp only [hsc, if_true]
   obtain ⟨fu, rfl⟩ : ∃ fu : Nat, fuel = fu := ⟨fuel.toNat, by omega⟩
   simp only [Int.toNat_natCast] at hres
   obtain ⟨bs, mb, hbs, hmc, hbc⟩ := hR.we.main
   obtain ⟨q, hq⟩ : ∃ q, im.bodies.length = q + 1 := ⟨bs.length, by rw [hbs]; simp⟩
   have hmb : im.bodies[q]? = some mb := by
    have h1 : q = bs.length := by rw [hbs] at hq; simp at hq; omega
    rw [h1, hbs]; simp
   have hmm : mb ∈ im.bodies := List.mem_of_getElem? hmb
   have hnb := hR.wf.nb
   have hbp : 0 < im.bodies.length := by rw [hbs]; simp
   have HS := hid (scanS_any s)
   have HL := hid (linkedS_any s)
   rw [hl] at HL
   obtain ⟨E, hE⟩ : ∃ E, scanP s = E := ⟨_, rfl⟩
   rw [hE] at HS hsc
   obtain ⟨e, p⟩ := E
   simp only at HS hsc
   subst hsc
   have HRS := hid hres
   have HMB := hid (And.intro hbs hmb)
   have HMC := hid hmc
   clear hE hl hRR hres hbs hmb hmc hbc
   simp only [linkV] at HL
   go_enter Tryz.func50, Tryz.ntmps50
   go_wp2_with fail
   refine (HG.out w).mono ?_
   rintro en w1 ⟨rfl, hB1⟩
   go_wp2_with fail
   refine (HS.out w1 hmax).mono ?_
   rintro en w2 ⟨rfl, hB2⟩
   go_wp2_with fail
   refine (HL.out w2 hmax).mono ?_
   rintro en w3 ⟨rfl, hB3, hp⟩
   obtain ⟨hI, hW⟩ := hp
   obtain ⟨gb, capb, vt, b2, hbl2, hbi, hgb, hT, b0, b1, b2', b3, b4⟩ := hI.body HMB.out.2
   obtain ⟨ak, capk, rfl, hTr⟩ := hT
   have hBw3 := (hB1.trans hB2).trans hB3
   have HQ := hid hq
   rw [hq] at b2
   clear HG HS HL hB1 hB2 hB3 hq hbl2 hbp
   have hqI : (q : Int) < (q : Int) + 1 := by omega
   have hwq := wrapI (q : Int) (by omega) (by have := HQ.out; omega)
   go_wp2_with fail
   have hS0 : But (fun _ => False) w3 w3.drew := But.drew _ _
   refine wpTx_begin (But (fun _ => False) w3) 13 (by kernel_rfl) ?_
   have fSA := hid (fun wS (h : (But (fun _ => False) w3) wS) => (And.intro ((h.cell (p := ⟨w2.heap.size, 2, none⟩) hbi (fun h => h)).trans b2) (And.intro ((h.cell (p := ⟨gb, q * 5, none⟩) hgb (fun h => h)).trans b0) (And.intro ((h.cell (p := ⟨gb, q * 5 + 1, none⟩) hgb (fun h => h)).trans b1) (And.intro ((h.cell (p := ⟨gb, q * 5 + 2, none⟩) hgb (fun h => h)).trans b2') (And.intro ((h.cell (p := ⟨gb, q * 5 + 3, none⟩) hgb (fun h => h)).trans b3) ((h.cell (p := ⟨gb, q * 5 + 4, none⟩) hgb (fun h => h)).trans b4)))))))
   iterate 12 (refine wpTx_take (v := ?_) rfl (by kernel_rfl) (fun _ _ _ h => h) rfl hS0 ?_ ?_; rotate_left; (focus (intro wS h; obtain ⟨q0, q1, q2, q3, q4, q5⟩ := fSA.out wS h; clear h; go_simp; try rfl)); dsimp only [Act.put]; try simp only [puts])
   try clear fSA
   refine wpTx_step rfl (by kernel_rfl) ?_
   intro KS hKS
   go_simp
   refine hKS.out _ _ (fun _ => (But.alloc _ _ _).trans (But.drew _ _)) ?_
   clear hKS KS
   refine wpTx_step rfl (by kernel_rfl) ?_
   intro KS hKS
   go_simp
   refine hKS.out _ _ (fun h => absurd h (by decide)) ?_
   clear hKS KS
   refine wpTx_done rfl (by kernel_rfl) ?_
   have hBa : But (fun _ => False) w3 (w3.alloc (.cells #[.int .i64 mb.cls, .int .i64 mb.meth, .string ⟨mb.locals.toArray⟩, .slice none 0 0, .slice ak mb.code.length capk] 52)).drew := (But.alloc _ _ _).trans (But.drew _ _)
   have hga : (w3.alloc (.cells #[.int .i64 mb.cls, .int .i64 mb.meth, .string ⟨mb.locals.toArray⟩, .slice none 0 0, .slice ak mb.code.length capk] 52)).drew.heap[w3.heap.size]? = some (.cells #[.int .i64 mb.cls, .int .i64 mb.meth, .string ⟨mb.locals.toArray⟩, .slice none 0 0, .slice ak mb.code.length capk] 52) := heap_alloc_new _ _
   revert hBa hga
   generalize (w3.alloc (.cells #[.int .i64 mb.cls, .int .i64 mb.meth, .string ⟨mb.locals.toArray⟩, .slice none 0 0, .slice ak mb.code.length capk] 52)).drew = W
   intro hBa hga
   clear b0 b1 b2 b2' b3 b4 hS0 hwq
   have z0 : W.cell? ⟨w3.heap.size, 0, none⟩ = some (.int .i64 mb.cls) := by rw [cell_of_row W _ 0 _ _ (0, 0) hga]; rfl
   have z1 : W.cell? ⟨w3.heap.size, 1, none⟩ = some (.int .i64 mb.meth) := by rw [cell_of_row W _ 1 _ _ (0, 0) hga]; rfl
   have z2 : W.cell? ⟨w3.heap.size, 2, none⟩ = some (.string ⟨mb.locals.toArray⟩) := by rw [cell_of_row W _ 2 _ _ (0, 0) hga]; rfl
   have z3 : W.cell? ⟨w3.heap.size, 3, none⟩ = some (.slice none 0 0) := by rw [cell_of_row W _ 3 _ _ (0, 0) hga]; rfl
   have z4 : W.cell? ⟨w3.heap.size, 4, none⟩ = some (.slice ak mb.code.length capk) := by rw [cell_of_row W _ 4 _ _ (0, 0) hga]; rfl
   have hal := lt_of_block hga
   go_wp2_with fail
   have hloc := locals_any mb (.slice none 0 0) (.slice ak mb.code.length capk) ⟨_, _, _, rfl⟩ [] none 0 W (hW.bod mb hmm).loc.1 (by simp) 0 (owns_nil _ _ _ _)
   simp only [List.length_nil] at hloc
   refine hloc.mono ?_
   rintro en w4 ⟨vl, rfl, hOl, hB4⟩
   obtain ⟨al, capl, rfl⟩ := owns_len hOl
   have hga4 := (hB4.block _ hal (fun h => h)).trans hga
   clear z0 z1 z2 z3 z4
   have z0 : w4.cell? ⟨w3.heap.size, 0, none⟩ = some (.int .i64 mb.cls) := by rw [cell_of_row w4 _ 0 _ _ (0, 0) hga4]; rfl
   have z1 : w4.cell? ⟨w3.heap.size, 1, none⟩ = some (.int .i64 mb.meth) := by rw [cell_of_row w4 _ 1 _ _ (0, 0) hga4]; rfl
   have z2 : w4.cell? ⟨w3.heap.size, 2, none⟩ = some (.string ⟨mb.locals.toArray⟩) := by rw [cell_of_row w4 _ 2 _ _ (0, 0) hga4]; rfl
   have z3 : w4.cell? ⟨w3.heap.size, 3, none⟩ = some (.slice none 0 0) := by rw [cell_of_row w4 _ 3 _ _ (0, 0) hga4]; rfl
   have z4 : w4.cell? ⟨w3.heap.size, 4, none⟩ = some (.slice ak mb.code.length capk) := by rw [cell_of_row w4 _ 4 _ _ (0, 0) hga4]; rfl
   have hal4 := lt_of_block hga4
   have hB34 := hBa.trans hB4
   have hfu : fu ≤ 4000 := by omega
   have hty := hR.ty mb hmm
   obtain ⟨t, htn, hts⟩ : ∃ t, typN im.classes im.sigs mb.locals mb.code mb.code.length 0 = some t ∧ subT im.classes t 105 = true := by
    unfold bodyT at hty
    cases h : typN im.classes im.sigs mb.locals mb.code mb.code.length 0 with
    | none => rw [h] at hty; cases hty
    | some t => rw [h] at hty; simp only at hty; rw [if_pos (by rw [HMC.out]; omega)] at hty; exact ⟨t, rfl, hty⟩
   have hs5 := start_StX (bi := w2.heap.size) (inp := inp) (fu := fu) hB34 hOl hBa.size
   have hLT := main_LT hR hmm
   have hST := start_StT im hfu
   have HTY := hid (nodV_typed hR inp fu 88000 mb 1 0 _ _ t _ hmm htn hLT hST (Nat.le_refl _))
   have hc := node_all w3 w4.heap.size w2.heap.size inp im hI (ht.but hBw3) hR fu mb 1 0 _ _ t _ 88000 _ _ _ _ _ (.slice ak mb.code.length capk) hmm (by omega) htn hLT hST (Nat.le_refl _) hs5 ⟨ak, capk, rfl, hTr⟩
   unfold bodAgg at hc
   rw [show ((0 : Nat) : Int) = 0 from rfl] at hc
   have HRR : Hid (RR = match nodV im inp fu mb 1 0 (localsV mb []) ⟨[], 0, fu, []⟩ with | .bad e o => (o, 0, e) | .ok v _ s => (s.out, v.N, 0)) := by show _ = _; rw [HRS.out]; exact evalV_eq HQ.out HMB.out.2
   have HC := hid hc
   have hBw5 : But (fun _ => False) w (w4.alloc (.cells #[.pointer (some ⟨w2.heap.size, 0, none⟩), .slice none 0 0, .string inp, .int .i64 0, .int .i64 fu, .int .i64 1, .string ⟨#[]⟩, .int .i64 12] 133)) := (hBw3.trans hB34).trans (But.alloc _ _ _)
   clear hty hs5 hLT hST hc HRS hloc htn hTr HMC
   generalize (localsV mb []) = L0 at *
   go_wp2_with fail
   refine HC.out.mono ?_
   rintro en w6 ⟨hB6, hq⟩
   have hBw6 : But (fun _ => False) w w6 := hBw5.next hB6 (fun k hk h => by have := h.1; have := hBw3.size; omega)
   clear HC z0 z1 z2 z3 z4 hB6 hBw5
   have HR2 := HRR.out
   have HT2 := HTY.out
   cases hn : nodV im inp fu mb 1 0 L0 ⟨[], 0, fu, []⟩ with
   | bad e o =>
    rw [hn] at hq HR2 HT2
    simp only at HR2
    subst HR2
    obtain ⟨⟨a, a', rfl⟩, hbw6, hv6, r6, l6, hk6⟩ := hq
    have c7 := hk6.c7
    have c6 := hk6.c6
    have he : ((e : Int) != 12) = true := by rw [bne_iff_ne]; have := HT2.2.1; omega
    clear HRR HTY HT2 hn
    go_wp2_with fail
    have q6 : ∀ ob, (w6.alloc ob).cell? ⟨w4.heap.size, 6, none⟩ = some (.string ⟨o.toArray⟩) := fun ob => ((But.alloc (fun _ => False) w6 ob).cell (p := ⟨w4.heap.size, 6, none⟩) hbw6 (fun h => h)).trans c6
    have q7 : ∀ ob, (w6.alloc ob).cell? ⟨w4.heap.size, 7, none⟩ = some (.int .i64 e) := fun ob => ((But.alloc (fun _ => False) w6 ob).cell (p := ⟨w4.heap.size, 7, none⟩) hbw6 (fun h => h)).trans c7
    go_quiet (fail)
    go_wp2_with fail
    exact bodyPost_ret (v := .tuple #[.string ⟨o.toArray⟩, .int .i64 0, .int .i64 e]) (by simp [results, Tryz.results50, go_sem]) rfl ⟨rfl, (hBw6.trans (But.alloc _ _ _)).trans (But.drewN _ _ _)⟩
   | ok v l2 s2 =>
    rw [hn] at hq HR2 HT2
    simp only at HR2
    subst HR2
    obtain ⟨rfl, hv6, fv6, hs6⟩ := hq
    obtain ⟨y1, y2, y3, y4, y5⟩ := HT2
    obtain ⟨n, rfl, hn1, hn2⟩ := (y1.sub hR.wf.cls hR.cls4 y3.ht hts (by decide)).int (by decide)
    simp only [vAgg]
    have c7 := hs6.wk.c7
    have c6 := hs6.wk.c6
    have hbw6 := hs6.blt
    clear HRR HTY hn y1
    go_wp2_with fail
    have q6 : ∀ ob, (w6.alloc ob).cell? ⟨w4.heap.size, 6, none⟩ = some (.string ⟨s2.out.toArray⟩) := fun ob => ((But.alloc (fun _ => False) w6 ob).cell (p := ⟨w4.heap.size, 6, none⟩) hbw6 (fun h => h)).trans c6
    go_quiet (fail)
    go_wp2_with fail
    exact bodyPost_ret (v := .tuple #[.string ⟨s2.out.toArray⟩, .int .i64 n, .int .i64 0]) (by simp [results, Tryz.results50, go_sem, V.N]) rfl ⟨rfl, (hBw6.trans (But.alloc _ _ _)).trans (But.drewN _ _ _)⟩
  ·have hres : RR = ([], 0, (scanP s).1) := by
    rw [← hRR]
    unfold evalP
    rw [if_neg hgn]
    cases hl : linkS s with
    | error e => simp only; rw [show scanP s = e from by simp [scanP, hl]]
    | ok im => simp only [hsc, if_false]
   subst hres
   obtain ⟨E, hE⟩ : ∃ E, scanP s = E := ⟨_, rfl⟩
   have HS := hid (scanS_any s)
   rw [hE] at HS hsc ⊢
   obtain ⟨e, p⟩ := E
   simp only at HS hsc ⊢
   have he : ((e : Int) != 0) = true := by rw [bne_iff_ne]; omega
   clear hE hsc hRR hgn
   go_enter Tryz.func50, Tryz.ntmps50
   go_wp2_with fail
   refine (HG.out w).mono ?_
   rintro en w1 ⟨rfl, hB1⟩
   go_wp2_with fail
   refine (HS.out w1 hmax).mono ?_
   rintro en w2 ⟨rfl, hB2⟩
   go_wp2_with fail
   exact bodyPost_ret (v := .tuple #[.string ⟨#[]⟩, .int .i64 0, .int .i64 e]) (by simp [results, Tryz.results50, go_sem]) rfl ⟨rfl, hB1.trans hB2⟩
end Go.Proofs.YtpfkkmacakjmbaaGreatDoor
