import Derived.Test.YtpfkkmacakjmbaaGreatDoorP28
/- The program follows an instruction. -/
namespace Go.Proofs.YtpfkkmacakjmbaaGreatDoor
open Go Go.RowKit Sp
set_option linter.unusedSimpArgs false
set_option linter.unusedVariables false
attribute [local go_sem ↓] Go.wp_at_zero Go.wp_at_succ
def followR (im : Img) (bd : Bod) (tab : List St) (wt : List Bool) (a : Nat) (x : Ins) (s l : List UInt8) : Wn :=
 match effT im.classes im.sigs bd x s l with
 | none => (tab, wt, true)
 | some (s', l') => reachAll im.classes s' l' (tab, wt, false) (tgts x a)
theorem reachW_wf {im : Img} (hW : WfI im) {nl n j : Nat} {tab : List St} {wt : List Bool} {sb lb : List UInt8} (h : wfT im.classes.length nl n tab) (hz : okZ im.classes.length nl sb lb) (hl : sb.length ≤ setN tab) : wfT im.classes.length nl n (reachW im.classes (tab, wt, false) j sb lb).1 ∧ setN tab ≤ setN (reachW im.classes (tab, wt, false) j sb lb).1 :=
 intoT_wf hW.nc hW.cls (T := (tab, false, false)) (j := (j : Int)) h hz hl
set_option maxHeartbeats 3200000 in
set_option maxRecDepth 100000 in
theorem xfollow_any (w0 : World) (bb b gs gw : Nat) (m : Nat) (c : UInt8) (vl : Value) (ai : Option Addr) (capi : Nat) (tab : List St) (wt : List Bool) (im : Img) (bd : Bod) (a : Nat) (x : Ins) (s l : List UInt8) (w : World) (hW : WfI im) (hbd : WfB im.classes im.sigs bd)
  (hB : Bld w0 w bb b gs gw c (toXB im.sigs bd).ans m vl (.slice ai bd.code.length capi) tab wt false) (hvl : vl.oneCell' = true) (hit : ItB w0 0 (.slice ai bd.code.length capi) (bd.code.map toXI)) (hTX : TextX w0 b im) (hwf : wfT im.classes.length bd.locals.length bd.code.length tab) (htn : tab.length = bd.code.length)
  (hx : bd.code[a]? = some x) (hst : tab[a]? = some (some (s, l))) :
  Calls Tryz.prog 107 #[.pointer (some ⟨bb, 0, none⟩), .int .i64 a] w fun en w' => en = .returned (.tuple #[]) ∧ But (fun k => k = bb ∨ k = gs ∨ k = gw) w w' ∧
   ∃ tab' wt' bad', tab'.length = tab.length ∧ Bld w0 w' bb b gs gw c (toXB im.sigs bd).ans m vl (.slice ai bd.code.length capi) tab' wt' bad' ∧ bad' = (followR im bd tab wt a x s l).2.2 ∧ (bad' = false → tab' = (followR im bd tab wt a x s l).1 ∧ wt' = (followR im bd tab wt a x s l).2.1) := by
 have ha := (List.getElem?_eq_some_iff.1 hx).1
 have haI : (a : Int) < (bd.code.length : Int) := by omega
 have haT : (a : Int) < (tab.length : Int) := by omega
 have hlen := hbd.len
 obtain ⟨hzs, hs100⟩ := hwf.2 a s l hst
 have hset := setN_le tab
 have hwx := hbd.code x (List.mem_of_getElem? hx)
 obtain ⟨a3, c3, a4, c4, t0, t1, t2, hsa, hla⟩ := hB.known hst
 obtain ⟨c0, c6, c7, c8⟩ := hB.cells
 obtain ⟨d1, d2, d3, d4, d5⟩ := hB.body
 have hitw : ItB w 0 (.slice ai bd.code.length capi) (bd.code.map toXI) := owns_but hit hB.but (fun _ _ h => h)
 have hitl : (bd.code.map toXI).length = bd.code.length := by simp
 have hmx : (bd.code.map toXI)[a]? = some (toXI x) := by rw [List.getElem?_map, hx]; rfl
 obtain ⟨gi, hgi, hgi1, _, hci⟩ := owns_two (n := bd.code.length) (by unfold ItB at hitw; rw [hitl] at hitw; exact hitw) (by omega)
 have i0 : w.cell? ⟨gi, a * 5, none⟩ = some (.int .i64 (toXI x).place) := hci _ _ (itCells_at (k := 0) hmx (by omega))
 have i1 : w.cell? ⟨gi, a * 5 + 1, none⟩ = some (.int .u8 (toXI x).op.toNat) := hci _ _ (itCells_at (k := 1) hmx (by omega))
 have i2 : w.cell? ⟨gi, a * 5 + 2, none⟩ = some (.int .u8 (toXI x).cls.toNat) := hci _ _ (itCells_at (k := 2) hmx (by omega))
 have i3 : w.cell? ⟨gi, a * 5 + 3, none⟩ = some (.int .i64 (toXI x).num) := hci _ _ (itCells_at (k := 3) hmx (by omega))
 have i4 : w.cell? ⟨gi, a * 5 + 4, none⟩ = some (.slice none 0 0) := hci _ _ (itCells_at (k := 4) hmx (by omega))
 subst hgi
 clear hci hmx hitl
 obtain ⟨X, hX⟩ : ∃ X, toXI x = X := ⟨_, rfl⟩
 obtain ⟨r, hr⟩ : ∃ r, (toXB im.sigs bd).ans = r := ⟨_, rfl⟩
 rw [hX] at i0 i1 i2 i3
 rw [hr] at hB d3
 simp only [hr]
 have HX := hid hX
 have HR := hid hr
 have HEFF := hid (behX_effT hW hbd hwx hzs)
 rw [hX, hr] at HEFF
 clear hX hr
 go_enter Tryz.func107, Tryz.ntmps107
 go_wp2_with fail
 have hBW : But (fun _ => False) w (w.alloc (.cells #[.int .i64 X.place, .int .u8 X.op.toNat, .int .u8 X.cls.toNat, .int .i64 X.num, .slice none 0 0] 219)) := But.alloc _ _ _
 have hgW := heap_alloc_new w (.cells #[.int .i64 X.place, .int .u8 X.op.toNat, .int .u8 X.cls.toNat, .int .i64 X.num, .slice none 0 0] 219)
 have hBl := hB.next hBW
 have hsW := hsa.but hBW (fun _ _ h => h)
 have hlW := hla.but hBW (fun _ _ h => h)
 have hlt := hB.lt
 have u0 := (hBW.cell (p := ⟨gs, a * 3, none⟩) hlt.2.1 (fun h => h)).trans t0
 have u1 := (hBW.cell (p := ⟨gs, a * 3 + 1, none⟩) hlt.2.1 (fun h => h)).trans t1
 have u2 := (hBW.cell (p := ⟨gs, a * 3 + 2, none⟩) hlt.2.1 (fun h => h)).trans t2
 clear i0 i1 i2 i3 i4 t0 t1 t2 c0 c6 c7 c8 d1 d2 d3 d4 d5 hsa hla
 revert hBW hgW hBl hsW hlW u0 u1 u2
 generalize (w.alloc (.cells #[.int .i64 X.place, .int .u8 X.op.toNat, .int .u8 X.cls.toNat, .int .i64 X.num, .slice none 0 0] 219)) = W
 intro hBW hgW hBl hsW hlW t0 t1 t2
 obtain ⟨c0, c6, c7, c8⟩ := hBl.cells
 obtain ⟨d1, d2, d3, d4, d5⟩ := hBl.body
 obtain ⟨k0, k1, k2, k3, k4⟩ := row5 hgW
 have hgl := lt_of_block hgW
 have hltW := hBl.lt
 have hS0 : But (fun _ => False) W W.drew := But.drew _ _
 have HBEH := hid (fun (wx : World) (h : But (fun _ => False) W wx) => xbehind_any b (im.classes.map toX) im.sigs c r m vl (.slice (some ⟨gi, 0, none⟩) bd.code.length capi) X a3 a4 c3 c4 s l wx (by rw [List.length_map]; have := hW.nc; omega) (by have := hW.ns; omega) (hTX.cls.but (hBl.but.trans h)) (hTX.met.but (hBl.but.trans h)) hvl rfl (hsW.but h (fun _ _ h => h)) (hlW.but h (fun _ _ h => h)) (by omega) (by have := hzs.2.2; have := hbd.loc.1; omega))
 have HBH : Hid (∀ (wx : World), But (fun _ => False) W wx → Calls Tryz.prog 174 #[.pointer (some ⟨b, 0, none⟩), .agg #[.int .u8 c.toNat, .int .i64 m, .int .u8 r.toNat, vl, .slice (some ⟨gi, 0, none⟩) bd.code.length capi], .agg #[.int .i64 X.place, .int .u8 X.op.toNat, .int .u8 X.cls.toNat, .int .i64 X.num, .slice none 0 0], .agg #[.bool true, .slice a3 s.length c3, .slice a4 l.length c4]] wx fun en w' => But (fun _ => False) wx w' ∧ ∃ m0 a1 n1 c1 a2 n2 c2 ok, en = .returned (.tuple #[.agg #[.bool m0, .slice a1 n1 c1, .slice a2 n2 c2], .bool ok]) ∧
   ((effT im.classes im.sigs bd x s l = none ∧ ok = false) ∨ (∃ s' l', effT im.classes im.sigs bd x s l = some (s', l') ∧ ok = true ∧ m0 = true ∧ n1 = List.length s' ∧ n2 = List.length l' ∧ BtB w' 0 (.slice a1 s'.length c1) s' ∧ BtB w' 0 (.slice a2 l'.length c2) l'))) := by
  refine hid (fun wx h => (HBEH.out wx h).mono ?_)
  rintro en w' ⟨hb, h1 | h1⟩
  ·obtain ⟨h2, rfl⟩ := h1
   exact ⟨hb, false, none, 0, 0, none, 0, 0, false, rfl, Or.inl ⟨by rw [← HEFF.out]; exact h2, rfl⟩⟩
  ·obtain ⟨s', l', a1, c1, a2, c2, h2, rfl, h3, h4⟩ := h1
   exact ⟨hb, true, a1, _, c1, a2, _, c2, true, rfl, Or.inr ⟨s', l', by rw [← HEFF.out]; exact h2, rfl, rfl, rfl, rfl, World.ownsRow.mono h3 (Nat.zero_le _), World.ownsRow.mono h4 (Nat.zero_le _)⟩⟩
 clear HBEH HEFF
 have HGW := hid hgW
 have HBl := hid hBl
 refine wpTx_begin (But (fun _ => False) W) 22 (by kernel_rfl) ?_
 have fSA := hid (fun wS (h : (But (fun _ => False) W) wS) => (And.intro ((h.cell (p := ⟨bb, 0, none⟩) hltW.1 (fun h => h)).trans c0) (And.intro ((h.cell (p := ⟨bb, 1, none⟩) hltW.1 (fun h => h)).trans d1) (And.intro ((h.cell (p := ⟨bb, 2, none⟩) hltW.1 (fun h => h)).trans d2) (And.intro ((h.cell (p := ⟨bb, 3, none⟩) hltW.1 (fun h => h)).trans d3) (And.intro ((h.cell (p := ⟨bb, 4, none⟩) hltW.1 (fun h => h)).trans d4) (And.intro ((h.cell (p := ⟨bb, 5, none⟩) hltW.1 (fun h => h)).trans d5) (And.intro ((h.cell (p := ⟨bb, 6, none⟩) hltW.1 (fun h => h)).trans c6) (And.intro ((h.cell (p := ⟨w.heap.size, 0, none⟩) hgl (fun h => h)).trans k0) (And.intro ((h.cell (p := ⟨w.heap.size, 1, none⟩) hgl (fun h => h)).trans k1) (And.intro ((h.cell (p := ⟨w.heap.size, 2, none⟩) hgl (fun h => h)).trans k2) (And.intro ((h.cell (p := ⟨w.heap.size, 3, none⟩) hgl (fun h => h)).trans k3) (And.intro ((h.cell (p := ⟨w.heap.size, 4, none⟩) hgl (fun h => h)).trans k4) (And.intro ((h.cell (p := ⟨gs, a * 3, none⟩) hltW.2.1 (fun h => h)).trans t0) (And.intro ((h.cell (p := ⟨gs, a * 3 + 1, none⟩) hltW.2.1 (fun h => h)).trans t1) ((h.cell (p := ⟨gs, a * 3 + 2, none⟩) hltW.2.1 (fun h => h)).trans t2))))))))))))))))
 refine wpTx_take (v := ?vA0) rfl (by kernel_rfl) ?qA0 rfl hS0 ?yA0 ?rA0
 case yA0 => intro wS h; obtain ⟨q0, q1, q2, q3, q4, q5, q6, q7, q8, q9, q10, q11, q12, q13, q14⟩ := fSA.out wS h; clear h; go_simp; try rfl
 case qA0 => exact fun _ _ _ h => h
 dsimp only [Act.put]
 try simp only [puts]
 refine wpTx_take (v := ?vA1) rfl (by kernel_rfl) ?qA1 rfl hS0 ?yA1 ?rA1
 case yA1 => intro wS h; obtain ⟨q0, q1, q2, q3, q4, q5, q6, q7, q8, q9, q10, q11, q12, q13, q14⟩ := fSA.out wS h; clear h; go_simp; try rfl
 case qA1 => exact fun _ _ _ h => h
 dsimp only [Act.put]
 try simp only [puts]
 refine wpTx_take (v := ?vA2) rfl (by kernel_rfl) ?qA2 rfl hS0 ?yA2 ?rA2
 case yA2 => intro wS h; obtain ⟨q0, q1, q2, q3, q4, q5, q6, q7, q8, q9, q10, q11, q12, q13, q14⟩ := fSA.out wS h; clear h; go_simp; try rfl
 case qA2 => exact fun _ _ _ h => h
 dsimp only [Act.put]
 try simp only [puts]
 refine wpTx_take (v := ?vA3) rfl (by kernel_rfl) ?qA3 rfl hS0 ?yA3 ?rA3
 case yA3 => intro wS h; obtain ⟨q0, q1, q2, q3, q4, q5, q6, q7, q8, q9, q10, q11, q12, q13, q14⟩ := fSA.out wS h; clear h; go_simp; try rfl
 case qA3 => exact fun _ _ _ h => h
 dsimp only [Act.put]
 try simp only [puts]
 refine wpTx_take (v := ?vA4) rfl (by kernel_rfl) ?qA4 rfl hS0 ?yA4 ?rA4
 case yA4 => intro wS h; obtain ⟨q0, q1, q2, q3, q4, q5, q6, q7, q8, q9, q10, q11, q12, q13, q14⟩ := fSA.out wS h; clear h; go_simp; try rfl
 case qA4 => exact fun _ _ _ h => h
 dsimp only [Act.put]
 try simp only [puts]
 refine wpTx_take (v := ?vA5) rfl (by kernel_rfl) ?qA5 rfl hS0 ?yA5 ?rA5
 case yA5 => intro wS h; obtain ⟨q0, q1, q2, q3, q4, q5, q6, q7, q8, q9, q10, q11, q12, q13, q14⟩ := fSA.out wS h; clear h; go_simp; try rfl
 case qA5 => exact fun _ _ _ h => h
 dsimp only [Act.put]
 try simp only [puts]
 refine wpTx_take (v := ?vA6) rfl (by kernel_rfl) ?qA6 rfl hS0 ?yA6 ?rA6
 case yA6 => intro wS h; obtain ⟨q0, q1, q2, q3, q4, q5, q6, q7, q8, q9, q10, q11, q12, q13, q14⟩ := fSA.out wS h; clear h; go_simp; try rfl
 case qA6 => exact fun _ _ _ h => h
 dsimp only [Act.put]
 try simp only [puts]
 refine wpTx_take (v := ?vA7) rfl (by kernel_rfl) ?qA7 rfl hS0 ?yA7 ?rA7
 case yA7 => intro wS h; obtain ⟨q0, q1, q2, q3, q4, q5, q6, q7, q8, q9, q10, q11, q12, q13, q14⟩ := fSA.out wS h; clear h; go_simp; try rfl
 case qA7 => exact fun _ _ _ h => h
 dsimp only [Act.put]
 try simp only [puts]
 refine wpTx_take (v := ?vA8) rfl (by kernel_rfl) ?qA8 rfl hS0 ?yA8 ?rA8
 case yA8 => intro wS h; obtain ⟨q0, q1, q2, q3, q4, q5, q6, q7, q8, q9, q10, q11, q12, q13, q14⟩ := fSA.out wS h; clear h; go_simp; try rfl
 case qA8 => exact fun _ _ _ h => h
 dsimp only [Act.put]
 try simp only [puts]
 refine wpTx_take (v := ?vA9) rfl (by kernel_rfl) ?qA9 rfl hS0 ?yA9 ?rA9
 case yA9 => intro wS h; obtain ⟨q0, q1, q2, q3, q4, q5, q6, q7, q8, q9, q10, q11, q12, q13, q14⟩ := fSA.out wS h; clear h; go_simp; try rfl
 case qA9 => exact fun _ _ _ h => h
 dsimp only [Act.put]
 try simp only [puts]
 refine wpTx_take (v := ?vA10) rfl (by kernel_rfl) ?qA10 rfl hS0 ?yA10 ?rA10
 case yA10 => intro wS h; obtain ⟨q0, q1, q2, q3, q4, q5, q6, q7, q8, q9, q10, q11, q12, q13, q14⟩ := fSA.out wS h; clear h; go_simp; try rfl
 case qA10 => exact fun _ _ _ h => h
 dsimp only [Act.put]
 try simp only [puts]
 refine wpTx_take (v := ?vA11) rfl (by kernel_rfl) ?qA11 rfl hS0 ?yA11 ?rA11
 case yA11 => intro wS h; obtain ⟨q0, q1, q2, q3, q4, q5, q6, q7, q8, q9, q10, q11, q12, q13, q14⟩ := fSA.out wS h; clear h; go_simp; try rfl
 case qA11 => exact fun _ _ _ h => h
 dsimp only [Act.put]
 try simp only [puts]
 refine wpTx_take (v := ?vA12) rfl (by kernel_rfl) ?qA12 rfl hS0 ?yA12 ?rA12
 case yA12 => intro wS h; obtain ⟨q0, q1, q2, q3, q4, q5, q6, q7, q8, q9, q10, q11, q12, q13, q14⟩ := fSA.out wS h; clear h; go_simp; try rfl
 case qA12 => exact fun _ _ _ h => h
 dsimp only [Act.put]
 try simp only [puts]
 refine wpTx_take (v := ?vA13) rfl (by kernel_rfl) ?qA13 rfl hS0 ?yA13 ?rA13
 case yA13 => intro wS h; obtain ⟨q0, q1, q2, q3, q4, q5, q6, q7, q8, q9, q10, q11, q12, q13, q14⟩ := fSA.out wS h; clear h; go_simp; try rfl
 case qA13 => exact fun _ _ _ h => h
 dsimp only [Act.put]
 try simp only [puts]
 refine wpTx_take (v := ?vA14) rfl (by kernel_rfl) ?qA14 rfl hS0 ?yA14 ?rA14
 case yA14 => intro wS h; obtain ⟨q0, q1, q2, q3, q4, q5, q6, q7, q8, q9, q10, q11, q12, q13, q14⟩ := fSA.out wS h; clear h; go_simp; try rfl
 case qA14 => exact fun _ _ _ h => h
 dsimp only [Act.put]
 try simp only [puts]
 refine wpTx_take (v := ?vA15) rfl (by kernel_rfl) ?qA15 rfl hS0 ?yA15 ?rA15
 case yA15 => intro wS h; obtain ⟨q0, q1, q2, q3, q4, q5, q6, q7, q8, q9, q10, q11, q12, q13, q14⟩ := fSA.out wS h; clear h; go_simp; try rfl
 case qA15 => exact fun _ _ _ h => h
 dsimp only [Act.put]
 try simp only [puts]
 try clear fSA
 refine wpTx_fork (q := 20) (o := ?oA16) (oq := ?oqA16) (rest := ?rsA16) (restq := ?rqA16) ?hoA16 ?hqA16 ?hrA16 ?stA16 ?sqA16
 case hoA16 => rfl
 case hqA16 => rfl
 case hrA16 => kernel_rfl
 case' stA16 =>
  intro KS hKS
  go_simp
  refine (HBH.out W.drew hS0).mono ?_
  rintro en w1 ⟨hB1, m0, a1, n1, c1, a2, n2, c2, ok, rfl, hcs⟩
  have hBW1 : But (fun _ => False) W w1 := hS0.trans hB1
  refine hKS.out _ _ (fun _ => hBW1) ?_
  clear hKS KS
  refine wpTx_take (v := ?vA17) rfl (by kernel_rfl) ?qA17 rfl hBW1 ?yA17 ?rA17
  case yA17 => intro wS h; clear h; go_simp; try rfl
  case qA17 => exact fun _ _ _ h => h
  dsimp only [Act.put]
  try simp only [puts]
  refine wpTx_take (v := ?vA18) rfl (by kernel_rfl) ?qA18 rfl hBW1 ?yA18 ?rA18
  case yA18 => intro wS h; clear h; go_simp; try rfl
  case qA18 => exact fun _ _ _ h => h
  dsimp only [Act.put]
  try simp only [puts]
  refine wpTx_take (v := ?vA19) rfl (by kernel_rfl) ?qA19 rfl hBW1 ?yA19 ?rA19
  case yA19 => intro wS h; clear h; go_simp; try rfl
  case qA19 => exact fun _ _ _ h => h
  dsimp only [Act.put]
  try simp only [puts]
  refine wpTx_step (o := ?oA20) (rest := ?rsA20) ?hoA20 ?hrA20 ?stA20
  case hoA20 => rfl
  case hrA20 => kernel_rfl
  case' stA20 =>
  intro KS hKS
  go_simp
  refine hKS.out _ _ (fun _ => hBW1.trans (But.alloc _ _ _)) ?_
  clear hKS KS
  refine wpTx_step (o := ?oA21) (rest := ?rsA21) ?hoA21 ?hrA21 ?stA21
  case hoA21 => rfl
  case hrA21 => kernel_rfl
  case' stA21 =>
  intro KS hKS
  go_simp
  refine hKS.out _ _ (fun _ => hBW1.trans (But.alloc _ _ _)) ?_
  clear hKS KS
  refine wpTx_step (o := ?oA22) (rest := ?rsA22) ?hoA22 ?hrA22 ?stA22
  case hoA22 => rfl
  case hrA22 => kernel_rfl
  case' stA22 =>
  intro KS hKS
  go_simp
  refine hKS.out _ _ (fun h => absurd h (by decide)) ?_
  clear hKS KS
  refine wpTx_done rfl (by kernel_rfl) ?_
  have hBa : But (fun _ => False) w1 (w1.alloc (.cells #[.bool m0, .slice a1 n1 c1, .slice a2 n2 c2] 117)) := But.alloc _ _ _
  have hB2 : But (fun _ => False) W (w1.alloc (.cells #[.bool m0, .slice a1 n1 c1, .slice a2 n2 c2] 117)) := hBW1.trans hBa
  have hgm : (w1.alloc (.cells #[.bool m0, .slice a1 n1 c1, .slice a2 n2 c2] 117)).heap[w1.heap.size]? = some (.cells #[.bool m0, .slice a1 n1 c1, .slice a2 n2 c2] 117) := heap_alloc_new _ _
  have hbm : W.heap.size ≤ w1.heap.size := hBW1.size
  have HCS : Hid ((effT im.classes im.sigs bd x s l = none ∧ ok = false) ∨ (∃ s' l', effT im.classes im.sigs bd x s l = some (s', l') ∧ ok = true ∧ m0 = true ∧ n1 = List.length s' ∧ n2 = List.length l' ∧ BtB (w1.alloc (.cells #[.bool m0, .slice a1 n1 c1, .slice a2 n2 c2] 117)) 0 (.slice a1 s'.length c1) s' ∧ BtB (w1.alloc (.cells #[.bool m0, .slice a1 n1 c1, .slice a2 n2 c2] 117)) 0 (.slice a2 l'.length c2) l')) := by
   rcases hcs with h | ⟨s', l', e1, e2, e3, e4, e5, e6, e7⟩
   ·exact hid (Or.inl h)
   ·exact hid (Or.inr ⟨s', l', e1, e2, e3, e4, e5, e6.but hBa (fun _ _ h => h), e7.but hBa (fun _ _ h => h)⟩)
  revert hB2 hgm hbm HCS
  clear hB1 hBW1 hcs hBa
  generalize (w1.alloc (.cells #[.bool m0, .slice a1 n1 c1, .slice a2 n2 c2] 117)) = w2
  generalize w1.heap.size = bm
  intro hB2 hgm hbm HCS
  clear w1
 case' sqA16 =>
  intro KS hKS
  go_simp
  have hBd : But (fun _ => False) W (W.alloc (.cells #[.bool false, .slice none 0 0, .slice none 0 0] 117)).drew := (But.alloc _ _ _).trans (But.drew _ _)
  have hgd : (W.alloc (.cells #[.bool false, .slice none 0 0, .slice none 0 0] 117)).drew.heap[W.heap.size]? = some (.cells #[.bool false, .slice none 0 0, .slice none 0 0] 117) := heap_alloc_new _ _
  revert hBd hgd
  generalize (W.alloc (.cells #[.bool false, .slice none 0 0, .slice none 0 0] 117)).drew = Wd
  have hbm : W.heap.size ≤ W.heap.size := Nat.le_refl _
  revert hbm
  generalize hbmE : W.heap.size = bm
  intro hbm hBd hgd
  have hbm : W.heap.size ≤ bm := by omega
  have HBM := hid hbmE
  clear hbmE
  refine hKS.out _ _ (fun _ => hBd) ?_
  clear hKS KS
  refine wpTy_step (o := ?oAY16) (rest := ?rsAY16) ?hoAY16 ?hkAY16 ?hrAY16 ?stAY16
  case hoAY16 => rfl
  case hkAY16 => kernel_rfl
  case hrAY16 => kernel_rfl
  case' stAY16 =>
  intro KS hKS
  go_simp
  refine (HBH.out Wd hBd).mono ?_
  rintro en w1 ⟨hB1, m0, a1, n1, c1, a2, n2, c2, ok, rfl, hcs⟩
  have hBW1 : But (fun _ => False) W w1 := hBd.trans hB1
  have hgd1 : w1.heap[bm]? = some (.cells #[.bool false, .slice none 0 0, .slice none 0 0] 117) := (hB1.block bm (lt_of_block hgd) (fun h => h)).trans hgd
  refine hKS.out _ _ (fun _ => hBW1) ?_
  clear hKS KS
  refine wpTy_take (v := ?vAY17) rfl (by kernel_rfl) ?qAY17 rfl hBW1 ?yAY17 ?rAY17
  case yAY17 => intro wS h; clear h; go_simp; try rfl
  case qAY17 => exact fun _ _ _ h => h
  dsimp only [Act.put]
  try simp only [puts]
  refine wpTy_take (v := ?vAY18) rfl (by kernel_rfl) ?qAY18 rfl hBW1 ?yAY18 ?rAY18
  case yAY18 => intro wS h; clear h; go_simp; try rfl
  case qAY18 => exact fun _ _ _ h => h
  dsimp only [Act.put]
  try simp only [puts]
  refine wpTy_take (v := ?vAY19) rfl (by kernel_rfl) ?qAY19 rfl hBW1 ?yAY19 ?rAY19
  case yAY19 => intro wS h; clear h; go_simp; try rfl
  case qAY19 => exact fun _ _ _ h => h
  dsimp only [Act.put]
  try simp only [puts]
  refine wpTy_past ?_
  obtain ⟨r0, r1, r2⟩ := row3 hgd1
  obtain ⟨z0, z1, z2⟩ := froz3 hgd1
  have rlt := lt_of_block hgd1
  have hB12 := put3_but w1 bm (.bool m0) (.slice a1 n1 c1) (.slice a2 n2 c2)
  have hgm := put3_heap hgd1 (.bool m0) (.slice a1 n1 c1) (.slice a2 n2 c2)
  unfold put3 at hB12 hgm
  have hB2 : But (fun _ => False) W (((w1.setCell ⟨bm, 0, none⟩ (.bool m0)).setCell ⟨bm, 1, none⟩ (.slice a1 n1 c1)).setCell ⟨bm, 2, none⟩ (.slice a2 n2 c2)) := hBW1.next hB12 (fun k hk e => by omega)
  have hun : ∀ k cur, w1.heap[k]? = some (.cells cur 5) → ¬ k = bm := fun k cur hk e => by
   rw [e, hgd1] at hk
   injection hk with hk
   injection hk with _ h2
   exact absurd h2 (by decide)
  have HCS : Hid ((effT im.classes im.sigs bd x s l = none ∧ ok = false) ∨ (∃ s' l', effT im.classes im.sigs bd x s l = some (s', l') ∧ ok = true ∧ m0 = true ∧ n1 = List.length s' ∧ n2 = List.length l' ∧ BtB (((w1.setCell ⟨bm, 0, none⟩ (.bool m0)).setCell ⟨bm, 1, none⟩ (.slice a1 n1 c1)).setCell ⟨bm, 2, none⟩ (.slice a2 n2 c2)) 0 (.slice a1 s'.length c1) s' ∧ BtB (((w1.setCell ⟨bm, 0, none⟩ (.bool m0)).setCell ⟨bm, 1, none⟩ (.slice a1 n1 c1)).setCell ⟨bm, 2, none⟩ (.slice a2 n2 c2)) 0 (.slice a2 l'.length c2) l')) := by
   rcases hcs with h | ⟨s', l', e1, e2, e3, e4, e5, e6, e7⟩
   ·exact hid (Or.inl h)
   ·exact hid (Or.inr ⟨s', l', e1, e2, e3, e4, e5, owns_off e6 hB12 (fun k cur hh _ => hun k cur hh), owns_off e7 hB12 (fun k cur hh _ => hun k cur hh)⟩)
  refine wpTx_step (o := ?oAY21) (rest := ?rsAY21) ?hoAY21 ?hrAY21 ?stAY21
  case hoAY21 => rfl
  case hrAY21 => kernel_rfl
  case' stAY21 =>
  intro KS hKS
  go_simp
  refine hKS.out _ _ (fun _ => hB2) ?_
  clear hKS KS
  refine wpTx_step (o := ?oAY22) (rest := ?rsAY22) ?hoAY22 ?hrAY22 ?stAY22
  case hoAY22 => rfl
  case hrAY22 => kernel_rfl
  case' stAY22 =>
  intro KS hKS
  go_simp
  refine hKS.out _ _ (fun h => absurd h (by decide)) ?_
  clear hKS KS
  refine wpTx_done rfl (by kernel_rfl) ?_
  revert hB2 hgm HCS
  clear hBd hgd hgd1 r0 r1 r2 z0 z1 z2 rlt hB1 hBW1 hB12 hcs hun
  generalize (((w1.setCell ⟨bm, 0, none⟩ (.bool m0)).setCell ⟨bm, 1, none⟩ (.slice a1 n1 c1)).setCell ⟨bm, 2, none⟩ (.slice a2 n2 c2)) = w2
  intro hgm hB2 HCS
  clear w1 Wd HBM
 ·clear c0 c6 c7 c8 d1 d2 d3 d4 d5 k0 k1 k2 k3 k4 t0 t1 t2
  have hBl2 := HBl.out.next hB2
  have hFR2 : But (fun k => k = bb ∨ k = gs ∨ k = gw) w w2 := (hBW.trans hB2).mono (fun _ _ h => h.elim)
  have hg2 := (hB2.block w.heap.size hgl (fun h => h)).trans HGW.out
  have hgl2 := lt_of_block hg2
  obtain ⟨k0, k1, k2, k3, k4⟩ := row5 hg2
  obtain ⟨m0c, m1c, m2c⟩ := row3 hgm
  have hbml := lt_of_block hgm
  obtain ⟨c0, c6, c7, c8⟩ := hBl2.cells
  have f8 := hBl2.fz 8
  clear HBH
  rcases HCS.out with ⟨he, rfl⟩ | ⟨s', l', he, rfl, rfl, rfl, rfl, hs', hl'⟩
  ·have hfr : followR im bd tab wt a x s l = (tab, wt, true) := by unfold followR; rw [he]
   have HFR := hid hfr
   clear hfr he HCS
   go_wp2_with fail
   exact bodyPost_ret (v := .tuple #[]) (by simp [results, Tryz.results107, go_sem]) rfl ⟨rfl, hFR2.trans ((But.setB _ _ _ _).mono (fun k _ h => Or.inl h)), tab, wt, true, rfl, hBl2.fail, by rw [HFR.out], fun h => by cases h⟩
  ·have hfr : followR im bd tab wt a x s l = reachAll im.classes s' l' (tab, wt, false) (tgts x a) := by unfold followR; rw [he]
   have HFR := hid hfr
   have hok := effT_ok hW hwx hzs he
   have HHE := hid he
   clear hfr he HCS
   have hXo : X.op = x.op := by rw [← HX.out]; rfl
   have hXn : X.num = x.b := by rw [← HX.out]; rfl
   have hz2 := hok.1
   have hsl2 : s'.length ≤ 101 := by have := hok.2; omega
   have hs'N : s'.length ≤ setN tab := by have := hok.2; omega
   have hwf2 : wfT im.classes.length bd.locals.length tab.length tab := by rw [htn]; exact hwf
   have hloc := hbd.loc.1
   have HRE := hid (fun (jj : Nat) (tb : List St) (wtt : List Bool) (bd2 : Bool) (wx : World) (h1 : Bld w0 wx bb b gs gw c r m vl (.slice (some ⟨gi, 0, none⟩) bd.code.length capi) tb wtt bd2) (h2 : wfT im.classes.length bd.locals.length tb.length tb) (h3 : tb.length ≤ 100) (h4 : BtB wx 0 (.slice a1 s'.length c1) s') (h5 : BtB wx 0 (.slice a2 l'.length c2) l') => xreach_any w0 bb b gs gw c r m vl _ tb wtt bd2 im bd.locals.length jj a1 a2 c1 c2 s' l' wx hW hloc h3 h1 hTX.cls h2 hz2 hsl2 h4 h5)
   unfold xsV at HRE
   have hRl : ∀ jj, (reachW im.classes (tab, wt, false) jj s' l').1.length = tab.length := fun jj => intoT_len _ _ _ _ _
   have hRw := fun jj => reachW_wf hW (n := tab.length) (wt := wt) (j := jj) hwf2 hz2 hs'N
   by_cases h116 : X.op.toNat = 116
   ·have e1 : ((X.op.toNat : Int) == 116) = true := by rw [beq_iff_eq]; omega
    have ht : tgts x a = [] := by unfold tgts; rw [if_pos (by rw [← hXo]; exact h116)]
    have HF2 := hid (show followR im bd tab wt a x s l = (tab, wt, false) by rw [HFR.out, ht]; rfl)
    clear HFR ht hXo hXn h116
    go_wp2_with fail
    go_end0
    exact ⟨rfl, hFR2, tab, wt, false, rfl, hBl2, by rw [HF2.out], fun _ => by rw [HF2.out]; exact ⟨rfl, rfl⟩⟩
   have e1 : ((X.op.toNat : Int) == 116) = false := by rw [beq_eq_false_iff_ne]; omega
   by_cases h106 : X.op.toNat = 106
   ·have e2 : ((X.op.toNat : Int) == 106) = true := by rw [beq_iff_eq]; omega
    have ht : tgts x a = [X.num] := by unfold tgts; rw [if_neg (by rw [← hXo]; exact h116), if_pos (by rw [← hXo]; exact h106), hXn]
    have HF2 := hid (show followR im bd tab wt a x s l = reachW im.classes (tab, wt, false) X.num s' l' by rw [HFR.out, ht]; rfl)
    clear HFR ht hXo hXn h116 h106
    go_wp2_with fail
    refine (HRE.out X.num tab wt false w2 hBl2 hwf2 (by omega) hs' hl').mono ?_
    rintro en w3 ⟨rfl, hB3, hBl3⟩
    go_wp2_with fail
    go_end0
    exact ⟨rfl, hFR2.trans hB3, _, _, _, hRl _, hBl3, by rw [HF2.out]; simp, fun _ => by rw [HF2.out]; exact ⟨rfl, rfl⟩⟩
   have e2 : ((X.op.toNat : Int) == 106) = false := by rw [beq_eq_false_iff_ne]; omega
   have haw : IntKind.i64.wrap ((a : Int) + 1) = ((a + 1 : Nat) : Int) := by rw [wrapI _ (by omega) (by omega)]; simp
   by_cases h102 : X.op.toNat = 102
   ·have e3 : ((X.op.toNat : Int) == 102) = true := by rw [beq_iff_eq]; omega
    have ht : tgts x a = [X.num, a + 1] := by unfold tgts; rw [if_neg (by rw [← hXo]; exact h116), if_neg (by rw [← hXo]; exact h106), if_pos (by rw [← hXo]; exact h102), hXn]
    have HF2 := hid (show followR im bd tab wt a x s l = reachW im.classes (reachW im.classes (tab, wt, false) X.num s' l') (a + 1) s' l' by rw [HFR.out, ht]; rfl)
    have hRwn := hRw X.num
    have hRln := hRl X.num
    clear HFR ht hXo hXn h116 h106 h102
    go_wp2_with fail
    refine (HRE.out X.num tab wt false w2 hBl2 hwf2 (by omega) hs' hl').mono ?_
    rintro en w3 ⟨rfl, hB3, hBl3⟩
    have hs3 : BtB w3 0 (.slice a1 s'.length c1) s' := owns_off hs' hB3 (fun k cur hh _ => hBl2.u8 hh)
    have hl3 : BtB w3 0 (.slice a2 l'.length c2) l' := owns_off hl' hB3 (fun k cur hh _ => hBl2.u8 hh)
    have hbu : ¬ (bm = bb ∨ bm = gs ∨ bm = gw) := by omega
    have hgm3 := (hB3.block bm hbml hbu).trans hgm
    obtain ⟨W1, hW1⟩ : ∃ W1, reachW im.classes (tab, wt, false) X.num s' l' = W1 := ⟨_, rfl⟩
    rw [hW1] at hBl3 hRwn hRln HF2
    obtain ⟨tb1, wt1, f1⟩ := W1
    dsimp only at hBl3 hRwn hRln
    simp only [Bool.false_or] at hBl3
    clear hW1 m0c m1c m2c k0 k1 k2 k3 c0 c6 c7 c8 f8
    obtain ⟨m0c, m1c, m2c⟩ := row3 hgm3
    have hbml3 := lt_of_block hgm3
    go_wp2_with fail
    have hre := HRE.out (a + 1) tb1 wt1 f1 w3 hBl3 (by rw [hRln]; exact hRwn.1) (by omega) hs3 hl3
    refine Calls.mono hre ?_
    rintro en w4 ⟨rfl, hB4, hBl4⟩
    clear hre
    go_wp2_with fail
    go_end0
    refine ⟨rfl, (hFR2.trans hB3).trans hB4, _, _, _, (intoT_len im.classes (tb1, false, false) ((a + 1 : Nat) : Int) s' l').trans hRln, hBl4, ?_, ?_⟩
    ·rw [HF2.out]
     cases f1 with
     | true => simp only [Bool.true_or]; exact (reachW_bad rfl).symm
     | false => simp
    ·intro hf
     cases f1 with
     | true => simp at hf
     | false => rw [HF2.out]; exact ⟨rfl, rfl⟩
   have e3 : ((X.op.toNat : Int) == 102) = false := by rw [beq_eq_false_iff_ne]; omega
   have ht : tgts x a = [a + 1] := by unfold tgts; rw [if_neg (by rw [← hXo]; exact h116), if_neg (by rw [← hXo]; exact h106), if_neg (by rw [← hXo]; exact h102)]
   have HF2 := hid (show followR im bd tab wt a x s l = reachW im.classes (tab, wt, false) (a + 1) s' l' by rw [HFR.out, ht]; rfl)
   clear HFR ht hXo hXn h116 h106 h102
   go_wp2_with fail
   have hre := HRE.out (a + 1) tab wt false w2 hBl2 hwf2 (by omega) hs' hl'
   refine Calls.mono hre ?_
   rintro en w3 ⟨rfl, hB3, hBl3⟩
   go_wp2_with fail
   go_end0
   exact ⟨rfl, hFR2.trans hB3, _, _, _, hRl _, hBl3, by rw [HF2.out]; simp, fun _ => by rw [HF2.out]; exact ⟨rfl, rfl⟩⟩
 ·clear c0 c6 c7 c8 d1 d2 d3 d4 d5 k0 k1 k2 k3 k4 t0 t1 t2
  have hBl2 := HBl.out.next hB2
  have hFR2 : But (fun k => k = bb ∨ k = gs ∨ k = gw) w w2 := (hBW.trans hB2).mono (fun _ _ h => h.elim)
  have hg2 := (hB2.block w.heap.size hgl (fun h => h)).trans HGW.out
  have hgl2 := lt_of_block hg2
  obtain ⟨k0, k1, k2, k3, k4⟩ := row5 hg2
  obtain ⟨m0c, m1c, m2c⟩ := row3 hgm
  have hbml := lt_of_block hgm
  obtain ⟨c0, c6, c7, c8⟩ := hBl2.cells
  have f8 := hBl2.fz 8
  clear HBH
  rcases HCS.out with ⟨he, rfl⟩ | ⟨s', l', he, rfl, rfl, rfl, rfl, hs', hl'⟩
  ·have hfr : followR im bd tab wt a x s l = (tab, wt, true) := by unfold followR; rw [he]
   have HFR := hid hfr
   clear hfr he HCS
   go_wp2_with fail
   exact bodyPost_ret (v := .tuple #[]) (by simp [results, Tryz.results107, go_sem]) rfl ⟨rfl, hFR2.trans ((But.setB _ _ _ _).mono (fun k _ h => Or.inl h)), tab, wt, true, rfl, hBl2.fail, by rw [HFR.out], fun h => by cases h⟩
  ·have hfr : followR im bd tab wt a x s l = reachAll im.classes s' l' (tab, wt, false) (tgts x a) := by unfold followR; rw [he]
   have HFR := hid hfr
   have hok := effT_ok hW hwx hzs he
   have HHE := hid he
   clear hfr he HCS
   have hXo : X.op = x.op := by rw [← HX.out]; rfl
   have hXn : X.num = x.b := by rw [← HX.out]; rfl
   have hz2 := hok.1
   have hsl2 : s'.length ≤ 101 := by have := hok.2; omega
   have hs'N : s'.length ≤ setN tab := by have := hok.2; omega
   have hwf2 : wfT im.classes.length bd.locals.length tab.length tab := by rw [htn]; exact hwf
   have hloc := hbd.loc.1
   have HRE := hid (fun (jj : Nat) (tb : List St) (wtt : List Bool) (bd2 : Bool) (wx : World) (h1 : Bld w0 wx bb b gs gw c r m vl (.slice (some ⟨gi, 0, none⟩) bd.code.length capi) tb wtt bd2) (h2 : wfT im.classes.length bd.locals.length tb.length tb) (h3 : tb.length ≤ 100) (h4 : BtB wx 0 (.slice a1 s'.length c1) s') (h5 : BtB wx 0 (.slice a2 l'.length c2) l') => xreach_any w0 bb b gs gw c r m vl _ tb wtt bd2 im bd.locals.length jj a1 a2 c1 c2 s' l' wx hW hloc h3 h1 hTX.cls h2 hz2 hsl2 h4 h5)
   unfold xsV at HRE
   have hRl : ∀ jj, (reachW im.classes (tab, wt, false) jj s' l').1.length = tab.length := fun jj => intoT_len _ _ _ _ _
   have hRw := fun jj => reachW_wf hW (n := tab.length) (wt := wt) (j := jj) hwf2 hz2 hs'N
   by_cases h116 : X.op.toNat = 116
   ·have e1 : ((X.op.toNat : Int) == 116) = true := by rw [beq_iff_eq]; omega
    have ht : tgts x a = [] := by unfold tgts; rw [if_pos (by rw [← hXo]; exact h116)]
    have HF2 := hid (show followR im bd tab wt a x s l = (tab, wt, false) by rw [HFR.out, ht]; rfl)
    clear HFR ht hXo hXn h116
    go_wp2_with fail
    go_end0
    exact ⟨rfl, hFR2, tab, wt, false, rfl, hBl2, by rw [HF2.out], fun _ => by rw [HF2.out]; exact ⟨rfl, rfl⟩⟩
   have e1 : ((X.op.toNat : Int) == 116) = false := by rw [beq_eq_false_iff_ne]; omega
   by_cases h106 : X.op.toNat = 106
   ·have e2 : ((X.op.toNat : Int) == 106) = true := by rw [beq_iff_eq]; omega
    have ht : tgts x a = [X.num] := by unfold tgts; rw [if_neg (by rw [← hXo]; exact h116), if_pos (by rw [← hXo]; exact h106), hXn]
    have HF2 := hid (show followR im bd tab wt a x s l = reachW im.classes (tab, wt, false) X.num s' l' by rw [HFR.out, ht]; rfl)
    clear HFR ht hXo hXn h116 h106
    go_wp2_with fail
    refine (HRE.out X.num tab wt false w2 hBl2 hwf2 (by omega) hs' hl').mono ?_
    rintro en w3 ⟨rfl, hB3, hBl3⟩
    go_wp2_with fail
    go_end0
    exact ⟨rfl, hFR2.trans hB3, _, _, _, hRl _, hBl3, by rw [HF2.out]; simp, fun _ => by rw [HF2.out]; exact ⟨rfl, rfl⟩⟩
   have e2 : ((X.op.toNat : Int) == 106) = false := by rw [beq_eq_false_iff_ne]; omega
   have haw : IntKind.i64.wrap ((a : Int) + 1) = ((a + 1 : Nat) : Int) := by rw [wrapI _ (by omega) (by omega)]; simp
   by_cases h102 : X.op.toNat = 102
   ·have e3 : ((X.op.toNat : Int) == 102) = true := by rw [beq_iff_eq]; omega
    have ht : tgts x a = [X.num, a + 1] := by unfold tgts; rw [if_neg (by rw [← hXo]; exact h116), if_neg (by rw [← hXo]; exact h106), if_pos (by rw [← hXo]; exact h102), hXn]
    have HF2 := hid (show followR im bd tab wt a x s l = reachW im.classes (reachW im.classes (tab, wt, false) X.num s' l') (a + 1) s' l' by rw [HFR.out, ht]; rfl)
    have hRwn := hRw X.num
    have hRln := hRl X.num
    clear HFR ht hXo hXn h116 h106 h102
    go_wp2_with fail
    refine (HRE.out X.num tab wt false w2 hBl2 hwf2 (by omega) hs' hl').mono ?_
    rintro en w3 ⟨rfl, hB3, hBl3⟩
    have hs3 : BtB w3 0 (.slice a1 s'.length c1) s' := owns_off hs' hB3 (fun k cur hh _ => hBl2.u8 hh)
    have hl3 : BtB w3 0 (.slice a2 l'.length c2) l' := owns_off hl' hB3 (fun k cur hh _ => hBl2.u8 hh)
    have hbu : ¬ (bm = bb ∨ bm = gs ∨ bm = gw) := by omega
    have hgm3 := (hB3.block bm hbml hbu).trans hgm
    obtain ⟨W1, hW1⟩ : ∃ W1, reachW im.classes (tab, wt, false) X.num s' l' = W1 := ⟨_, rfl⟩
    rw [hW1] at hBl3 hRwn hRln HF2
    obtain ⟨tb1, wt1, f1⟩ := W1
    dsimp only at hBl3 hRwn hRln
    simp only [Bool.false_or] at hBl3
    clear hW1 m0c m1c m2c k0 k1 k2 k3 c0 c6 c7 c8 f8
    obtain ⟨m0c, m1c, m2c⟩ := row3 hgm3
    have hbml3 := lt_of_block hgm3
    go_wp2_with fail
    have hre := HRE.out (a + 1) tb1 wt1 f1 w3 hBl3 (by rw [hRln]; exact hRwn.1) (by omega) hs3 hl3
    refine Calls.mono hre ?_
    rintro en w4 ⟨rfl, hB4, hBl4⟩
    clear hre
    go_wp2_with fail
    go_end0
    refine ⟨rfl, (hFR2.trans hB3).trans hB4, _, _, _, (intoT_len im.classes (tb1, false, false) ((a + 1 : Nat) : Int) s' l').trans hRln, hBl4, ?_, ?_⟩
    ·rw [HF2.out]
     cases f1 with
     | true => simp only [Bool.true_or]; exact (reachW_bad rfl).symm
     | false => simp
    ·intro hf
     cases f1 with
     | true => simp at hf
     | false => rw [HF2.out]; exact ⟨rfl, rfl⟩
   have e3 : ((X.op.toNat : Int) == 102) = false := by rw [beq_eq_false_iff_ne]; omega
   have ht : tgts x a = [a + 1] := by unfold tgts; rw [if_neg (by rw [← hXo]; exact h116), if_neg (by rw [← hXo]; exact h106), if_neg (by rw [← hXo]; exact h102)]
   have HF2 := hid (show followR im bd tab wt a x s l = reachW im.classes (tab, wt, false) (a + 1) s' l' by rw [HFR.out, ht]; rfl)
   clear HFR ht hXo hXn h116 h106 h102
   go_wp2_with fail
   have hre := HRE.out (a + 1) tab wt false w2 hBl2 hwf2 (by omega) hs' hl'
   refine Calls.mono hre ?_
   rintro en w3 ⟨rfl, hB3, hBl3⟩
   go_wp2_with fail
   go_end0
   exact ⟨rfl, hFR2.trans hB3, _, _, _, hRl _, hBl3, by rw [HF2.out]; simp, fun _ => by rw [HF2.out]; exact ⟨rfl, rfl⟩⟩
end Go.Proofs.YtpfkkmacakjmbaaGreatDoor
