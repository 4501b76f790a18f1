import Derived.Test.YtpfkkmacakjmbaaGreatDoorP35
import Derived.Test.YtpfkkmacakjmbaaGreatDoorP16
import Derived.Test.YtpfkkmacakjmbaaGreatDoorP34
set_option maxRecDepth 100000
set_option maxHeartbeats 6400000
namespace Go.Proofs.YtpfkkmacakjmbaaGreatDoor
open Go Go.RowKit Sp
set_option linter.unusedSimpArgs false
set_option linter.unusedVariables false
attribute [local go_sem ↓] Go.wp_at_zero Go.wp_at_succ
theorem ReV.less {P Q : Nat → Prop} {w0 w w1 : World} {be bw tx bl : Nat} {inp : ByteArray} {lv : Value} {r : R} {en : Ending} (h : ReV Q w0 w be bw tx inp bl lv r en w1) (hs : ∀ k, P k → Q k) : ReV P w0 w be bw tx inp bl lv r en w1 := by
 obtain ⟨hB, vo, vb, gs, fv, h⟩ := h
 refine ⟨hB.mono (fun k _ hf => ⟨hf.1, fun hp => hf.2 (hs k hp)⟩), vo, vb, gs, fv, ?_⟩
 cases r with
 | ok u l s => exact ⟨h.1, h.2.less hs⟩
 | bad e o => obtain ⟨a, s, l, b, c⟩ := h; exact ⟨a, s, l, b, c.less hs⟩
theorem pts3 {t : List Ins} {k : Nat} (h1 : k < t.length) (h2 : endN t k < t.length) (h3 : endN t (endN t k) < t.length) : ptsL t 3 k = [k, endN t k, endN t (endN t k)] := by
 simp [ptsL, h1, h2, h3]
theorem pts2 {t : List Ins} {k : Nat} (h1 : k < t.length) (h2 : endN t k < t.length) : ptsL t 2 k = [k, endN t k] := by
 simp [ptsL, h1, h2]
theorem toXN_ne {x : Ins} {k : Nat} (h : x.op.toNat ≠ k) (h1 : k ≠ 107) (h2 : 58 ≤ k) : (toXN x).op.toNat ≠ k := by
 cases hd : isDigit x.op with
 | true => rw [(toXN_dig hd).1]; omega
 | false =>
  rw [(toXN_not (x := x) (by simp [isDigit] at hd; omega)).1]
  exact h
section
variable {P : Nat → Prop} {w0 w : World} {be bw tx bl : Nat} {inp : ByteArray} {s : Ev} {lv vo vb : Value} {l : List V} {gs : List Nat} {fv : List Value} {im : Img} {b : Bod} {bf d i : Nat} {Xb : XBod} {vl vi : Value}
theorem work_spent (h : StQ P w0 w be bw tx inp s bl lv l vo vb gs fv) (h0 : s.left = 0) :
  Calls Tryz.prog 93 #[.pointer (some ⟨be, 0, none⟩), .pointer (some ⟨bf, 0, none⟩), .int .i64 i] w (ReV P w0 w be bw tx inp bl lv (.bad 5 s.out)) := by
 have e2 := h.ev.c2
 have hel := h.ev.lt
 rw [h0] at e2
 have e2' : w.cell? ⟨be, 2, none⟩ = some (.int .i64 0) := e2
 have HH := hid h
 clear e2 h h0
 go_enter Tryz.func93, Tryz.ntmps93
 go_wp2_with fail
 exact retX Tryz.results93 rfl rfl rfl (heap_alloc_new _ _) ⟨But.alloc _ _ _, vo, vb, gs, fv, rfl, s, l, rfl, HH.out.new (But.alloc _ _ _)⟩
end
theorem work_step {f : Nat} (w0 : World) (be bw tx : Nat) (inp : ByteArray) (h40 : inp.size ≤ 40) (im : Img) (hT : TextN w0 tx im) (htab : TabW w0) (hR : Ready im) (IH : NodeQ im inp w0 be bw tx f) : NodeQ im inp w0 be bw tx (f + 1) := by
 intro b d i l s t F B P w bl lv vo vb gs fv bf X vl vi hbm hd htn hll hs hsf h hF
 by_cases h0 : s.left = 0
 ·rw [nodV_zero h0]
  exact work_spent h h0
 have hW := hR.wf
 have hil := typN_lt htn
 cases F with
 | zero => cases htn
 | succ F =>
 simp only [typN] at htn
 obtain ⟨x, hx⟩ : ∃ x, b.code[i]? = some x := ⟨_, List.getElem?_eq_getElem hil⟩
 rw [hx] at htn
 simp only at htn
 have hwb := hW.bod b hbm
 have hxm : x ∈ b.code := List.mem_of_getElem? hx
 have hwx := hwb.code x hxm
 cases hp : partsT b.code (typN im.classes im.sigs b.locals b.code F) (arity x.op) (i + 1) with
 | none => rw [hp] at htn; cases htn
 | some ts =>
 rw [hp] at htn
 simp only at htn
 obtain ⟨hts, hpl, hpt⟩ := parts_typ hp
 obtain ⟨sl, hsl⟩ : ∃ sl, s.left = sl + 1 := ⟨s.left - 1, by omega⟩
 have hs1 : StT im (B - 22) { s with left := sl } := ⟨hs.ht, by have := hs.cap; simp; omega, by have := hs.outn; simp; omega, by have := hs.bb; omega, by have := hs.rd; simp; omega⟩
 have hsf1 : sl ≤ f := by omega
 -- the item
 have hlx : X.items.length = b.code.length := hF.bd.bd.its.len
 obtain ⟨xi, hxi⟩ : ∃ xi, X.items[i]? = some xi := ⟨_, List.getElem?_eq_getElem (by omega)⟩
 obtain ⟨z1, z2, z3, z4, hrow⟩ := hF.bd.bd.its.at' i x xi hx hxi
 rw [ptsN_eq hx] at hrow
 obtain ⟨ps, hps⟩ : ∃ ps, ptsL b.code (arity x.op) (i + 1) = ps := ⟨_, rfl⟩
 have hpl' := hpl
 rw [hps] at hpl hpt hrow
 obtain ⟨RR, hRR⟩ : ∃ RR, nodV im inp (f + 1) b d i l s = RR := ⟨_, rfl⟩
 rw [hRR]
 have har3 : arity x.op ≤ 3 := by unfold arity; split; omega; split; omega; split <;> omega
 have hcl := hwb.len
 -- the fuel
 have hBf : But (FrQ P w0) w (w.setCell ⟨be, 2, none⟩ (.int .i64 sl)) := (But.setB w be 2 _).mono (fun k _ e => by have e : k = be := e; subst e; exact h.k1)
 have hf := h.fuel sl
 have hFf := hF.but hBf
 have e2 := h.ev.c2
 have y2 := h.ev.fz 2
 rw [hsl] at e2
 have e2' : w.cell? ⟨be, 2, none⟩ = some (.int .i64 ((sl : Int) + 1)) := by rw [e2]; simp
 have hel := h.ev.lt
 have hslI : ¬ ((sl : Int) + 1 ≤ 0) := by omega
 have hgA : be < w.heap.size + 1 := by omega
 have hsl4 : sl ≤ 4000 := by have := hs.cap; omega
 obtain ⟨a0, a1, a2, a3, a4, a5, a6, hbf⟩ := hF.cells
 have hne : ¬ be = bf := fun e => h.k1.2 (e ▸ hF.pf)
 have hne2 : ¬ bf = be := fun e => hne e.symm
 have hbfA : bf < w.heap.size + 1 := by omega
 have HIT := hid (fun (Y : World) (hY : But (fun _ => False) w0 Y) => itemAt_any X.cls X.meth X.ans vl vi X.items i xi Y (owns_but hF.bd.it hY (fun _ _ h => h)) hxi (by omega))
 have h0w := h.old.size
 have HX := hid (And.intro hx (And.intro hsl (And.intro htn (And.intro hps hRR))))
 have HZ := hid (And.intro z1 (And.intro z2 (And.intro z3 z4)))
 have HPT := hid hpt
 have HP := hid hp
 have HX2 := hid hx
 have Hf := hid hf
 have HFf := hid hFf
 have HBf := hid hBf
 clear e2 hx hsl htn hps hRR hpt hf hFf hBf hp h hF hxi z1 z2 z3 z4 h0 hxm
 go_enter Tryz.func93, Tryz.ntmps93
 go_wp2_with fail
 have hwa : NB (w.setCell ⟨be, 2, none⟩ (.int .i64 sl)) ((w.setCell ⟨be, 2, none⟩ (.int .i64 sl)).alloc (.cells #[.int .i32 0, .int .i64 0] 168)) := (NB.refl _).alloc (by decide)
 have hga : ResX ((w.setCell ⟨be, 2, none⟩ (.int .i64 sl)).alloc (.cells #[.int .i32 0, .int .i64 0] 168)) w.heap.size := ⟨0, 0, heap_alloc_at (by simp [size_setCell]) _⟩
 have hsz : (w.setCell ⟨be, 2, none⟩ (.int .i64 sl)).heap.size = w.heap.size := size_setCell _ _ _
 revert Hf HFf HBf hwa hga hsz
 generalize (w.setCell ⟨be, 2, none⟩ (.int .i64 sl)) = wf
 intro Hf HFf HBf hwa hga hsz
 revert hwa hga
 generalize (wf.alloc (.cells #[.int .i32 0, .int .i64 0] 168)) = wa
 intro hwa hga
 refine (HIT.out wa (Hf.out.old.trans hwa.but)).mono ?_
 rintro en w2 ⟨rfl, hN2⟩
 obtain ⟨z1, z2, z3, z4⟩ := HZ.out
 have hN12 : NB wf w2 := ⟨hwa.but.trans hN2.but, fun k a b c fz e => by
  rcases Nat.lt_or_ge k wa.heap.size with hk | hk
  ·rw [hN2.but.block k hk (fun h => h)] at e; exact hwa.nb k a hk c fz e
  ·exact hN2.nb k hk b c fz e⟩
 have hg2 : ResX w2 w.heap.size := hga.but hN2.but (fun h => h)
 unfold itAgg
 rw [z1, z2, z3, z4]
 clear HIT HZ z1 z2 z3 z4 hwa hN2 hga wa a0 a1 a2 a3 a4 a5 a6 e2' y2
 generalize hop : (toXN x).op.toNat = op
 generalize hcc : (toXN x).cls = cc
 generalize hnn : (toXN x).num = nn
 generalize hpp : (toXN x).place = pp
 obtain ⟨hx, hsl, htn, hps, hRR⟩ := HX.out
 have hN3 : ∀ c, NB wf (w2.alloc (.cells c 219)) := fun c => hN12.alloc (by decide)
 by_cases h105 : x.op.toNat = 105
 ·have hop5 : ((op : Int) == 105) = true := tst (by rw [← hop, (toXN_not (x := x) (by omega)).1, h105])
  have har : arity x.op = 3 := by simp [arity, h105]
  rw [nodV_105 hx hsl h105] at hRR
  have hp := HP.out
  rw [har] at hp hps
  obtain ⟨t0, t1, t2, g0, g1, g2, rfl⟩ := partsT3 hp
  simp [nodeT, askT, giveT, Sp.arith, h105] at htn
  rw [pts3 (typN_lt g0) (typN_lt g1) (typN_lt g2)] at hps
  subst hps
  have HC := hid (fun c => choose_any hR IH (Hf.out.grown (hN3 c)) (HFf.out.grown (hN3 c)) hbm hs1 hsf1 hd hll _ _ _ g0 htn.1.1 g1 g2 pp op nn xi.pn xi.pc cc xi.pa hrow)
  rw [hRR] at HC
  clear HX hx hsl htn hRR HP hp g0 g1 g2 hts hpl hpl' HPT Hf HFf hrow
  go_wp2_with fail
  refine (HC.out _).mono ?_
  intro en w4 hre
  obtain ⟨K, N, e, rfl, hfin⟩ := ReV.pass (hN3 _) (by omega) hre
  obtain ⟨hr1, hfi⟩ := hfin w.heap.size (by omega) (hg2.but (But.alloc (fun _ => False) _ _) (fun h => h))
  obtain ⟨K9, N9, r0, r1, f0, f1, hrl⟩ := hr1.parts
  have HF := hid (hfi.since HBf.out)
  clear hfi hfin hre HC
  go_wp2_with fail
  exact retX Tryz.results93 rfl rfl rfl (hr1.put _ _) HF.out
 have hop5 : ((op : Int) == 105) = false := tsf (k := 105) (by rw [← hop]; exact toXN_ne h105 (by omega) (by omega))
 by_cases h111 : x.op.toNat = 111
 ·have hop1 : ((op : Int) == 111) = true := tst (by rw [← hop, (toXN_not (x := x) (by omega)).1, h111])
  have har : arity x.op = 2 := by simp [arity, h111]
  rw [nodV_111 hx hsl h111] at hRR
  have hp := HP.out
  rw [har] at hp hps
  obtain ⟨t0, t1, g0, g1, rfl⟩ := partsT2 hp
  simp [nodeT, askT, giveT, Sp.arith, h111] at htn
  rw [pts2 (typN_lt g0) (typN_lt g1)] at hps
  subst hps
  have HC := hid (fun c => repeat_any hR IH (Hf.out.grown (hN3 c)) (HFf.out.grown (hN3 c)) hbm hs1 hsf1 hd hll _ _ g0 htn.1 g1 pp op nn xi.pn xi.pc cc xi.pa hrow)
  rw [hRR] at HC
  clear HX hx hsl htn hRR HP hp g0 g1 hts hpl hpl' HPT Hf HFf hrow
  go_wp2_with fail
  refine (HC.out _).mono ?_
  intro en w4 hre
  obtain ⟨K, N, e, rfl, hfin⟩ := ReV.pass (hN3 _) (by omega) hre
  obtain ⟨hr1, hfi⟩ := hfin w.heap.size (by omega) (hg2.but (But.alloc (fun _ => False) _ _) (fun h => h))
  obtain ⟨K9, N9, r0, r1, f0, f1, hrl⟩ := hr1.parts
  have HF := hid (hfi.since HBf.out)
  clear hfi hfin hre HC
  go_wp2_with fail
  exact retX Tryz.results93 rfl rfl rfl (hr1.put _ _) HF.out
 have hop1 : ((op : Int) == 111) = false := tsf (k := 111) (by rw [← hop]; exact toXN_ne h111 (by omega) (by omega))
 rw [nodV_do hx hsl h111 h105 hpl', hps] at hRR
 have hpl3 : ps.length ≤ 3 := by omega
 have hlt : ps.length = ts.length := by omega
 have HRR := hid hRR
 have HTN := hid htn
 have hsz2 := hN12.but.size
 have hIt := heap_alloc_new w2 (.cells #[.int .i64 pp, .int .u8 op, .int .u8 cc.toNat, .int .i64 nn, .slice xi.pa xi.pn xi.pc] 219)
 have hW3s : (w2.alloc (.cells #[.int .i64 pp, .int .u8 op, .int .u8 cc.toNat, .int .i64 nn, .slice xi.pa xi.pn xi.pc] 219)).heap.size = w2.heap.size + 1 := by simp
 have hN4 := hN3 #[.int .i64 pp, .int .u8 op, .int .u8 cc.toNat, .int .i64 nn, .slice xi.pa xi.pn xi.pc]
 have hg3 := hg2.but (But.alloc (fun _ => False) w2 (.cells #[.int .i64 pp, .int .u8 op, .int .u8 cc.toNat, .int .i64 nn, .slice xi.pa xi.pn xi.pc] 219)) (fun h => h)
 have HIA := hid (fun (X : World) (hX : X = w2.alloc (.cells #[.int .i64 pp, .int .u8 op, .int .u8 cc.toNat, .int .i64 nn, .slice xi.pa xi.pn xi.pc] 219)) => hX)
 clear HX hx hsl htn hps hRR HP hN3 HIA hg2
 go_wp2_with fail
 revert hIt hW3s hN4 hg3
 generalize (w2.alloc (.cells #[.int .i64 pp, .int .u8 op, .int .u8 cc.toNat, .int .i64 nn, .slice xi.pa xi.pn xi.pc] 219)) = W3
 intro hIt hW3s hN4 hg3
 have h3 := Hf.out.grown hN4
 have hF3 := HFf.out.grown hN4
 obtain ⟨P3, hP3⟩ : ∃ P3 : Nat → Prop, PQ P wf W3 = P3 := ⟨_, rfl⟩
 have pI : P3 w2.heap.size := by rw [← hP3]; exact Or.inr ⟨by omega, by omega⟩
 have pR : P3 w.heap.size := by rw [← hP3]; exact Or.inr ⟨by omega, by omega⟩
 have pF := hF3.pf
 rw [hP3] at h3 hF3 pF
 have HC0 := hid (part_any (s := { s with left := sl }) IH h3 hF3 hbm hs1 hsf1 hd hll hpl3 HPT.out 0 (by omega) pp op nn xi.pn xi.pc cc xi.pa hrow)
 have HT0 := hid (partV_typed (inp := inp) (d := d) (s := { s with left := sl }) hR hbm hlt HPT.out 0 hll hs1 hsf1)
 rw [show ((0 : Nat) : Int) = 0 from rfl] at HC0
 refine HC0.out.mono ?_
 rintro en w4 ⟨hB4, vo4, vb4, gs4, fv4, hq⟩
 have hF4 := hF3.but hB4
 have d0 := (hB4.block _ (lt_of_block hIt) (fun hf => hf.2 pI)).trans hIt
 have hl0 := lt_of_block d0
 have hr4 := hg3.but hB4 (fun hf => hf.2 pR)
 have HT2 := HT0.out
 have HR2 := HRR.out
 clear HC0 hF3 h3
 cases hn : partV im inp f b d ps 0 l { s with left := sl } with
 | bad e o =>
  rw [hn] at hq HT2 HR2
  obtain ⟨rfl, s4, l4, ho, hs4⟩ := hq
  subst HR2
  obtain ⟨e1, e2⟩ := faultN_ne HT2.1 HT2.2
  have HF := hid (fun a b => StQ.fin hN4 (by omega) (hP3 ▸ hs4) (hP3 ▸ hB4) (r := w.heap.size) (by omega) hg3 a b)
  obtain ⟨K9, N9, r0, r1, z0, z1, hrl⟩ := hr4.parts
  have hrlA : w.heap.size < w4.heap.size + 1 := by omega
  clear HT0 HRR HT2 hn d0 hs4 hIt HTN HPT Hf HFf
  go_wp2_with fail
  exact retX Tryz.results93 rfl rfl rfl (still hr4) ⟨HBf.out.trans ((HF.out _ _).2.1.trans (But.alloc _ _ _)), _, _, _, _, rfl, s4, l4, ho, (HF.out _ _).2.2.new (But.alloc _ _ _)⟩
 | ok u l4 s4 =>
  rw [hn] at hq HT2 HR2
  obtain ⟨rfl, hs4⟩ := hq
  obtain ⟨y1, y2, y3, y4, y5⟩ := HT2
  simp only at y3 y4
  simp only [bindV] at HR2
  have HR3 := hid HR2
  have i0 : w4.cell? ⟨w2.heap.size, 0, none⟩ = some (.int .i64 pp) := by rw [cell_of_row w4 _ 0 _ _ (0, 0) d0]; rfl
  have i1 : w4.cell? ⟨w2.heap.size, 1, none⟩ = some (.int .u8 op) := by rw [cell_of_row w4 _ 1 _ _ (0, 0) d0]; rfl
  have i2 : w4.cell? ⟨w2.heap.size, 2, none⟩ = some (.int .u8 cc.toNat) := by rw [cell_of_row w4 _ 2 _ _ (0, 0) d0]; rfl
  have i3 : w4.cell? ⟨w2.heap.size, 3, none⟩ = some (.int .i64 nn) := by rw [cell_of_row w4 _ 3 _ _ (0, 0) d0]; rfl
  have i4 : w4.cell? ⟨w2.heap.size, 4, none⟩ = some (.slice xi.pa xi.pn xi.pc) := by rw [cell_of_row w4 _ 4 _ _ (0, 0) d0]; rfl
  have h5 := hs4.grown1 (c := #[.int .i32 (xN u), .int .i64 (xO u)]) (t := 168) (by decide)
  have hW5s : (w4.alloc (.cells #[.int .i32 (xN u), .int .i64 (xO u)] 168)).heap.size = w4.heap.size + 1 := by simp
  have hB5 : But (fun _ => False) w4 (w4.alloc (.cells #[.int .i32 (xN u), .int .i64 (xO u)] 168)) := But.alloc _ _ _
  have hb5 := heap_alloc_new w4 (.cells #[.int .i32 (xN u), .int .i64 (xO u)] 168)
  clear HR2 HT0 HRR hn
  simp only [xAgg]
  go_wp2_with fail
  revert h5 hW5s hB5 hb5
  generalize (w4.alloc (.cells #[.int .i32 (xN u), .int .i64 (xO u)] 168)) = W5
  intro h5 hW5s hB5 hb5
  clear i0 i1 i2 i3 i4
  obtain ⟨P5, hP5⟩ : ∃ P5 : Nat → Prop, PQ P3 w4 W5 = P5 := ⟨_, rfl⟩
  have p35 : ∀ k, P3 k → P5 k := fun k hk => by rw [← hP5]; exact Or.inl hk
  have pU : P5 w4.heap.size := by rw [← hP5]; exact Or.inr ⟨by omega, by omega⟩
  rw [hP5] at h5
  have hF5 : FrS P5 w0 W5 im b bf d X vl vi bl := (hF4.but (hB5.mono (fun _ _ h => h.elim))).mono (p35 _ pF)
  have hsf4 : s4.left ≤ f := by omega
  have HC1 := hid (part_any IH h5 hF5 hbm y2 hsf4 hd y1 hpl3 HPT.out 1 (by omega) pp op nn xi.pn xi.pc cc xi.pa hrow)
  have HT1 := hid (partV_typed (inp := inp) (d := d) hR hbm hlt HPT.out 1 y1 y2 hsf4)
  rw [show ((1 : Nat) : Int) = 1 from rfl] at HC1
  refine HC1.out.mono ?_
  rintro en w6 ⟨hB6, vo6, vb6, gs6, fv6, hq⟩
  have hF6 := hF5.but hB6
  have d5 := (hB5.block _ hl0 (fun h => h)).trans d0
  have d6 := (hB6.block _ (lt_of_block d5) (fun hf => hf.2 (p35 _ pI))).trans d5
  have b6 := (hB6.block _ (lt_of_block hb5) (fun hf => hf.2 pU)).trans hb5
  have hl6 := lt_of_block d6
  have hl7 := lt_of_block b6
  have hr6 := (hr4.but hB5 (fun h => h)).but hB6 (fun hf => hf.2 (p35 _ pR))
  have hB36 : But (FrQ P3 w0) W3 w6 := (hB4.trans (hB5.mono (fun _ _ h => h.elim))).trans (hB6.mono (fun k _ hf => ⟨hf.1, fun hp => hf.2 (p35 k hp)⟩))
  have HT2 := HT1.out
  have HR4 := HR3.out
  clear HC1 HR3 HT1 h5 hF5 d5 d0 hb5 hs4
  cases hn : partV im inp f b d ps 1 l4 s4 with
  | bad e o =>
   rw [hn] at hq HT2 HR4
   obtain ⟨rfl, s6, l6, ho, hs6⟩ := hq
   subst HR4
   obtain ⟨e1, e2⟩ := faultN_ne HT2.1 HT2.2
   have HF := hid (fun a b => StQ.fin hN4 (by omega) (hP3 ▸ hs6.less p35) (hP3 ▸ hB36) (r := w.heap.size) (by omega) hg3 a b)
   obtain ⟨K9, N9, r0, r1, z0, z1, hrl⟩ := hr6.parts
   have hrlA : w.heap.size < w6.heap.size + 1 := by omega
   clear HT2 hn hs6 HTN HPT Hf HFf d6 b6 y5
   go_wp2_with fail
   exact retX Tryz.results93 rfl rfl rfl (still hr6) ⟨HBf.out.trans ((HF.out _ _).2.1.trans (But.alloc _ _ _)), _, _, _, _, rfl, s6, l6, ho, (HF.out _ _).2.2.new (But.alloc _ _ _)⟩
  | ok v l6 s6 =>
   rw [hn] at hq HT2 HR4
   obtain ⟨rfl, hs6⟩ := hq
   obtain ⟨x1, x2, x3, x4, x5⟩ := HT2
   simp only [bindV] at HR4
   have hsf6 : s6.left ≤ f := by omega
   have HD := hid (fun ob => edo_any IH (hs6.new (But.alloc (fun _ => False) w6 ob)) (hF6.but (But.alloc _ w6 ob)) hT htab hR h40 x2 hsf6 hd x hwx x1 h111 h105 (hR.lk b hbm x (List.mem_of_getElem? HX2.out)) hts u v (fun t ht => (y5 t ht).ext x3) x5 HTN.out pp xi.pn xi.pc xi.pa)
   unfold itN at HD
   rw [hop, hcc, hnn, HR4] at HD
   have i0 : w6.cell? ⟨w2.heap.size, 0, none⟩ = some (.int .i64 pp) := by rw [cell_of_row w6 _ 0 _ _ (0, 0) d6]; rfl
   have i1 : w6.cell? ⟨w2.heap.size, 1, none⟩ = some (.int .u8 op) := by rw [cell_of_row w6 _ 1 _ _ (0, 0) d6]; rfl
   have i2 : w6.cell? ⟨w2.heap.size, 2, none⟩ = some (.int .u8 cc.toNat) := by rw [cell_of_row w6 _ 2 _ _ (0, 0) d6]; rfl
   have i3 : w6.cell? ⟨w2.heap.size, 3, none⟩ = some (.int .i64 nn) := by rw [cell_of_row w6 _ 3 _ _ (0, 0) d6]; rfl
   have i4 : w6.cell? ⟨w2.heap.size, 4, none⟩ = some (.slice xi.pa xi.pn xi.pc) := by rw [cell_of_row w6 _ 4 _ _ (0, 0) d6]; rfl
   have u0 : w6.cell? ⟨w4.heap.size, 0, none⟩ = some (.int .i32 (xN u)) := by rw [cell_of_row w6 _ 0 _ _ (0, 0) b6]; rfl
   have u1 : w6.cell? ⟨w4.heap.size, 1, none⟩ = some (.int .i64 (xO u)) := by rw [cell_of_row w6 _ 1 _ _ (0, 0) b6]; rfl
   have hlA : w2.heap.size < w6.heap.size + 1 := by omega
   have hlB : w4.heap.size < w6.heap.size + 1 := by omega
   clear HR4 hn hs6 HTN HPT Hf HFf d6 b6 y5 x5
   simp only [xAgg] at HD ⊢
   go_wp2_with fail
   refine (HD.out _).mono ?_
   intro en w8 hre
   obtain ⟨K, N, e, rfl, hfin⟩ := ReV.pass hN4 (by omega) (hP3 ▸ (hre.less p35).since (hB36.trans (But.alloc _ _ _)))
   obtain ⟨hr1, hfi⟩ := hfin w.heap.size (by omega) hg3
   obtain ⟨K9, N9, r0, r1, f0, f1, hrl⟩ := hr1.parts
   have HF := hid (hfi.since HBf.out)
   clear hfi hfin hre HD i0 i1 i2 i3 i4 u0 u1
   go_wp2_with fail
   exact retX Tryz.results93 rfl rfl rfl (hr1.put _ _) HF.out
theorem work_all (w0 : World) (be bw tx : Nat) (inp : ByteArray) (h40 : inp.size ≤ 40) (im : Img) (hT : TextN w0 tx im) (htab : TabW w0) (hR : Ready im) : ∀ f, NodeQ im inp w0 be bw tx f := by
 intro f
 induction f with
 | zero =>
  intro b d i l s t F B P w bl lv vo vb gs fv bf X vl vi hbm hd htn hll hs hsf h hF
  rw [nodV_zero (by omega)]
  exact work_spent h (by omega)
 | succ f ih => exact work_step w0 be bw tx inp h40 im hT htab hR ih
end Go.Proofs.YtpfkkmacakjmbaaGreatDoor
namespace Go.Proofs.YtpfkkmacakjmbaaGreatDoor
open Go Go.RowKit Sp
set_option linter.unusedSimpArgs false
set_option linter.unusedVariables false
theorem conv_bts {w : World} {base : Nat} {v : Value} {l : List UInt8} (h : BtB w base v l) : (convert 112 9 v).run Tryz.prog w = .ok (.string ⟨l.toArray⟩) w := by
 obtain ⟨ao, cap, rfl⟩ := owns_len h
 cases ao with
 | none =>
  have hm : l.length = 0 := by
   rcases Nat.eq_zero_or_pos l.length with h' | h'
   ·exact h'
   ·obtain ⟨g, hg, _⟩ := owns_two h h'
    cases hg
  have hl0 : l = [] := List.length_eq_zero_iff.1 hm
  subst hl0
  have hu1 : Tryz.prog.underlying 112 = some (.slice 5) := by kernel_rfl
  have hu2 : Tryz.prog.underlying 9 = some .string := by kernel_rfl
  have hu3 : Tryz.prog.underlying 5 = some (.int .u8) := by kernel_rfl
  have h9 := run_convert_bytes_string (P := Tryz.prog) w 112 9 5 none 0 cap hu1 hu3 hu2
  refine h9.trans ?_
  simp [Conv.bytesToString]
  rfl
 | some ad =>
  refine (?_ : (convert 112 9 (.slice (some ad) l.length cap)).run Tryz.prog w = _)
  refine run_convert_bytes_back w 112 9 5 ad cap l (by kernel_rfl) (by kernel_rfl) (by kernel_rfl) ?_
  intro j hj
  obtain ⟨g, hg, hg1, hg2, hc⟩ := owns_two h (by omega)
  have hg' := Option.some.inj hg
  rw [hg']
  have h3 := hc j _ (btCells_at hj)
  have e : (⟨g, 0, none⟩ : Addr).add j = ⟨g, j, none⟩ := by simp [Addr.add]; exact fun h => h.symm
  rw [e, h3]
  simp [List.getD, hj]
end Go.Proofs.YtpfkkmacakjmbaaGreatDoor
namespace Go.Proofs.YtpfkkmacakjmbaaGreatDoor
open Go Go.RowKit Sp
set_option linter.unusedSimpArgs false
set_option linter.unusedVariables false
attribute [local go_sem ↓] Go.wp_at_zero Go.wp_at_succ
theorem TreeAt.node {w0 w : World} {b : Bod} {ak : Option Addr} {capk : Nat} (h : w0.ownsRow 0 147 5 (.slice ak b.code.length capk) b.code.length (ndCells (endsN 0 b.code))) (hB : But (fun _ => False) w0 w) {i : Nat} {x : Ins} (hx : b.code[i]? = some x) :
  ∃ g, ak = some ⟨g, 0, none⟩ ∧ i < b.code.length ∧ g < w.heap.size ∧ g < w0.heap.size ∧ w.cell? ⟨g, i * 5, none⟩ = some (.int .u8 x.op.toNat) ∧ w.cell? ⟨g, i * 5 + 1, none⟩ = some (.int .i64 x.a) ∧ w.cell? ⟨g, i * 5 + 2, none⟩ = some (.int .i64 x.b) ∧ w.cell? ⟨g, i * 5 + 3, none⟩ = some (.int .i64 x.pos) ∧ w.cell? ⟨g, i * 5 + 4, none⟩ = some (.int .i64 (endN b.code i)) := by
 have hl := (List.getElem?_eq_some_iff.1 hx).1
 obtain ⟨g, rfl, hg1, hg2, hcell⟩ := owns_two h (by omega)
 have hy := endsN_at (o := 0) hx
 rw [Nat.zero_add] at hy
 have key : ∀ (j : Nat) (v : Value), (ndCells (endsN 0 b.code))[j]? = some v → w.cell? ⟨g, j, none⟩ = some v := fun j v hv => (hB.cell (p := ⟨g, j, none⟩) hg1 (fun h => h)).trans (hcell _ _ hv)
 exact ⟨g, rfl, hl, Nat.lt_of_lt_of_le hg1 hB.size, hg1, key _ _ (ndCells_at (k := 0) hy (by omega)), key _ _ (ndCells_at (k := 1) hy (by omega)), key _ _ (ndCells_at (k := 2) hy (by omega)), key _ _ (ndCells_at (k := 3) hy (by omega)), key _ _ (ndCells_at (k := 4) hy (by omega))⟩
/-- No node may be begun. -/
theorem node_spent (P : Nat → Prop) (w0 w : World) (bw bi d i : Nat) (inp : ByteArray) (s : Ev) (lv hv : Value) (l : List V) (fv : List Value) (hst : StX P w0 w bw bi inp d s lv l hv fv) (h0 : s.left = 0) (b : Bod) (vt : Value) (hT : TreeAt w0 b vt) :
  Calls Tryz.prog 74 #[.pointer (some ⟨bw, 0, none⟩), bodAgg b vt, .int .i64 i, lv] w fun en w' => But (FrD P w0) w w' ∧ ResD P w0 bw bi inp d lv (.bad 5 s.out) en w' := by
 obtain ⟨ak, capk, rfl, hTr⟩ := hT
 unfold bodAgg
 have hbl := hst.blt
 have c4 := hst.wk.c4
 rw [h0] at c4
 have c4' : w.cell? ⟨bw, 4, none⟩ = some (.int .i64 0) := c4
 have c7 := hst.wk.c7
 have z7 := hst.wk.fz 7
 have hgA : bw < w.heap.size + 1 := by omega
 clear c4 h0
 go_enter Tryz.func74, Tryz.ntmps74
 go_wp2_with fail
 exact end_no Tryz.results74 rfl rfl (hst.wk.set7 5) rfl (but_w hst (But.setB _ _ _ _)) ((But.alloc _ _ _).trans (But.alloc _ _ _)) (heap_alloc_at (by simp [size_setCell]) _)
theorem node_step {f : Nat} (w0 : World) (bw bi : Nat) (inp : ByteArray) (im : Img) (hI : ImgS w0 bi im) (htab : TabW w0) (hR : Ready im) (IH : NodeD im inp w0 bw bi f) : NodeD im inp w0 bw bi (f + 1) := by
 intro b d i l s t F B P w lv hv fv vt hbm hd htn hll hs hsf hst hT
 by_cases h0 : s.left = 0
 ·rw [nodV_zero h0]
  exact node_spent P w0 w bw bi d i inp s lv hv l fv hst h0 b vt hT
 obtain ⟨ak, capk, rfl, hTr⟩ := hT
 have hT : TreeAt w0 b (.slice ak b.code.length capk) := ⟨ak, capk, rfl, hTr⟩
 unfold bodAgg
 have hbl := hst.blt
 have hW := hR.wf
 cases F with
 | zero => cases htn
 | succ F =>
 simp only [typN] at htn
 cases hx : b.code[i]? with
 | none => rw [hx] at htn; cases htn
 | some x =>
 rw [hx] at htn
 simp only at htn
 have hwb := hW.bod b hbm
 have hxm : x ∈ b.code := List.mem_of_getElem? hx
 have hwx := hwb.code x hxm
 obtain ⟨ar, har⟩ : ∃ ar, arity x.op = ar := ⟨_, rfl⟩
 have har3 : ar ≤ 3 := by rw [← har]; unfold arity; split; omega; split; omega; split <;> omega
 rw [har] at htn
 cases hp : partsT b.code (typN im.classes im.sigs b.locals b.code F) ar (i + 1) with
 | none => rw [hp] at htn; cases htn
 | some ts =>
 rw [hp] at htn
 simp only at htn
 obtain ⟨RR, hRR⟩ : ∃ RR, nodV im inp (f + 1) b d i l s = RR := ⟨_, rfl⟩
 rw [hRR]
 have HRR := hid hRR
 clear hRR
 obtain ⟨sl, hsl⟩ : ∃ sl, s.left = sl + 1 := ⟨s.left - 1, by omega⟩
 have hs1 : StT im (B - 22) { s with left := sl } := ⟨hs.ht, by have := hs.cap; simp; omega, by have := hs.outn; simp; omega, by have := hs.bb; omega, by have := hs.rd; simp; omega⟩
 obtain ⟨W, hWW⟩ : ∃ W, (((w.setCell ⟨bw, 4, none⟩ (.int .i64 sl)).alloc (.cells #[.int .i64 b.cls, .int .i64 b.meth, .string ⟨b.locals.toArray⟩, .slice none 0 0, .slice ak b.code.length capk] 52)).alloc (.cells #[.int .u8 0, .int .i64 0] 135)).alloc (.cells #[.int .u8 x.op.toNat, .int .i64 x.a, .int .i64 x.b, .int .i64 x.pos, .int .i64 (endN b.code i)] 147) = W := ⟨_, rfl⟩
 have c4 := hst.wk.c4
 have z4 := hst.wk.fz 4
 rw [hsl] at c4
 have c4' : w.cell? ⟨bw, 4, none⟩ = some (.int .i64 ((sl : Int) + 1)) := by rw [c4]; simp
 have hslI : ¬ ((sl : Int) + 1 ≤ 0) := by omega
 have hgA : bw < w.heap.size + 1 := by omega
 have hcap := hs.cap
 have hsl4 : sl ≤ 4000 := by omega
 have hslf : sl ≤ f := by omega
 obtain ⟨g, rfl, hil, hgw, hg0, n0, n1, n2, n3, n4⟩ := TreeAt.node hTr hst.old hx
 have hgB : g < w.heap.size + 1 := by omega
 have hne : ¬ bw = g := by have := hst.ge; omega
 have hne2 : ¬ g = bw := by have := hst.ge; omega
 have hS1 : But (· = bw) w (w.setCell ⟨bw, 4, none⟩ (.int .i64 sl)) := But.setB _ _ _ _
 have hsX := hst.work (s' := { s with left := sl }) (d' := d) hS1 rfl (hst.wk.set4 _)
 have hBX : But (fun _ => False) (w.setCell ⟨bw, 4, none⟩ (.int .i64 sl)) W := by rw [← hWW]; exact ((But.alloc _ _ _).trans (But.alloc _ _ _)).trans (But.alloc _ _ _)
 have hgBd : W.heap[w.heap.size]? = some (.cells #[.int .i64 b.cls, .int .i64 b.meth, .string ⟨b.locals.toArray⟩, .slice none 0 0, .slice (some ⟨g, 0, none⟩) b.code.length capk] 52) := by rw [← hWW]; exact (((But.alloc (fun _ => False) _ _).trans (But.alloc _ _ _)).block _ (by simp [size_setCell]) (fun h => h)).trans (heap_alloc_at (by simp [size_setCell]) _)
 have hgR : W.heap[w.heap.size + 1]? = some (.cells #[.int .u8 0, .int .i64 0] 135) := by rw [← hWW]; exact ((But.alloc (fun _ => False) _ _).block _ (by simp [size_setCell]) (fun h => h)).trans (heap_alloc_at (by simp [size_setCell]) _)
 have hgN : W.heap[w.heap.size + 1 + 1]? = some (.cells #[.int .u8 x.op.toNat, .int .i64 x.a, .int .i64 x.b, .int .i64 x.pos, .int .i64 (endN b.code i)] 147) := by rw [← hWW]; exact heap_alloc_at (by simp [size_setCell]) _
 have hsW := hsX.grow hBX
 simp only [size_setCell] at hsW
 have hrr : ResB W (w.heap.size + 1) := ⟨0, 0, hgR⟩
 have hgW := lt_of_block hgN
 have hBw : But (FrD P w0) w W := (but_w hst hS1).trans (but_n hBX)
 have h0w := hst.old.size
 have HWW := hid hWW
 have HX := hid (And.intro hx (And.intro hp (And.intro htn (And.intro har (And.intro hsl h0)))))
 clear c4 hWW hx hp htn har hsl h0
 have hiI : (i : Int) < (b.code.length : Int) := by omega
 go_enter Tryz.func74, Tryz.ntmps74
 go_wp2_with fail
 rw [HWW.out]
 clear HWW c4' z4 n0 n1 n2 n3 n4
 obtain ⟨hx, hp, htn, har, hsl, h0⟩ := HX.out
 refine (parts_any x.op W).mono ?_
 rintro en wx ⟨rfl, hwx⟩
 rw [hwx, har]
 clear hwx wx
 have hPr : P (w.heap.size + 1) ∨ (w.heap.size ≤ w.heap.size + 1 ∧ w.heap.size + 1 < W.heap.size) := Or.inr ⟨by omega, by omega⟩
 have hPb : P w.heap.size ∨ (w.heap.size ≤ w.heap.size ∧ w.heap.size < W.heap.size) := Or.inr ⟨by omega, by omega⟩
 have hPn : P (w.heap.size + 1 + 1) ∨ (w.heap.size ≤ w.heap.size + 1 + 1 ∧ w.heap.size + 1 + 1 < W.heap.size) := Or.inr ⟨by omega, by omega⟩
 have hPP : ∀ k, P k → P k ∨ (w.heap.size ≤ k ∧ k < W.heap.size) := fun k h => Or.inl h
 have hRV := HRR.out
 have hz : (sl + 1 = 0) = False := by simp
 simp only [nodV, hx, har, hsl, hz, if_false, Nat.add_sub_cancel] at hRV
 have k0 : W.cell? ⟨w.heap.size + 1 + 1, 0, none⟩ = some (.int .u8 x.op.toNat) := by rw [cell_of_row W _ 0 _ _ (0, 0) hgN]; rfl
 have k1 : W.cell? ⟨w.heap.size + 1 + 1, 1, none⟩ = some (.int .i64 x.a) := by rw [cell_of_row W _ 1 _ _ (0, 0) hgN]; rfl
 have k2 : W.cell? ⟨w.heap.size + 1 + 1, 2, none⟩ = some (.int .i64 x.b) := by rw [cell_of_row W _ 2 _ _ (0, 0) hgN]; rfl
 have k3 : W.cell? ⟨w.heap.size + 1 + 1, 3, none⟩ = some (.int .i64 x.pos) := by rw [cell_of_row W _ 3 _ _ (0, 0) hgN]; rfl
 have k4 : W.cell? ⟨w.heap.size + 1 + 1, 4, none⟩ = some (.int .i64 (endN b.code i)) := by rw [cell_of_row W _ 4 _ _ (0, 0) hgN]; rfl
 by_cases har0 : ar = 0
 ·subst har0
  rw [if_pos rfl] at hRV
  have HA := hid (leaf_any _ w0 W bw bi d inp { s with left := sl } lv hv l fv im hI hW hsW hs1 x (endN b.code i) b.locals.length hwx hll.len har)
  rw [hRV] at HA
  clear HX hx hp htn har hsl h0 hRV HRR
  go_wp2_with fail
  refine HA.out.mono ?_
  rintro en w1 ⟨hB1, hq⟩
  obtain ⟨K, N, rfl⟩ := hq.val
  have hr1 := hrr.but hB1 (fun h => h.2 hPr)
  have HQ := hid hq
  clear HA hsW hrr hgN hgBd hgR hq k0 k1 k2 k3 k4
  obtain ⟨K9, N9, r0, r1, f0, f1, hrl⟩ := hr1.parts
  go_wp2_with fail
  exact pass_on Tryz.results74 rfl rfl hBw hB1 HQ.out hr1 hPr (by omega) h0w hPP (by omega)
 rw [if_neg har0] at hRV
 have har0I : ((ar : Int) == 0) = false := by rw [beq_eq_false_iff_ne]; omega
 have zb0 : W.cell? ⟨w.heap.size, 0, none⟩ = some (.int .i64 b.cls) := by rw [cell_of_row W _ 0 _ _ (0, 0) hgBd]; rfl
 have zb1 : W.cell? ⟨w.heap.size, 1, none⟩ = some (.int .i64 b.meth) := by rw [cell_of_row W _ 1 _ _ (0, 0) hgBd]; rfl
 have zb2 : W.cell? ⟨w.heap.size, 2, none⟩ = some (.string ⟨b.locals.toArray⟩) := by rw [cell_of_row W _ 2 _ _ (0, 0) hgBd]; rfl
 have zb3 : W.cell? ⟨w.heap.size, 3, none⟩ = some (.slice none 0 0) := by rw [cell_of_row W _ 3 _ _ (0, 0) hgBd]; rfl
 have zb4 : W.cell? ⟨w.heap.size, 4, none⟩ = some (.slice (some ⟨g, 0, none⟩) b.code.length capk) := by rw [cell_of_row W _ 4 _ _ (0, 0) hgBd]; rfl
 have hlen := hwb.len
 by_cases h111 : x.op.toNat = 111
 ·rw [if_pos h111] at hRV
  have har2 : ar = 2 := by rw [← har]; simp [arity, h111]
  subst har2
  obtain ⟨t0, t1, g0, g1, rfl⟩ := partsT2 hp
  have ht0 : t0.toNat = 105 := by
   simp [nodeT, askT, giveT, Sp.arith, h111] at htn
   exact htn.1
  obtain ⟨y, hy⟩ : ∃ y, b.code[i + 1]? = some y := by
   cases hy : b.code[i + 1]? with
   | none => cases F with
    | zero => cases g0
    | succ F => simp only [typN, hy] at g0; cases g0
   | some y => exact ⟨y, rfl⟩
  obtain ⟨g', hgg, hil1, hgw1, _, _, _, _, _, e4⟩ := TreeAt.node hTr hsW.old hy
  have hgg2 : g = g' := by injection hgg with h; injection h
  subst hgg2
  have hT2 : TreeAt w0 b (.slice (some ⟨g, 0, none⟩) b.code.length capk) := hT
  have hlp := loop_any _ w0 W.drew bw bi d inp { s with left := sl } lv hv l fv im hR IH (hsW.new (But.drew _ _)) hs1 (by simp; omega) hd b hbm _ hT2 (i + 1) (endN b.code (i + 1)) F t0 t1 g0 ht0 g1 hll
  unfold bodAgg at hlp
  rw [hRV, show ((i + 1 : Nat) : Int) = (i : Int) + 1 from by simp] at hlp
  have HA := hid hlp
  have t111 : ((x.op.toNat : Int) == 111) = true := tst h111
  have hcI : (i : Int) + 1 < (b.code.length : Int) := by omega
  have hcJ : 0 ≤ (i : Int) + 1 := by omega
  clear HX hx hp htn har hsl h0 hRV HRR h111 hlp hgg hy g0 g1
  go_wp2_with fail
  have hS0 : But (FrD (fun k => P k ∨ (w.heap.size ≤ k ∧ k < W.heap.size)) w0) W W.drew := But.drew _ _
  have m1 : w.heap.size < W.heap.size := by omega
  have hnb : ¬ FrD (fun k => P k ∨ (w.heap.size ≤ k ∧ k < W.heap.size)) w0 w.heap.size := fun h => h.2 hPb
  have hng : ¬ FrD (fun k => P k ∨ (w.heap.size ≤ k ∧ k < W.heap.size)) w0 g := fun h => by have := h.1; omega
  refine wpTx_begin (But (FrD (fun k => P k ∨ (w.heap.size ≤ k ∧ k < W.heap.size)) w0) W) 11 (by kernel_rfl) ?_
  have fSA := hid (fun wS (h : (But (FrD (fun k => P k ∨ (w.heap.size ≤ k ∧ k < W.heap.size)) w0) W) wS) => (And.intro ((h.cell (p := ⟨w.heap.size, 0, none⟩) m1 hnb).trans zb0) (And.intro ((h.cell (p := ⟨w.heap.size, 1, none⟩) m1 hnb).trans zb1) (And.intro ((h.cell (p := ⟨w.heap.size, 2, none⟩) m1 hnb).trans zb2) (And.intro ((h.cell (p := ⟨w.heap.size, 3, none⟩) m1 hnb).trans zb3) (And.intro ((h.cell (p := ⟨w.heap.size, 4, none⟩) m1 hnb).trans zb4) ((h.cell (p := ⟨g, (i + 1) * 5 + 4, none⟩) hgw1 hng).trans e4)))))))
  iterate 10 (refine wpTx_take (v := ?_) rfl (by kernel_rfl) (fun _ _ _ h => h) rfl hS0 ?_ ?_; rotate_left; (focus (intro wS h; obtain ⟨q0, q1, q2, q3, q4, q5⟩ := fSA.out wS h; clear h; go_simp; try rfl)); dsimp only [Act.put]; try simp only [puts])
  try clear fSA
  refine wpTx_step rfl (by kernel_rfl) ?_
  intro KS hKS
  go_simp
  refine HA.out.mono ?_
  rintro en w1 ⟨hB1, hq⟩
  obtain ⟨K, N, rfl⟩ := hq.val
  refine hKS.out _ _ (fun _ => hS0.trans hB1) ?_
  clear hKS KS
  have hr1 := (hrr.but hS0 (fun h => h.2 hPr)).but hB1 (fun h => h.2 hPr)
  have HQ := hid hq
  clear HA hsW hrr hgN hgBd hgR hq k0 k1 k2 k3 k4 zb0 zb1 zb2 zb3 zb4 e4
  obtain ⟨K9, N9, r0, r1, f0, f1, hrl⟩ := hr1.parts
  refine wpTx_step rfl (by kernel_rfl) ?_
  intro KS hKS
  go_simp
  refine hKS.out _ _ (fun h => absurd h (by decide)) ?_
  clear hKS KS
  refine wpTx_done rfl (by kernel_rfl) ?_
  go_wp2_with fail
  exact pass_on Tryz.results74 rfl rfl hBw (hS0.trans hB1) HQ.out hr1 hPr (by omega) h0w hPP (by omega)
 rw [if_neg h111] at hRV
 have t111 : ((x.op.toNat : Int) == 111) = false := tsf (k := 111) h111
 obtain ⟨t0, g0⟩ : ∃ t0, typN im.classes im.sigs b.locals b.code F (i + 1) = some t0 := by
  rcases (by omega : ar = 1 ∨ ar = 2 ∨ ar = 3) with rfl | rfl | rfl
  ·obtain ⟨a, h1, _⟩ := partsT1 hp; exact ⟨a, h1⟩
  ·obtain ⟨a, _, h1, _⟩ := partsT2 hp; exact ⟨a, h1⟩
  ·obtain ⟨a, _, _, h1, _⟩ := partsT3 hp; exact ⟨a, h1⟩
 have hT2 : TreeAt w0 b (.slice (some ⟨g, 0, none⟩) b.code.length capk) := hT
 have hc := IH b d (i + 1) l { s with left := sl } t0 F (B - 22) _ W lv hv fv _ hbm hd g0 hll hs1 (by simp; omega) hsW hT2
 unfold bodAgg at hc
 rw [show ((i + 1 : Nat) : Int) = (i : Int) + 1 from by simp] at hc
 have HC := hid hc
 have HTY := hid (nodV_typed hR inp f (B - 22) b d (i + 1) l { s with left := sl } t0 F hbm g0 hll hs1 (by simp; omega))
 have HV := hid hRV
 clear hc hRV
 clear HX hx hsl h0
 have HP := hid (And.intro hp (And.intro htn har))
 clear hp htn har
 go_wp2_with fail
 refine HC.out.mono ?_
 rintro en w1 ⟨hB1, hq⟩
 clear HC k0 k1 k2 k3 k4 zb0 zb1 zb2 zb3 zb4
 have hr1 := hrr.but hB1 (fun h => h.2 hPr)
 have hBw1 : But (FrD P w0) w w1 := hBw.trans (hB1.mono (fun k _ h => ⟨h.1, fun hp => h.2 (hPP k hp)⟩))
 have hgB1 := (hB1.block _ (by omega) (fun h => h.2 hPb)).trans hgBd
 have hgN1 := (hB1.block _ hgW (fun h => h.2 hPn)).trans hgN
 have hsz1 := hB1.size
 clear hrr hgN hgBd hgR hsW
 obtain ⟨K9, N9, r0, r1, f0, f1, hrl⟩ := hr1.parts
 have HV2 := HV.out
 have HTY2 := HTY.out
 cases hn : nodV im inp f b d (i + 1) l { s with left := sl } with
 | bad e o =>
  rw [hn] at hq HV2 HTY2
  simp only at HV2
  subst HV2
  obtain ⟨⟨a, a', rfl⟩, hbw1, hv4, r4, l4, hk4⟩ := hq
  have c7 := hk4.c7
  have he : ((e : Int) != 12) = true := by rw [bne_iff_ne]; have := HTY2.2.1; omega
  have hne1 : ¬ bw = w.heap.size + 1 := by omega
  clear HRR HV HTY HTY2 hn HP
  go_wp2_with fail
  exact end_badA Tryz.results74 rfl rfl hk4 rfl hne1 hr1 (by omega) hBw1
 | ok u l1 s1 =>
  rw [hn] at hq HV2 HTY2
  simp only at HV2
  obtain ⟨rfl, hv1, fv1, hs2⟩ := hq
  obtain ⟨y1, y2, y3, y4, y5⟩ := HTY2
  simp only at y4 y5
  obtain ⟨y, hy⟩ : ∃ y, b.code[i + 1]? = some y := by
   cases hy : b.code[i + 1]? with
   | none => cases F with
    | zero => cases g0
    | succ F => simp only [typN, hy] at g0; cases g0
   | some y => exact ⟨y, rfl⟩
  obtain ⟨g', hgg, hil1, hgw1, _, _, _, _, _, e4⟩ := TreeAt.node hTr hs2.old hy
  have hgg2 : g = g' := by injection hgg with h; injection h
  subst hgg2
  have HV3 := hid HV2
  clear hgg hy HV HV2 HRR HTY hn
  have c7 := hs2.wk.c7
  have m5 := hs2.blt
  have k0 : w1.cell? ⟨w.heap.size + 1 + 1, 0, none⟩ = some (.int .u8 x.op.toNat) := by rw [cell_of_row w1 _ 0 _ _ (0, 0) hgN1]; rfl
  have k1 : w1.cell? ⟨w.heap.size + 1 + 1, 1, none⟩ = some (.int .i64 x.a) := by rw [cell_of_row w1 _ 1 _ _ (0, 0) hgN1]; rfl
  have k2 : w1.cell? ⟨w.heap.size + 1 + 1, 2, none⟩ = some (.int .i64 x.b) := by rw [cell_of_row w1 _ 2 _ _ (0, 0) hgN1]; rfl
  have k3 : w1.cell? ⟨w.heap.size + 1 + 1, 3, none⟩ = some (.int .i64 x.pos) := by rw [cell_of_row w1 _ 3 _ _ (0, 0) hgN1]; rfl
  have k4 : w1.cell? ⟨w.heap.size + 1 + 1, 4, none⟩ = some (.int .i64 (endN b.code i)) := by rw [cell_of_row w1 _ 4 _ _ (0, 0) hgN1]; rfl
  have zb0 : w1.cell? ⟨w.heap.size, 0, none⟩ = some (.int .i64 b.cls) := by rw [cell_of_row w1 _ 0 _ _ (0, 0) hgB1]; rfl
  have zb1 : w1.cell? ⟨w.heap.size, 1, none⟩ = some (.int .i64 b.meth) := by rw [cell_of_row w1 _ 1 _ _ (0, 0) hgB1]; rfl
  have zb2 : w1.cell? ⟨w.heap.size, 2, none⟩ = some (.string ⟨b.locals.toArray⟩) := by rw [cell_of_row w1 _ 2 _ _ (0, 0) hgB1]; rfl
  have zb3 : w1.cell? ⟨w.heap.size, 3, none⟩ = some (.slice none 0 0) := by rw [cell_of_row w1 _ 3 _ _ (0, 0) hgB1]; rfl
  have zb4 : w1.cell? ⟨w.heap.size, 4, none⟩ = some (.slice (some ⟨g, 0, none⟩) b.code.length capk) := by rw [cell_of_row w1 _ 4 _ _ (0, 0) hgB1]; rfl
  have l1' := lt_of_block hgB1
  have l2' := lt_of_block hgN1
  have hcI : (i : Int) + 1 < (b.code.length : Int) := by omega
  have hcJ : 0 ≤ (i : Int) + 1 := by omega
  simp only [vAgg]
  have hBa : But (fun _ => False) w1 (w1.alloc (.cells #[.int .u8 u.K, .int .i64 u.N] 135)) := But.alloc _ _ _
  have hs3 := hs2.grow hBa
  have hr2 := hr1.but hBa (fun h => h)
  have hBw2 : But (FrD P w0) w (w1.alloc (.cells #[.int .u8 u.K, .int .i64 u.N] 135)) := hBw1.trans (but_n hBa)
  obtain ⟨hp, htn, har⟩ := HP.out
  by_cases h105 : x.op.toNat = 105
  ·have t105 : ((x.op.toNat : Int) == 105) = true := tst h105
   have HV4 := HV3.out
   rw [if_pos h105] at HV4
   have har3' : ar = 3 := by rw [← har]; simp [arity, h105]
   subst har3'
   obtain ⟨t0', t1, t2, g0', g1, g2, rfl⟩ := partsT3 hp
   rw [g0] at g0'
   cases g0'
   simp [nodeT, askT, giveT, Sp.arith, h105] at htn
   obtain ⟨n, rfl, hn1, hn2⟩ := y1.int htn.1.1
   obtain ⟨y', hy'⟩ : ∃ y', b.code[endN b.code (i + 1)]? = some y' := by
    cases hy : b.code[endN b.code (i + 1)]? with
    | none => cases F with
     | zero => cases g1
     | succ F => simp only [typN, hy] at g1; cases g1
    | some y => exact ⟨y, rfl⟩
   obtain ⟨g', hgg, hil2, _, _, _, _, _, _, e5⟩ := TreeAt.node hTr hs2.old hy'
   have hgg2 : g = g' := by injection hgg with h; injection h
   subst hgg2
   obtain ⟨j1, hj1⟩ : ∃ j1, endN b.code (i + 1) = j1 := ⟨_, rfl⟩
   obtain ⟨j2, hj2⟩ : ∃ j2, endN b.code j1 = j2 := ⟨_, rfl⟩
   rw [hj1] at HV4 g1 g2 e4 e5 hil2
   rw [hj2] at HV4 g2 e5
   have hjI : (j1 : Int) < (b.code.length : Int) := by omega
   have HC := hid (fun j tt (hj : typN im.classes im.sigs b.locals b.code F j = some tt) => IH b d j l1 s1 tt F (B - 22) _ _ lv hv1 fv1 _ hbm hd hj y2 y3 (by omega) hs3 hT2)
   unfold bodAgg at HC
   simp only [V.N] at HV4 HC hs3 hr2 hBw2 hBa ⊢
   clear hp htn har HP HV3 hj1 hj2 hgg hy' h105
   by_cases hn0 : n = 0
   ·simp [hn0] at HV4
    have HA := hid (HC.out j2 t2 g2)
    rw [HV4] at HA
    have hnI : (n == 0) = true := by simpa using hn0
    clear HC HV4 hn0
    go_wp2_with fail
    refine HA.out.mono ?_
    rintro en w5 ⟨hB5, hq⟩
    obtain ⟨K, N, rfl⟩ := hq.val
    have hr5 := hr2.but hB5 (fun h => h.2 (Or.inl hPr))
    have HQ := hid hq
    clear HA hs3 hq e5 k0 k1 k2 k3 k4 zb0 zb1 zb2 zb3 zb4 e4 c7
    obtain ⟨K8, N8, q0, q1, o0, o1, hrl5⟩ := hr5.parts
    go_wp2_with fail
    exact pass_on Tryz.results74 rfl rfl hBw2 hB5 HQ.out hr5 (Or.inl hPr) (by omega) h0w (fun k hk => Or.inl (hPP k hk)) (by omega)
   ·simp [hn0] at HV4
    have HA := hid (HC.out j1 t1 g1)
    rw [HV4] at HA
    have hnI : (n == 0) = false := by simpa using hn0
    clear HC HV4 hn0
    go_wp2_with fail
    refine HA.out.mono ?_
    rintro en w5 ⟨hB5, hq⟩
    obtain ⟨K, N, rfl⟩ := hq.val
    have hr5 := hr2.but hB5 (fun h => h.2 (Or.inl hPr))
    have HQ := hid hq
    clear HA hs3 hq e5 k0 k1 k2 k3 k4 zb0 zb1 zb2 zb3 zb4 e4 c7
    obtain ⟨K8, N8, q0, q1, o0, o1, hrl5⟩ := hr5.parts
    go_wp2_with fail
    exact pass_on Tryz.results74 rfl rfl hBw2 hB5 HQ.out hr5 (Or.inl hPr) (by omega) h0w (fun k hk => Or.inl (hPP k hk)) (by omega)
  have t105 : ((x.op.toNat : Int) == 105) = false := tsf (k := 105) h105
  by_cases har1 : ar = 1
  ·have HV4 := HV3.out
   rw [if_neg h105, if_pos har1] at HV4
   subst har1
   obtain ⟨t0', g0', rfl⟩ := partsT1 hp
   rw [g0] at g0'
   cases g0'
   have HA := hid (one_any _ w0 _ bw bi d inp s1 lv hv1 l1 fv1 im hI htab hR hs3 y3 x (endN b.code i) b.locals hwx y2 har t0 u y1 t htn hwb.loc.2)
   rw [HV4] at HA
   clear hp htn har HP HV3 HV4 h105
   go_wp2_with fail
   refine HA.out.mono ?_
   rintro en w5 ⟨hB5, hq⟩
   obtain ⟨K, N, rfl⟩ := hq.val
   have hr5 := hr2.but hB5 (fun h => h.2 (Or.inl hPr))
   have HQ := hid hq
   clear HA hs3 hq k0 k1 k2 k3 k4 zb0 zb1 zb2 zb3 zb4 e4 c7
   obtain ⟨K8, N8, q0, q1, o0, o1, hrl5⟩ := hr5.parts
   go_wp2_with fail
   exact pass_on Tryz.results74 rfl rfl hBw2 hB5 HQ.out hr5 (Or.inl hPr) (by omega) h0w (fun k hk => Or.inl (hPP k hk)) (by omega)
  ·have HV4 := HV3.out
   rw [if_neg h105, if_neg har1] at HV4
   have har2 : ar = 2 := by
    rw [← har]
    unfold arity at har ⊢
    rw [if_neg h105] at har ⊢
    split at har
    ·rename_i h'; rw [if_pos h']
    ·split at har <;> omega
   subst har2
   obtain ⟨t0', t1, g0', g1, rfl⟩ := partsT2 hp
   rw [g0] at g0'
   cases g0'
   have hc := IH b d (endN b.code (i + 1)) l1 s1 t1 F (B - 22) _ _ lv hv1 fv1 _ hbm hd g1 y2 y3 (by omega) hs3 hT2
   unfold bodAgg at hc
   have HC := hid hc
   have HTY := hid (nodV_typed hR inp f (B - 22) b d (endN b.code (i + 1)) l1 s1 t1 F hbm g1 y2 y3 (by omega))
   have HV5 := hid HV4
   have HP2 := hid (And.intro htn har)
   clear hp htn har HP HV3 HV4 hc h105
   go_wp2_with fail
   refine HC.out.mono ?_
   rintro en w5 ⟨hB5, hq⟩
   have hr5 := hr2.but hB5 (fun h => h.2 (Or.inl hPr))
   have hBw5 : But (FrD P w0) w w5 := hBw2.trans (hB5.mono (fun k _ h => ⟨h.1, fun hp => h.2 (Or.inl (hPP k hp))⟩))
   have hl1a : w1.heap.size < (w1.alloc (.cells #[.int .u8 u.K, .int .i64 u.N] 135)).heap.size := by simp
   have hgU5 := (hB5.block _ hl1a (fun h => h.2 (Or.inr ⟨Nat.le_refl _, hl1a⟩))).trans (heap_alloc_new w1 _)
   have hgN5 := (hB5.block _ (by simp; omega) (fun h => h.2 (Or.inl hPn))).trans ((hBa.block _ l2' (fun h => h)).trans hgN1)
   have hsz5 := hB5.size
   clear HC k0 k1 k2 k3 k4 zb0 zb1 zb2 zb3 zb4 e4 c7 hs3 r0 r1 f0 f1
   obtain ⟨K8, N8, q0, q1, o0, o1, hrl5⟩ := hr5.parts
   have HV6 := HV5.out
   have HTY3 := HTY.out
   cases hn : nodV im inp f b d (endN b.code (i + 1)) l1 s1 with
   | bad e o =>
    rw [hn] at hq HV6 HTY3
    simp only at HV6
    subst HV6
    obtain ⟨⟨a, a', rfl⟩, hbw1, hv4, r4, l4, hk4⟩ := hq
    have c7 := hk4.c7
    have he : ((e : Int) != 12) = true := by rw [bne_iff_ne]; have := HTY3.2.1; omega
    have hne1 : ¬ bw = w.heap.size + 1 := by omega
    clear HV5 HTY HTY3 hn HP2
    go_wp2_with fail
    exact end_badA Tryz.results74 rfl rfl hk4 rfl hne1 hr5 (by omega) hBw5
   | ok v l2 s2' =>
    rw [hn] at hq HV6 HTY3
    simp only at HV6
    obtain ⟨rfl, hv5, fv5, hs5⟩ := hq
    obtain ⟨x1, x2, x3, x4, x5⟩ := HTY3
    obtain ⟨htn, har⟩ := HP2.out
    clear HV5 HTY hn HP2
    simp only [vAgg]
    have c7 := hs5.wk.c7
    have m6 := hs5.blt
    have hBb : But (fun _ => False) w5 (w5.alloc (.cells #[.int .u8 v.K, .int .i64 v.N] 135)) := But.alloc _ _ _
    have hs6 := hs5.grow hBb
    have hr6 := hr5.but hBb (fun h => h)
    have hBw6 : But (FrD P w0) w (w5.alloc (.cells #[.int .u8 v.K, .int .i64 v.N] 135)) := hBw5.trans (but_n hBb)
    have u0 : w5.cell? ⟨w1.heap.size, 0, none⟩ = some (.int .u8 u.K) := by rw [cell_of_row w5 _ 0 _ _ (0, 0) hgU5]; rfl
    have u1 : w5.cell? ⟨w1.heap.size, 1, none⟩ = some (.int .i64 u.N) := by rw [cell_of_row w5 _ 1 _ _ (0, 0) hgU5]; rfl
    have k0 : w5.cell? ⟨w.heap.size + 1 + 1, 0, none⟩ = some (.int .u8 x.op.toNat) := by rw [cell_of_row w5 _ 0 _ _ (0, 0) hgN5]; rfl
    have k1 : w5.cell? ⟨w.heap.size + 1 + 1, 1, none⟩ = some (.int .i64 x.a) := by rw [cell_of_row w5 _ 1 _ _ (0, 0) hgN5]; rfl
    have k2 : w5.cell? ⟨w.heap.size + 1 + 1, 2, none⟩ = some (.int .i64 x.b) := by rw [cell_of_row w5 _ 2 _ _ (0, 0) hgN5]; rfl
    have k3 : w5.cell? ⟨w.heap.size + 1 + 1, 3, none⟩ = some (.int .i64 x.pos) := by rw [cell_of_row w5 _ 3 _ _ (0, 0) hgN5]; rfl
    have k4 : w5.cell? ⟨w.heap.size + 1 + 1, 4, none⟩ = some (.int .i64 (endN b.code i)) := by rw [cell_of_row w5 _ 4 _ _ (0, 0) hgN5]; rfl
    have lu := lt_of_block hgU5
    have ln := lt_of_block hgN5
    have HA := hid (two_any _ w0 _ bw bi d inp s2' lv hv5 l2 fv5 im hI hR IH hs6 x3 (by omega) hd x (endN b.code i) b.locals hwx har h111 (hR.lk b hbm x hxm) u v t0 t1 t htn (y1.ext x4) x1)
    rw [HV6] at HA
    clear HV6 htn har
    go_wp2_with fail
    refine HA.out.mono ?_
    rintro en w7 ⟨hB7, hq⟩
    obtain ⟨K, N, rfl⟩ := hq.val
    have hr7 := hr6.but hB7 (fun h => h.2 (Or.inl (Or.inl hPr)))
    have HQ := hid hq
    clear HA hs6 hq k0 k1 k2 k3 k4 c7 u0 u1 q0 q1 o0 o1
    obtain ⟨K7, N7, p0, p1, p2, p3, hrl7⟩ := hr7.parts
    go_wp2_with fail
    exact pass_on Tryz.results74 rfl rfl hBw6 hB7 HQ.out hr7 (Or.inl (Or.inl hPr)) (by omega) h0w (fun k hk => Or.inl (Or.inl (hPP k hk))) (by omega)
theorem node_all (w0 : World) (bw bi : Nat) (inp : ByteArray) (im : Img) (hI : ImgS w0 bi im) (htab : TabW w0) (hR : Ready im) : ∀ f, NodeD im inp w0 bw bi f := by
 intro f
 induction f with
 | zero =>
  intro b d i l s t F B P w lv hv fv vt hbm hd htn hll hs hsf hst hT
  exact node_spent P w0 w bw bi d i inp s lv hv l fv hst (by omega) b vt hT
 | succ f ih => exact node_step w0 bw bi inp im hI htab hR ih
end Go.Proofs.YtpfkkmacakjmbaaGreatDoor
