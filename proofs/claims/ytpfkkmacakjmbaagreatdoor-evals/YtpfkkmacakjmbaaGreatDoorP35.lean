import Derived.Test.YtpfkkmacakjmbaaGreatDoorP34
set_option maxRecDepth 100000
set_option maxHeartbeats 6400000
namespace Go.Proofs.YtpfkkmacakjmbaaGreatDoor
open Go Go.RowKit Sp
set_option linter.unusedSimpArgs false
set_option linter.unusedVariables false
attribute [local go_sem ↓] Go.wp_at_zero Go.wp_at_succ
def bindV : R → (V → List V → Ev → R) → R
 | .bad e o, _ => .bad e o
 | .ok u l s, k => k u l s
theorem faultN_ne {e : Nat} (h1 : 5 ≤ e) (h2 : e ≤ 10) : (faultN e != 0) = true ∧ (faultN e == 0) = false := by
 have : e = 5 ∨ e = 6 ∨ e = 7 ∨ e = 8 ∨ e = 9 ∨ e = 10 := by omega
 rcases this with rfl | rfl | rfl | rfl | rfl | rfl <;> decide
theorem still {w : World} {r : Nat} {K N : Int} {ob : Obj} (h : ResX w r) : (((w.setCell ⟨r, 0, none⟩ (.int .i32 K)).setCell ⟨r, 1, none⟩ (.int .i64 N)).alloc ob).heap[r]? = some (.cells #[.int .i32 K, .int .i64 N] 168) :=
 ((But.alloc (fun _ => False) _ _).block r (lt_of_block (h.put K N)) (fun h => h)).trans (h.put K N)
section
variable {P : Nat → Prop} {w0 w w1 : World} {be bw tx bl : Nat} {inp : ByteArray} {s : Ev} {lv vo vb : Value} {l : List V} {gs : List Nat} {fv : List Value} {im : Img} {b : Bod} {bf d : Nat} {Xb : XBod} {vl vi : Value}
theorem ReV.since {r : R} {en : Ending} {w2 : World} (hB : But (FrQ P w0) w w1) (h : ReV P w0 w1 be bw tx inp bl lv r en w2) : ReV P w0 w be bw tx inp bl lv r en w2 := ⟨hB.trans h.1, h.2⟩
theorem choose_any {f B F : Nat} {t0 t1 t2 : UInt8} (hR : Ready im) (IH : NodeQ im inp w0 be bw tx f) (h : StQ P w0 w be bw tx inp s bl lv l vo vb gs fv) (hF : FrS P w0 w im b bf d Xb vl vi bl) (hbm : b ∈ im.bodies) (hs : StT im B s) (hsf : s.left ≤ f) (hd : d ≤ 12) (hll : LT im.classes s.heap b.locals l) (j0 j1 j2 : Nat) (g0 : typN im.classes im.sigs b.locals b.code F j0 = some t0) (h105 : t0.toNat = 105) (g1 : typN im.classes im.sigs b.locals b.code F j1 = some t1) (g2 : typN im.classes im.sigs b.locals b.code F j2 = some t2) (pl op n pn pc : Nat) (c : UInt8) (pa : Option Addr) (hrow : w0.ownsRow 0 3 1 (.slice pa pn pc) 3 (intC [j0, j1, j2])) :
  Calls Tryz.prog 153 #[.pointer (some ⟨be, 0, none⟩), .pointer (some ⟨bf, 0, none⟩), .agg #[.int .i64 pl, .int .u8 op, .int .u8 c.toNat, .int .i64 n, .slice pa pn pc]] w (ReV P w0 w be bw tx inp bl lv (bindV (nodV im inp f b d j0 l s) (fun u l s => nodV im inp f b d (if u.N = 0 then j2 else j1) l s))) := by
 have HDW := hid (paW (w := w) (pl := pl) (op := op) (n := n) (pn := pn) (pc := pc) (c := c) (pa := pa))
 have HC := hid (fun X (hX : NB w X) => part_at IH (h.grown hX) (hF.grown hX) hbm hs hsf hd hll [j0, j1, j2] (by simp) 0 j0 rfl g0 pl op n pn pc c pa hrow)
 have HTY := hid (nodV_typed hR inp f B b d j0 l s t0 F hbm g0 hll hs hsf)
 obtain ⟨RR, hRR⟩ : ∃ RR, bindV (nodV im inp f b d j0 l s) (fun u l s => nodV im inp f b d (if u.N = 0 then j2 else j1) l s) = RR := ⟨_, rfl⟩
 rw [hRR]
 have HRR := hid hRR
 have h0 := h.old.size
 have HFr := hid hF
 clear h hF hRR hll
 rw [show ((0 : Nat) : Int) = 0 from rfl] at HC
 go_enter Tryz.func153, Tryz.ntmps153
 go_wp2_with fail
 revert HDW
 generalize ((w.alloc (.cells #[.int .i64 pl, .int .u8 op, .int .u8 c.toNat, .int .i64 n, .slice pa pn pc] 219)).alloc (.cells #[.int .i32 0, .int .i64 0] 168)) = W
 intro HDW
 have hD := HDW.out
 have hsz := hD.sz
 have hN := hD.nb
 refine (HC.out W hN).mono ?_
 rintro en w1 ⟨hB1, vo1, vb1, gs1, fv1, hq⟩
 clear HC
 have hFr1 := (HFr.out.grown hN).but hB1
 have pI : PQ P w W w.heap.size := Or.inr ⟨Nat.le_refl _, by omega⟩
 have pR : PQ P w W (w.heap.size + 1) := Or.inr ⟨by omega, by omega⟩
 have d0 := (hB1.block _ (by omega) (fun hf => hf.2 pI)).trans hD.b0
 have hl0 := lt_of_block d0
 have hrX : ResX W (w.heap.size + 1) := ⟨0, 0, hD.b1⟩
 have HT2 := HTY.out
 have HR2 := HRR.out
 cases hn : nodV im inp f b d j0 l s with
 | bad e o =>
  rw [hn] at hq HT2 HR2
  obtain ⟨rfl, s1, l1, ho, hs1⟩ := hq
  subst HR2
  obtain ⟨e1, e2⟩ := faultN_ne HT2.1 HT2.2.1
  have HF := hid (fun a b => StQ.fin hN h0 hs1 hB1 (r := w.heap.size + 1) (by omega) hrX a b)
  have hr0 := hrX.but hB1 (fun hf => hf.2 pR)
  obtain ⟨K9, N9, r0, r1, z0, z1, hrl⟩ := hr0.parts
  have hrlA : w.heap.size + 1 < w1.heap.size + 1 := by omega
  clear HTY HRR HT2 hn HDW hD d0 hs1
  go_wp2_with fail
  exact retX Tryz.results153 rfl rfl rfl (still hr0) ⟨(HF.out _ _).2.1.trans (But.alloc _ _ _), _, _, _, _, rfl, s1, l1, ho, (HF.out _ _).2.2.new (But.alloc _ _ _)⟩
 | ok u l1 s1 =>
  rw [hn] at hq HT2 HR2
  obtain ⟨rfl, hs1⟩ := hq
  obtain ⟨y1, y2, y3, y4, y5⟩ := HT2
  obtain ⟨m, rfl, m1, m2⟩ := y1.int h105
  simp only [bindV, V.N] at HR2
  have hsf1 : s1.left ≤ f := by omega
  have hBA : ∀ ob, But (FrQ (PQ P w W) w0) w1 (w1.alloc ob) := fun ob => But.alloc _ _ _
  have HP1 := hid (fun ob => part_at IH (hs1.new (But.alloc (fun _ => False) w1 ob)) (hFr1.but (hBA ob)) hbm y3 hsf1 hd y2 [j0, j1, j2] (by simp) 1 j1 rfl g1 pl op n pn pc c pa hrow)
  have HP2 := hid (fun ob => part_at IH (hs1.new (But.alloc (fun _ => False) w1 ob)) (hFr1.but (hBA ob)) hbm y3 hsf1 hd y2 [j0, j1, j2] (by simp) 2 j2 rfl g2 pl op n pn pc c pa hrow)
  rw [show ((1 : Nat) : Int) = 1 from rfl] at HP1
  rw [show ((2 : Nat) : Int) = 2 from rfl] at HP2
  have i0 : w1.cell? ⟨w.heap.size, 0, none⟩ = some (.int .i64 pl) := by rw [cell_of_row w1 _ 0 _ _ (0, 0) d0]; rfl
  have i1 : w1.cell? ⟨w.heap.size, 1, none⟩ = some (.int .u8 op) := by rw [cell_of_row w1 _ 1 _ _ (0, 0) d0]; rfl
  have i2 : w1.cell? ⟨w.heap.size, 2, none⟩ = some (.int .u8 c.toNat) := by rw [cell_of_row w1 _ 2 _ _ (0, 0) d0]; rfl
  have i3 : w1.cell? ⟨w.heap.size, 3, none⟩ = some (.int .i64 n) := by rw [cell_of_row w1 _ 3 _ _ (0, 0) d0]; rfl
  have i4 : w1.cell? ⟨w.heap.size, 4, none⟩ = some (.slice pa pn pc) := by rw [cell_of_row w1 _ 4 _ _ (0, 0) d0]; rfl
  clear HTY HRR hn HDW d0 hs1 y1
  simp only [xAgg, xN, xO]
  by_cases hm : m = 0
  ·simp only [hm, if_true] at HR2
   have hmI : (m == 0) = true := by simpa using hm
   rw [HR2] at HP2
   clear HR2 HP1 hm
   go_wp2_with fail
   refine (HP2.out _).mono ?_
   intro en w2 hre
   obtain ⟨K, N, e, rfl, hfin⟩ := ReV.pass hN h0 (hre.since (hB1.trans (hBA _)))
   obtain ⟨hr1, hfi⟩ := hfin (w.heap.size + 1) (by omega) hrX
   obtain ⟨K9, N9, r0, r1, z0, z1, hrl⟩ := hr1.parts
   have HF := hid hfi
   clear hfi hfin hre HP2 i0 i1 i2 i3 i4
   go_wp2_with fail
   exact retX Tryz.results153 rfl rfl rfl (hr1.put _ _) HF.out
  ·simp only [hm, if_false] at HR2
   have hmI : (m == 0) = false := by simpa using hm
   rw [HR2] at HP1
   clear HR2 HP2 hm
   go_wp2_with fail
   refine (HP1.out _).mono ?_
   intro en w2 hre
   obtain ⟨K, N, e, rfl, hfin⟩ := ReV.pass hN h0 (hre.since (hB1.trans (hBA _)))
   obtain ⟨hr1, hfi⟩ := hfin (w.heap.size + 1) (by omega) hrX
   obtain ⟨K9, N9, r0, r1, z0, z1, hrl⟩ := hr1.parts
   have HF := hid hfi
   clear hfi hfin hre HP1 i0 i1 i2 i3 i4
   go_wp2_with fail
   exact retX Tryz.results153 rfl rfl rfl (hr1.put _ _) HF.out
end
def restV (cc dd : List V → Ev → R) (g : Nat) (n : Int) (l : List V) (s : Ev) : R := if n = 0 then .ok (.i 0) l s else bindV (dd l s) (fun _ l s => loopV cc dd g l s)
theorem loopV_ok {cc dd : List V → Ev → R} {g : Nat} {l l1 : List V} {s s1 : Ev} {n : Int} (h : cc l s = .ok (.i n) l1 s1) : loopV cc dd (g + 1) l s = restV cc dd g n l1 s1 := by
 simp only [loopV, h, restV, V.N]
 by_cases h0 : n = 0
 ·simp [h0]
 ·simp only [h0, if_false]
  cases dd l1 s1 <;> rfl
def RepI (P2 : Nat → Prop) (w0 : World) (be bw tx : Nat) (inp : ByteArray) (bl : Nat) (lv : Value) (im : Img) (B : Nat) (lo : List UInt8) (cc dd : List V → Ev → R) (RR : R) (r8 mm : Nat) (e9 : Int) (wr : World) : Prop :=
 (e9 = 0 ∧ ∃ (g : Nat) (n : Int) (l : List V) (s : Ev) (vo vb : Value) (gs : List Nat) (fv : List Value), wr.heap[r8]? = some (.cells #[.int .i32 n, .int .i64 0] 168) ∧ StQ P2 w0 wr be bw tx inp s bl lv l vo vb gs fv ∧ LT im.classes s.heap lo l ∧ StT im B s ∧ s.left ≤ g ∧ g + 1 ≤ mm ∧ RR = restV cc dd g n l s) ∨
 (∃ (e : Nat) (o : List UInt8), e9 = faultN e ∧ 5 ≤ e ∧ e ≤ 10 ∧ RR = .bad e o ∧ ResX wr r8 ∧ ∃ (s : Ev) (l : List V) (vo vb : Value) (gs : List Nat) (fv : List Value), s.out = o ∧ StQ P2 w0 wr be bw tx inp s bl lv l vo vb gs fv)
section
variable {P P2 : Nat → Prop} {w0 w w1 : World} {be bw tx bl : Nat} {inp : ByteArray} {s : Ev} {lv vo vb : Value} {l : List V} {gs : List Nat} {fv : List Value} {im : Img} {b : Bod} {bf d : Nat} {Xb : XBod} {vl vi : Value}
theorem FrS.mono (h : FrS P w0 w im b bf d Xb vl vi bl) (hp : P2 bf) : FrS P2 w0 w im b bf d Xb vl vi bl := ⟨h.fr, hp, h.bd⟩
theorem StQ.lay (h : StQ P w0 w be bw tx inp s bl lv l vo vb gs fv) {r : Nat} (hp : P r) (h0 : w0.heap.size ≤ r) (hx : ResX w r) (K N : Int) : StQ P w0 ((w.setCell ⟨r, 0, none⟩ (.int .i32 K)).setCell ⟨r, 1, none⟩ (.int .i64 N)) be bw tx inp s bl lv l vo vb gs fv :=
 h.tmp (F := (· = r)) (but_put _ _ _ _) (fun k e => by have e : k = r := e; subst e; exact ⟨hp, h0⟩) (fun k e c fz he => by have e : k = r := e; subst e; rw [hx.put] at he; cases he)
theorem StQ.grown1 {c : Array Value} {t : Nat} (h : StQ P w0 w be bw tx inp s bl lv l vo vb gs fv) (ht : t ≠ 5) : StQ (PQ P w (w.alloc (.cells c t))) w0 (w.alloc (.cells c t)) be bw tx inp s bl lv l vo vb gs fv := h.grown ((NB.refl w).alloc ht)
theorem RepI.first {f B F j0 : Nat} {t0 : UInt8} {dd : List V → Ev → R} {en : Ending} (hR : Ready im) (hbm : b ∈ im.bodies) (hs : StT im B s) (hsf : s.left ≤ f) (hll : LT im.classes s.heap b.locals l) (g0 : typN im.classes im.sigs b.locals b.code F j0 = some t0) (h105 : t0.toNat = 105) (hre : ReV P w0 w be bw tx inp bl lv (nodV im inp f b d j0 l s) en w1) :
  ∃ K N e : Int, en = .returned (.tuple #[.agg #[.int .i32 K, .int .i64 N], .int .i64 e]) ∧
   ∀ RR, loopV (nodV im inp f b d j0) dd f l s = RR → RepI (PQ P w1 (w1.alloc (.cells #[.int .i32 K, .int .i64 N] 168))) w0 be bw tx inp bl lv im B b.locals (nodV im inp f b d j0) dd RR w1.heap.size (f + 1) e (w1.alloc (.cells #[.int .i32 K, .int .i64 N] 168)) := by
 obtain ⟨hB, vo, vb, gs, fv, hq⟩ := hre
 have HT := nodV_typed hR inp f B b d j0 l s t0 F hbm g0 hll hs hsf
 cases hn : nodV im inp f b d j0 l s with
 | bad e o =>
  rw [hn] at hq HT
  obtain ⟨rfl, s1, l1, ho, hs1⟩ := hq
  refine ⟨_, _, _, rfl, fun RR hRR => Or.inr ⟨e, o, rfl, HT.1, HT.2.1, ?_, ⟨_, _, heap_alloc_new _ _⟩, s1, l1, vo, vb, gs, fv, ho, hs1.grown1 (by decide)⟩⟩
  rw [← hRR]
  exact loopV_bad (fun h => nodV_zero h) hsf hn
 | ok v l1 s1 =>
  rw [hn] at hq HT
  obtain ⟨rfl, hs1⟩ := hq
  obtain ⟨y1, y2, y3, y4, y5⟩ := HT
  obtain ⟨m, rfl, m1, m2⟩ := y1.int h105
  have hpos : 0 < s.left := by
   rcases Nat.eq_zero_or_pos s.left with h | h
   ·rw [nodV_zero h] at hn; cases hn
   ·exact h
  refine ⟨m, 0, 0, rfl, fun RR hRR => Or.inl ⟨rfl, f - 1, m, l1, s1, vo, vb, gs, fv, heap_alloc_new _ _, hs1.grown1 (by decide), y2, y3, by omega, by omega, ?_⟩⟩
  obtain ⟨g, rfl⟩ : ∃ g, f = g + 1 := ⟨f - 1, by omega⟩
  rw [← hRR]
  exact loopV_ok hn
theorem RepI.next {f B F j0 g r8 mm : Nat} {t0 : UInt8} {dd : List V → Ev → R} {en : Ending} (hR : Ready im) (hbm : b ∈ im.bodies) (hs : StT im B s) (hsf : s.left ≤ g) (hgf : g ≤ f) (hll : LT im.classes s.heap b.locals l) (g0 : typN im.classes im.sigs b.locals b.code F j0 = some t0) (h105 : t0.toNat = 105) (hre : ReV P w0 w be bw tx inp bl lv (nodV im inp f b d j0 l s) en w1) (hp : P r8) (h0 : w0.heap.size ≤ r8) (hx : ResX w1 r8) (hm : g + 1 ≤ mm + 1) :
  ∃ K N e : Int, en = .returned (.tuple #[.agg #[.int .i32 K, .int .i64 N], .int .i64 e]) ∧
   ∀ RR, loopV (nodV im inp f b d j0) dd g l s = RR → RepI P w0 be bw tx inp bl lv im B b.locals (nodV im inp f b d j0) dd RR r8 mm e ((w1.setCell ⟨r8, 0, none⟩ (.int .i32 K)).setCell ⟨r8, 1, none⟩ (.int .i64 N)) := by
 obtain ⟨hB, vo, vb, gs, fv, hq⟩ := hre
 have HT := nodV_typed hR inp f B b d j0 l s t0 F hbm g0 hll hs (by omega)
 cases hn : nodV im inp f b d j0 l s with
 | bad e o =>
  rw [hn] at hq HT
  obtain ⟨rfl, s1, l1, ho, hs1⟩ := hq
  refine ⟨_, _, _, rfl, fun RR hRR => Or.inr ⟨e, o, rfl, HT.1, HT.2.1, ?_, ⟨_, _, hx.put _ _⟩, s1, l1, vo, vb, gs, fv, ho, hs1.lay hp h0 hx _ _⟩⟩
  rw [← hRR]
  exact loopV_bad (fun h => nodV_zero h) hsf hn
 | ok v l1 s1 =>
  rw [hn] at hq HT
  obtain ⟨rfl, hs1⟩ := hq
  obtain ⟨y1, y2, y3, y4, y5⟩ := HT
  obtain ⟨m, rfl, m1, m2⟩ := y1.int h105
  have hpos : 0 < s.left := by
   rcases Nat.eq_zero_or_pos s.left with h | h
   ·rw [nodV_zero h] at hn; cases hn
   ·exact h
  refine ⟨m, 0, 0, rfl, fun RR hRR => Or.inl ⟨rfl, g - 1, m, l1, s1, vo, vb, gs, fv, hx.put _ _, hs1.lay hp h0 hx _ _, y2, y3, by omega, by omega, ?_⟩⟩
  obtain ⟨g', rfl⟩ : ∃ g', g = g' + 1 := ⟨g - 1, by omega⟩
  rw [← hRR]
  exact loopV_ok hn
theorem repeat_any {f B F : Nat} {t0 t1 : UInt8} (hR : Ready im) (IH : NodeQ im inp w0 be bw tx f) (h : StQ P w0 w be bw tx inp s bl lv l vo vb gs fv) (hF : FrS P w0 w im b bf d Xb vl vi bl) (hbm : b ∈ im.bodies) (hs : StT im B s) (hsf : s.left ≤ f) (hd : d ≤ 12) (hll : LT im.classes s.heap b.locals l) (j0 j1 : Nat) (g0 : typN im.classes im.sigs b.locals b.code F j0 = some t0) (h105 : t0.toNat = 105) (g1 : typN im.classes im.sigs b.locals b.code F j1 = some t1) (pl op n pn pc : Nat) (c : UInt8) (pa : Option Addr) (hrow : w0.ownsRow 0 3 1 (.slice pa pn pc) 2 (intC [j0, j1])) :
  Calls Tryz.prog 154 #[.pointer (some ⟨be, 0, none⟩), .pointer (some ⟨bf, 0, none⟩), .agg #[.int .i64 pl, .int .u8 op, .int .u8 c.toNat, .int .i64 n, .slice pa pn pc]] w (ReV P w0 w be bw tx inp bl lv (loopV (nodV im inp f b d j0) (nodV im inp f b d j1) f l s)) := by
 have HDW := hid (paW (w := w) (pl := pl) (op := op) (n := n) (pn := pn) (pc := pc) (c := c) (pa := pa))
 have HC := hid (fun X (hX : NB w X) => part_at IH (h.grown hX) (hF.grown hX) hbm hs hsf hd hll [j0, j1] (by simp) 0 j0 rfl g0 pl op n pn pc c pa hrow)
 obtain ⟨RR, hRR⟩ : ∃ RR, loopV (nodV im inp f b d j0) (nodV im inp f b d j1) f l s = RR := ⟨_, rfl⟩
 rw [hRR]
 have h0 := h.old.size
 have HFr := hid hF
 rw [show ((0 : Nat) : Int) = 0 from rfl] at HC
 go_enter Tryz.func154, Tryz.ntmps154
 go_wp2_with fail
 revert HDW
 generalize ((w.alloc (.cells #[.int .i64 pl, .int .u8 op, .int .u8 c.toNat, .int .i64 n, .slice pa pn pc] 219)).alloc (.cells #[.int .i32 0, .int .i64 0] 168)) = W
 intro HDW
 have hD := HDW.out
 have hsz := hD.sz
 have hN := hD.nb
 refine (HC.out W hN).mono ?_
 intro en w1 hre
 have hB1 := hre.1
 obtain ⟨K, N, e, rfl, hfst⟩ := RepI.first hR hbm hs hsf hll g0 h105 hre
 have HI := hid (hfst RR hRR)
 have hFr0 := HFr.out.grown hN
 have hFr1 := hFr0.but hB1
 have pI : PQ P w W w.heap.size := Or.inr ⟨Nat.le_refl _, by omega⟩
 have pR : PQ P w W (w.heap.size + 1) := Or.inr ⟨by omega, by omega⟩
 have d0 := (hB1.block _ (by omega) (fun hf => hf.2 pI)).trans hD.b0
 have hrX : ResX W (w.heap.size + 1) := ⟨0, 0, hD.b1⟩
 have hl0 := lt_of_block d0
 have hl1 : w.heap.size + 1 < w1.heap.size := Nat.lt_of_lt_of_le (by omega) hB1.size
 clear HC HFr hfst hre hRR h hF HDW
 go_wp2_with fail
 have hBA : But (fun _ => False) w1 (w1.alloc (.cells #[.int .i32 K, .int .i64 N] 168)) := But.alloc _ _ _
 have hsA : (w1.alloc (.cells #[.int .i32 K, .int .i64 N] 168)).heap.size = w1.heap.size + 1 := by simp
 revert HI hBA hsA
 generalize (w1.alloc (.cells #[.int .i32 K, .int .i64 N] 168)) = W2
 intro HI hBA hsA
 obtain ⟨P2, hP2⟩ : ∃ P2 : Nat → Prop, PQ (PQ P w W) w1 W2 = P2 := ⟨_, rfl⟩
 have p1 : ∀ k, PQ P w W k → P2 k := fun k hk => by rw [← hP2]; exact Or.inl hk
 have p8 : P2 w1.heap.size := by rw [← hP2]; exact Or.inr ⟨Nat.le_refl _, by omega⟩
 rw [hP2] at HI
 have hr80 : w0.heap.size ≤ w1.heap.size := by omega
 have hP1 : ∀ {X Y : World}, But (FrQ P2 w0) X Y → But (FrQ (PQ P w W) w0) X Y := fun h => h.mono (fun k _ hf => ⟨hf.1, fun hp => hf.2 (p1 k hp)⟩)
 have hPw : ∀ {Y : World}, But (FrQ (PQ P w W) w0) W Y → But (FrQ P w0) w Y := fun h => (hN.but.mono (fun _ _ h => h.elim)).trans (h.mono (fun k _ hf => ⟨hf.1, fun hp => hf.2 (Or.inl hp)⟩))
 have hBW2 : But (FrQ (PQ P w W) w0) W W2 := hB1.trans (hBA.mono (fun _ _ h => h.elim))
 have hput : ∀ {Y : World} (a b : Int), But (FrQ (PQ P w W) w0) W Y → But (FrQ (PQ P w W) w0) W ((Y.setCell ⟨w1.heap.size, 0, none⟩ (.int .i32 a)).setCell ⟨w1.heap.size, 1, none⟩ (.int .i64 b)) := fun a b h => h.next (but_put _ _ _ _) (fun k hk e => by have e : k = w1.heap.size := e; omega)
 have hFr2 := hFr1.but (hBA.mono (fun _ _ h => h.elim))
 have HFr0 := hid (fun (X : World) (hX : But (FrQ (PQ P w W) w0) W X) => ((hFr0.but hX).mono (p1 _ hFr0.pf) : FrS P2 w0 X im b bf d Xb vl vi bl))
 have HP1 := hid (fun (X : World) (l : List V) (s : Ev) (vo vb : Value) (gs : List Nat) (fv : List Value) (hq : StQ P2 w0 X be bw tx inp s bl lv l vo vb gs fv) (hFX : FrS P2 w0 X im b bf d Xb vl vi bl) (ht : StT im B s) (hl : s.left ≤ f) (hll : LT im.classes s.heap b.locals l) => part_at IH hq hFX hbm ht hl hd hll [j0, j1] (by simp) 1 j1 rfl g1 pl op n pn pc c pa hrow)
 have HP0 := hid (fun (X : World) (l : List V) (s : Ev) (vo vb : Value) (gs : List Nat) (fv : List Value) (hq : StQ P2 w0 X be bw tx inp s bl lv l vo vb gs fv) (hFX : FrS P2 w0 X im b bf d Xb vl vi bl) (ht : StT im B s) (hl : s.left ≤ f) (hll : LT im.classes s.heap b.locals l) => part_at IH hq hFX hbm ht hl hd hll [j0, j1] (by simp) 0 j0 rfl g0 pl op n pn pc c pa hrow)
 rw [show ((1 : Nat) : Int) = 1 from rfl] at HP1
 rw [show ((0 : Nat) : Int) = 0 from rfl] at HP0
 have HD := hid hD
 clear hFr1 hFr2 hB1 hBA hD d0 hs hsf hll hrow IH hP2 hFr0
 go_loopg [9] (f + 1) (fun mm v9 wr => ∃ e9 : Int, v9 = .int .i64 e9 ∧ But (FrQ (PQ P w W) w0) W wr ∧ mm ≤ f + 1 ∧ Hid (RepI P2 w0 be bw tx inp bl lv im B b.locals (nodV im inp f b d j0) (nodV im inp f b d j1) RR w1.heap.size mm e9 wr))
 case atStart => exact ⟨e, rfl, hBW2, Nat.le_refl _, HI⟩
 case round =>
  obtain ⟨e9, rfl, hBr, hgk, HL⟩ := hrel
  clear HI hBW2 hsA
  have d0 := (hBr.block _ (by omega) (fun hf => hf.2 pI)).trans HD.out.b0
  have hr0 := hrX.but hBr (fun hf => hf.2 pR)
  have hl0 := lt_of_block d0
  obtain ⟨Ka, Na, r0, r1, z0, z1, hrl⟩ := hr0.parts
  rcases HL.out with ⟨rfl, g, m, l1, s1, vo1, vb1, gs1, fv1, h8, hs1, y2, y3, hlg, hgm, hRR⟩ | ⟨e, o, rfl, he1, he2, rfl, h8, s1, l1, vo1, vb1, gs1, fv1, ho, hs1⟩
  ·have a0 : wr.cell? ⟨w1.heap.size, 0, none⟩ = some (.int .i32 m) := by rw [cell_of_row wr _ 0 _ _ (0, 0) h8]; rfl
   have hl8 := lt_of_block h8
   by_cases hm : m = 0
   ·subst hm
    have hRR2 : RR = .ok (.i 0) l1 s1 := by rw [hRR]; simp [restV]
    subst hRR2
    have HF := hid (fun a b => StQ.fin hN h0 (hs1.less p1) hBr (r := w.heap.size + 1) (by omega) hrX a b)
    clear hRR HL hs1 h8 HP1 HP0 HFr0 HD d0
    go_wp2_with fail
    exact retX Tryz.results154 rfl rfl rfl (hr0.put _ _) ⟨(HF.out _ _).2.1, _, _, _, _, rfl, (HF.out _ _).2.2⟩
   ·have hRR2 : RR = bindV (nodV im inp f b d j1 l1 s1) (fun _ l s => loopV (nodV im inp f b d j0) (nodV im inp f b d j1) g l s) := by rw [hRR]; simp [restV, hm]
    have hmI : (m != 0) = true := by simpa using hm
    have HC := hid (HP1.out wr l1 s1 vo1 vb1 gs1 fv1 hs1 (HFr0.out wr hBr) y3 (by omega) y2)
    have HTY := hid (nodV_typed hR inp f B b d j1 l1 s1 t1 F hbm g1 y2 y3 (by omega))
    have HRR := hid hRR2
    have h8x : ResX wr w1.heap.size := ⟨_, _, h8⟩
    have i0 : wr.cell? ⟨w.heap.size, 0, none⟩ = some (.int .i64 pl) := by rw [cell_of_row wr _ 0 _ _ (0, 0) d0]; rfl
    have i1 : wr.cell? ⟨w.heap.size, 1, none⟩ = some (.int .u8 op) := by rw [cell_of_row wr _ 1 _ _ (0, 0) d0]; rfl
    have i2 : wr.cell? ⟨w.heap.size, 2, none⟩ = some (.int .u8 c.toNat) := by rw [cell_of_row wr _ 2 _ _ (0, 0) d0]; rfl
    have i3 : wr.cell? ⟨w.heap.size, 3, none⟩ = some (.int .i64 n) := by rw [cell_of_row wr _ 3 _ _ (0, 0) d0]; rfl
    have i4 : wr.cell? ⟨w.heap.size, 4, none⟩ = some (.slice pa pn pc) := by rw [cell_of_row wr _ 4 _ _ (0, 0) d0]; rfl
    clear hRR hRR2 HL hs1 HP1 h8 d0 hm y2 y3 r0 r1 z0 z1
    go_wp2_with fail
    refine HC.out.mono ?_
    rintro en w2 ⟨hB2, vo2, vb2, gs2, fv2, hq⟩
    clear HC i0 i1 i2 i3 i4 a0
    have hBr2 := hBr.trans (hP1 hB2)
    have h8b := h8x.but hB2 (fun hf => hf.2 p8)
    have d0 := (hBr2.block _ (by omega) (fun hf => hf.2 pI)).trans HD.out.b0
    obtain ⟨K8, N8, q0, q1, o0, o1, hl8b⟩ := h8b.parts
    have HT2 := HTY.out
    have HR2 := HRR.out
    cases hn : nodV im inp f b d j1 l1 s1 with
    | bad e o =>
     rw [hn] at hq HT2 HR2
     obtain ⟨rfl, s2, l2, ho, hs2⟩ := hq
     obtain ⟨e1, e2⟩ := faultN_ne HT2.1 HT2.2.1
     have HN : Hid (RepI P2 w0 be bw tx inp bl lv im B b.locals (nodV im inp f b d j0) (nodV im inp f b d j1) RR w1.heap.size g (faultN e) ((w2.setCell ⟨w1.heap.size, 0, none⟩ (.int .i32 0)).setCell ⟨w1.heap.size, 1, none⟩ (.int .i64 0))) := Or.inr ⟨e, o, rfl, HT2.1, HT2.2.1, HR2, ⟨_, _, h8b.put 0 0⟩, s2, l2, vo2, vb2, gs2, fv2, ho, hs2.lay p8 hr80 h8b 0 0⟩
     have hBn := hput 0 0 hBr2
     clear hs2 HTY HRR HR2 HT2 hn d0 hBr2
     go_wp2_with fail
     go_roundg g
     case measure => omega
     case rel => exact ⟨_, rfl, hBn, by omega, HN⟩
    | ok u l2 s2 =>
     rw [hn] at hq HT2 HR2
     obtain ⟨rfl, hs2⟩ := hq
     obtain ⟨x1, x2, x3, x4, x5⟩ := HT2
     simp only [bindV] at HR2
     have hneI : ¬ w.heap.size = w1.heap.size := by omega
     have hneI2 : ¬ w1.heap.size = w.heap.size := by omega
     have hBn := hput (xN u) (xO u) hBr2
     have hs3 := hs2.lay p8 hr80 h8b (xN u) (xO u)
     have hd3 := (hBn.block _ (by omega) (fun hf => hf.2 pI)).trans HD.out.b0
     have hx3 : ResX ((w2.setCell ⟨w1.heap.size, 0, none⟩ (.int .i32 (xN u))).setCell ⟨w1.heap.size, 1, none⟩ (.int .i64 (xO u))) w1.heap.size := ⟨_, _, h8b.put _ _⟩
     have i0 : w2.cell? ⟨w.heap.size, 0, none⟩ = some (.int .i64 pl) := by rw [cell_of_row w2 _ 0 _ _ (0, 0) d0]; rfl
     have i1 : w2.cell? ⟨w.heap.size, 1, none⟩ = some (.int .u8 op) := by rw [cell_of_row w2 _ 1 _ _ (0, 0) d0]; rfl
     have i2 : w2.cell? ⟨w.heap.size, 2, none⟩ = some (.int .u8 c.toNat) := by rw [cell_of_row w2 _ 2 _ _ (0, 0) d0]; rfl
     have i3 : w2.cell? ⟨w.heap.size, 3, none⟩ = some (.int .i64 n) := by rw [cell_of_row w2 _ 3 _ _ (0, 0) d0]; rfl
     have i4 : w2.cell? ⟨w.heap.size, 4, none⟩ = some (.slice pa pn pc) := by rw [cell_of_row w2 _ 4 _ _ (0, 0) d0]; rfl
     have hl02 := lt_of_block d0
     have HC := hid (HP0.out _ l2 s2 vo2 vb2 gs2 fv2 hs3 (HFr0.out _ hBn) x3 (by omega) x2)
     have HR3 := hid HR2
     clear hs2 HTY HRR HR2 hn d0 hBr2 hs3 HP0 HFr0 hd3 x1
     simp only [xAgg]
     go_wp2_with fail
     refine HC.out.mono ?_
     intro en w3 hre
     have h8c := hx3.but hre.1 (fun hf => hf.2 p8)
     obtain ⟨K, N, e, rfl, hnx⟩ := RepI.next (mm := g) hR hbm x3 (by omega) (by omega) x2 g0 h105 hre p8 hr80 h8c (Nat.le_refl _)
     have HN := hid (hnx RR HR3.out.symm)
     have hBm := hput K N (hBn.trans (hP1 hre.1))
     obtain ⟨K8', N8', q0', q1', o0', o1', hl8c⟩ := h8c.parts
     clear hre hnx HC HR3 i0 i1 i2 i3 i4 q0 q1 o0 o1 hx3 h8b
     go_wp2_with fail
     go_roundg g
     case measure => omega
     case rel => exact ⟨_, rfl, hBm, by omega, HN⟩
  ·obtain ⟨e1, e2⟩ := faultN_ne he1 he2
   have HF := hid (fun a b => StQ.fin hN h0 (hs1.less p1) hBr (r := w.heap.size + 1) (by omega) hrX a b)
   clear HL hs1 h8 HP1 HP0 HFr0 HD d0
   go_wp2_with fail
   exact retX Tryz.results154 rfl rfl rfl (hr0.put _ _) ⟨(HF.out _ _).2.1, _, _, _, _, rfl, s1, l1, ho, (HF.out _ _).2.2⟩
end
def partV (im : Img) (inp : ByteArray) (f : Nat) (b : Bod) (d : Nat) (ps : List Nat) (k : Nat) (l : List V) (s : Ev) : R := match ps[k]? with
 | some j => nodV im inp f b d j l s
 | none => .ok .z l s
def doV (im : Img) (inp : ByteArray) (f d : Nat) (x : Ins) (u v : V) (l : List V) (s : Ev) : R :=
 if arity x.op = 0 then leafV im inp x l s else if arity x.op = 1 then oneV im x u l s else twoV im (fun b' l' => nodV im inp f b' (d + 1) 0 l' s) d x u v l s
theorem typN_lt {cs : List Cls} {gs : List Sig} {lo : List UInt8} {t : List Ins} {F k : Nat} {c : UInt8} (h : typN cs gs lo t F k = some c) : k < t.length := by
 cases F with
 | zero => cases h
 | succ F =>
  simp only [typN] at h
  cases hx : t[k]? with
  | none => rw [hx] at h; cases h
  | some x => exact (List.getElem?_eq_some_iff.1 hx).1
theorem parts_typ {cs : List Cls} {gs : List Sig} {lo : List UInt8} {t : List Ins} {F : Nat} : ∀ {n k : Nat} {ts : List UInt8}, partsT t (typN cs gs lo t F) n k = some ts →
  ts.length = n ∧ (ptsL t n k).length = n ∧ ∀ (q j : Nat), (ptsL t n k)[q]? = some j → ∃ c, ts[q]? = some c ∧ typN cs gs lo t F j = some c := by
 intro n
 induction n with
 | zero => intro k ts h; simp [partsT] at h; subst h; exact ⟨rfl, rfl, fun q j h => by simp [ptsL] at h⟩
 | succ n ih =>
  intro k ts h
  rw [partsT] at h
  cases hc : typN cs gs lo t F k with
  | none => rw [hc] at h; cases h
  | some c =>
   rw [hc] at h
   simp only [Option.map_eq_some_iff] at h
   obtain ⟨ts', h1, rfl⟩ := h
   obtain ⟨a1, a2, a3⟩ := ih h1
   have hk := typN_lt hc
   rw [ptsL, if_pos hk]
   refine ⟨by simp [a1], by simp [a2], fun q j hq => ?_⟩
   cases q with
   | zero => simp at hq; subst hq; exact ⟨c, rfl, hc⟩
   | succ q => simp at hq; simpa using a3 q j hq
theorem ptsN_eq {t : List Ins} {i : Nat} {x : Ins} (h : t[i]? = some x) : ptsN t i = ptsL t (arity x.op) (i + 1) := by simp [ptsN, h]
section
variable {im : Img} {inp : ByteArray} {f : Nat} {b : Bod} {d i : Nat} {l : List V} {s : Ev}
theorem nodV_111 {x : Ins} {sl : Nat} (hx : b.code[i]? = some x) (hsl : s.left = sl + 1) (h : x.op.toNat = 111) : nodV im inp (f + 1) b d i l s = loopV (nodV im inp f b d (i + 1)) (nodV im inp f b d (endN b.code (i + 1))) f l { s with left := sl } := by
 have h1 : arity x.op ≠ 0 := by simp [arity, h]
 simp only [nodV, hx, hsl, Nat.add_sub_cancel]
 rw [if_neg (by omega), if_neg h1, if_pos h]
theorem nodV_105 {x : Ins} {sl : Nat} (hx : b.code[i]? = some x) (hsl : s.left = sl + 1) (h : x.op.toNat = 105) : nodV im inp (f + 1) b d i l s = bindV (nodV im inp f b d (i + 1) l { s with left := sl }) (fun u l s => nodV im inp f b d (if u.N = 0 then endN b.code (endN b.code (i + 1)) else endN b.code (i + 1)) l s) := by
 have h1 : arity x.op ≠ 0 := by simp [arity, h]
 simp only [nodV, hx, hsl, Nat.add_sub_cancel]
 rw [if_neg (by omega), if_neg h1, if_neg (by omega)]
 cases nodV im inp f b d (i + 1) l { s with left := sl } with
 | bad e o => rfl
 | ok u l s => simp only [bindV, h, if_true]
theorem nodV_do {x : Ins} {sl : Nat} (hx : b.code[i]? = some x) (hsl : s.left = sl + 1) (h1 : x.op.toNat ≠ 111) (h2 : x.op.toNat ≠ 105) (hp : (ptsL b.code (arity x.op) (i + 1)).length = arity x.op) :
  nodV im inp (f + 1) b d i l s = bindV (partV im inp f b d (ptsL b.code (arity x.op) (i + 1)) 0 l { s with left := sl }) (fun u l s => bindV (partV im inp f b d (ptsL b.code (arity x.op) (i + 1)) 1 l s) (fun v l s => doV im inp f d x u v l s)) := by
 have har : arity x.op = 0 ∨ arity x.op = 1 ∨ arity x.op = 2 := by
  unfold arity
  rw [if_neg h2]
  split
  ·exact Or.inr (Or.inr rfl)
  ·split
   ·exact Or.inr (Or.inl rfl)
   ·exact Or.inl rfl
 simp only [nodV, hx, hsl, Nat.add_sub_cancel]
 rw [if_neg (by omega)]
 rcases har with har | har | har
 ·rw [if_pos har, har]
  simp [partV, ptsL, bindV, doV, har]
 ·rw [if_neg (by omega), if_neg h1]
  have e0 : (ptsL b.code (arity x.op) (i + 1)) = [i + 1] := by
   rw [har] at hp ⊢
   rw [ptsL] at hp ⊢
   split at hp
   ·rename_i hk; rw [if_pos hk]; rfl
   ·cases hp
  rw [e0]
  simp only [partV, List.getElem?_cons_zero, List.getElem?_cons_succ, List.getElem?_nil]
  cases nodV im inp f b d (i + 1) l { s with left := sl } with
  | bad e o => rfl
  | ok u l s => simp [bindV, h2, har, doV]
 ·rw [if_neg (by omega), if_neg h1]
  have e0 : (ptsL b.code (arity x.op) (i + 1)) = [i + 1, endN b.code (i + 1)] := by
   rw [har] at hp ⊢
   rw [ptsL] at hp ⊢
   split at hp
   ·rename_i hk
    rw [if_pos hk]
    rw [ptsL] at hp ⊢
    split at hp
    ·rename_i hk2; rw [if_pos hk2]; rfl
    ·simp at hp
   ·cases hp
  rw [e0]
  simp only [partV, List.getElem?_cons_zero, List.getElem?_cons_succ]
  cases nodV im inp f b d (i + 1) l { s with left := sl } with
  | bad e o => rfl
  | ok u l s =>
   simp only [bindV, h2, har, if_false]
   rw [if_neg (by omega)]
   cases nodV im inp f b d (endN b.code (i + 1)) l s with
   | bad e o => rfl
   | ok v l s => simp [doV, har]
def PartT (im : Img) (B : Nat) (lo : List UInt8) (ts : List UInt8) (k : Nat) (s0 : Ev) : R → Prop
 | .bad e o => 5 ≤ e ∧ e ≤ 10
 | .ok u l s => LT im.classes s.heap lo l ∧ StT im B s ∧ Ext s0.heap s.heap ∧ s.left ≤ s0.left ∧ ∀ t, ts[k]? = some t → VT im.classes s.heap t u
theorem partV_typed {F B : Nat} {ps : List Nat} {ts : List UInt8} (hR : Ready im) (hbm : b ∈ im.bodies) (hlen : ps.length = ts.length) (hpt : ∀ (q j : Nat), ps[q]? = some j → ∃ c, ts[q]? = some c ∧ typN im.classes im.sigs b.locals b.code F j = some c) (k : Nat) (hll : LT im.classes s.heap b.locals l) (hs : StT im B s) (hsf : s.left ≤ f) : PartT im B b.locals ts k s (partV im inp f b d ps k l s) := by
 unfold partV
 cases hk : ps[k]? with
 | none =>
  refine ⟨hll, hs, Ext.refl _, Nat.le_refl _, fun t ht => ?_⟩
  have := (List.getElem?_eq_some_iff.1 ht).1
  rw [List.getElem?_eq_none_iff] at hk
  omega
 | some j =>
  obtain ⟨c, hc, hty⟩ := hpt k j hk
  have HT := nodV_typed hR inp f B b d j l s c F hbm hty hll hs hsf
  simp only
  cases hn : nodV im inp f b d j l s with
  | bad e o => rw [hn] at HT; exact ⟨HT.1, HT.2.1⟩
  | ok u l1 s1 =>
   rw [hn] at HT
   obtain ⟨y1, y2, y3, y4, y5⟩ := HT
   exact ⟨y2, y3, y4, by omega, fun t ht => by rw [hc] at ht; cases ht; exact y1⟩
end
section
variable {P : Nat → Prop} {w0 w : World} {be bw tx bl : Nat} {inp : ByteArray} {s : Ev} {lv vo vb : Value} {l : List V} {gs : List Nat} {fv : List Value} {im : Img} {b : Bod} {bf d : Nat} {Xb : XBod} {vl vi : Value}
theorem part_any {f B F : Nat} {ps : List Nat} {ts : List UInt8} (IH : NodeQ im inp w0 be bw tx f) (h : StQ P w0 w be bw tx inp s bl lv l vo vb gs fv) (hF : FrS P w0 w im b bf d Xb vl vi bl) (hbm : b ∈ im.bodies) (hs : StT im B s) (hsf : s.left ≤ f) (hd : d ≤ 12) (hll : LT im.classes s.heap b.locals l) (hps : ps.length ≤ 3) (hpt : ∀ (q j : Nat), ps[q]? = some j → ∃ c, ts[q]? = some c ∧ typN im.classes im.sigs b.locals b.code F j = some c) (k : Nat) (hk3 : k ≤ 3) (pl op n pn pc : Nat) (c : UInt8) (pa : Option Addr) (hrow : w0.ownsRow 0 3 1 (.slice pa pn pc) ps.length (intC ps)) :
  Calls Tryz.prog 155 #[.pointer (some ⟨be, 0, none⟩), .pointer (some ⟨bf, 0, none⟩), .agg #[.int .i64 pl, .int .u8 op, .int .u8 c.toNat, .int .i64 n, .slice pa pn pc], .int .i64 k] w (ReV P w0 w be bw tx inp bl lv (partV im inp f b d ps k l s)) := by
 unfold partV
 cases hk : ps[k]? with
 | none =>
  obtain ⟨a', cap', hsl⟩ := owns_len hrow
  injection hsl with e1 e2 e3
  rw [List.getElem?_eq_none_iff] at hk
  exact part_none h pl op n pn pc k c pa (by omega) hk3
 | some j =>
  obtain ⟨c', hc, hty⟩ := hpt k j hk
  exact part_at IH h hF hbm hs hsf hd hll ps hps k j hk hty pl op n pn pc c pa hrow
theorem edo_any {B f : Nat} {ts : List UInt8} {tt : UInt8} (IH : NodeQ im inp w0 be bw tx f) (h : StQ P w0 w be bw tx inp s bl lv l vo vb gs fv) (hF : FrS P w0 w im b bf d Xb vl vi bl) (hT : TextN w0 tx im) (htab : TabW w0) (hR : Ready im) (h40 : inp.size ≤ 40) (hs : StT im B s) (hsf : s.left ≤ f) (hd : d ≤ 12) (x : Ins) (hx : WfN im.classes im.sigs.length b.locals.length x) (hll : LT im.classes s.heap b.locals l) (h111 : x.op.toNat ≠ 111) (h105 : x.op.toNat ≠ 105) (hlk : x.op.toNat = 99 → 0 ≤ findF im.classes im.bodies x.b 5 x.a) (hlen : ts.length = arity x.op) (u v : V) (hu : ∀ t, ts[0]? = some t → VT im.classes s.heap t u) (hv : ∀ t, ts[1]? = some t → VT im.classes s.heap t v) (hnt : nodeT im.classes im.sigs b.locals x ts = some tt) (pl pn pc : Nat) (pa : Option Addr) :
  Calls Tryz.prog 156 #[.pointer (some ⟨be, 0, none⟩), .pointer (some ⟨bf, 0, none⟩), itN x pa pl pn pc, xAgg u, xAgg v] w (ReV P w0 w be bw tx inp bl lv (doV im inp f d x u v l s)) := by
 have har : arity x.op = 0 ∨ arity x.op = 1 ∨ arity x.op = 2 := by
  unfold arity
  rw [if_neg h105]
  split
  ·exact Or.inr (Or.inr rfl)
  ·split
   ·exact Or.inr (Or.inl rfl)
   ·exact Or.inl rfl
 unfold doV
 rcases har with har | har | har
 ·rw [if_pos har]
  exact edo_leaf h hF hT hR.wf hs h40 x (by rw [hll.len]; exact hx) har u v pl pn pc pa
 ·rw [if_neg (by omega), if_pos har]
  match ts, hlen, hu, hnt with
  | [ta], _, hu, hnt => exact edo_one h hF hT htab hR hs x b.locals hx hll har ta tt u v (hu ta rfl) hnt pl pn pc pa
  | [], hl, _, _ => simp at hl; omega
  | _ :: _ :: _, hl, _, _ => simp at hl; omega
 ·rw [if_neg (by omega), if_neg (by omega)]
  match ts, hlen, hu, hv, hnt with
  | [ta, tc], _, hu, hv, hnt => exact edo_two IH h hF hT hR hs hsf hd x b.locals hx har h111 hlk ta tc tt u v (hu ta rfl) (hv tc rfl) hnt pl pn pc pa
  | [], hl, _, _, _ => simp at hl; omega
  | [_], hl, _, _, _ => simp at hl; omega
  | _ :: _ :: _ :: _, hl, _, _, _ => simp at hl; omega
end
end Go.Proofs.YtpfkkmacakjmbaaGreatDoor
