import Derived.Test.YtpfkkmacakjmbaaGreatDoorP38
set_option maxRecDepth 100000
set_option maxHeartbeats 6400000
namespace Go.Proofs.YtpfkkmacakjmbaaGreatDoor
open Go Go.RowKit Sp
set_option linter.unusedSimpArgs false
set_option linter.unusedVariables false
attribute [local go_sem ↓] Go.wp_at_zero Go.wp_at_succ
def ReV (P : Nat → Prop) (w0 w : World) (be bw tx : Nat) (inp : ByteArray) (bl : Nat) (lv : Value) (r : R) (en : Ending) (w' : World) : Prop :=
 But (FrQ P w0) w w' ∧ ∃ vo vb gs fv, match r with
 | .ok u l s => en = .returned (.tuple #[xAgg u, .int .i64 0]) ∧ StQ P w0 w' be bw tx inp s bl lv l vo vb gs fv
 | .bad e o => en = .returned (.tuple #[.agg #[.int .i32 0, .int .i64 0], .int .i64 (faultN e)]) ∧ ∃ s l, s.out = o ∧ StQ P w0 w' be bw tx inp s bl lv l vo vb gs fv
structure NB (w X : World) : Prop where
 but : But (fun _ => False) w X
 nb : ∀ k, w.heap.size ≤ k → k < X.heap.size → ∀ c fz, X.heap[k]? ≠ some (.cells c 5 fz)
theorem NB.refl (w : World) : NB w w := ⟨But.refl _ _, fun k h1 h2 => by omega⟩
theorem NB.alloc {w X : World} {c : Array Value} {t : Nat} (h : NB w X) (ht : t ≠ 5) : NB w (X.alloc (.cells c t)) := by
 refine ⟨h.but.trans (But.alloc _ _ _), fun k h1 h2 c' fz e => ?_⟩
 have h2 : k < X.heap.size + 1 := by simpa using h2
 rcases Nat.lt_or_ge k X.heap.size with h3 | h3
 ·rw [(But.alloc (fun _ => False) X _).block k h3 (fun h => h)] at e
  exact h.nb k h1 h3 c' fz e
 ·have : k = X.heap.size := by omega
  subst this
  rw [heap_alloc_new] at e
  cases e
  exact ht rfl
theorem nbDo {w : World} {c1 c2 c3 c4 : Array Value} : NB w ((((w.alloc (.cells c1 219)).alloc (.cells c2 168)).alloc (.cells c3 168)).alloc (.cells c4 168)) :=
 ((((NB.refl w).alloc (by decide)).alloc (by decide)).alloc (by decide)).alloc (by decide)
section
variable {P : Nat → Prop} {w0 w : World} {be bw tx bl : Nat} {inp : ByteArray} {s : Ev} {lv vo vb : Value} {l : List V} {gs : List Nat} {fv : List Value}
abbrev PQ (P : Nat → Prop) (w X : World) (k : Nat) : Prop := P k ∨ (w.heap.size ≤ k ∧ k < X.heap.size)
theorem StQ.grown {X : World} (h : StQ P w0 w be bw tx inp s bl lv l vo vb gs fv) (hN : NB w X) : StQ (PQ P w X) w0 X be bw tx inp s bl lv l vo vb gs fv := h.grow hN.but hN.nb
theorem StQ.fin {X X' : World} {r : Nat} (hN : NB w X) (h0 : w0.heap.size ≤ w.heap.size) (hs : StQ (PQ P w X) w0 X' be bw tx inp s bl lv l vo vb gs fv) (hB : But (FrQ (PQ P w X) w0) X X') (hr : w.heap.size ≤ r) (hx : ResX X r) (a b : Int) :
  ResX X' r ∧ But (FrQ P w0) w ((X'.setCell ⟨r, 0, none⟩ (.int .i32 a)).setCell ⟨r, 1, none⟩ (.int .i64 b)) ∧ StQ P w0 ((X'.setCell ⟨r, 0, none⟩ (.int .i32 a)).setCell ⟨r, 1, none⟩ (.int .i64 b)) be bw tx inp s bl lv l vo vb gs fv := by
 have hr2 : r < X.heap.size := by obtain ⟨K, N, hx⟩ := hx; exact lt_of_block hx
 have hx' : ResX X' r := hx.but hB (fun hf => hf.2 (Or.inr ⟨hr, hr2⟩))
 refine ⟨hx', ?_, ?_⟩
 ·refine ((hN.but.mono (fun _ _ h => h.elim)).trans (hB.mono (fun k hk hf => ⟨hf.1, fun hp => hf.2 (Or.inl hp)⟩))).next (but_put _ _ _ _) (fun k hk e => by have e : k = r := e; omega)
 ·refine (hs.tmp (F := (· = r)) (but_put _ _ _ _) (fun k e => by have e : k = r := e; subst e; exact ⟨Or.inr ⟨hr, hr2⟩, by omega⟩) (fun k e c fz he => ?_)).less (fun k hp => Or.inl hp)
  have e : k = r := e
  subst e
  rw [hx'.put] at he
  cases he
theorem StQ.fin0 {X X' : World} {r : Nat} (h : StQ P w0 w be bw tx inp s bl lv l vo vb gs fv) (hN : NB w X) (hB : But (fun _ => False) X X') (hr : w.heap.size ≤ r) (hx : ResX X r) (a b : Int) :
  ResX X' r ∧ But (FrQ P w0) w ((X'.setCell ⟨r, 0, none⟩ (.int .i32 a)).setCell ⟨r, 1, none⟩ (.int .i64 b)) ∧ StQ P w0 ((X'.setCell ⟨r, 0, none⟩ (.int .i32 a)).setCell ⟨r, 1, none⟩ (.int .i64 b)) be bw tx inp s bl lv l vo vb gs fv :=
 StQ.fin hN h.old.size ((h.grown hN).new hB) (hB.mono (fun _ _ h => h.elim)) hr hx a b
theorem do_k (h : StQ P w0 w be bw tx inp s bl lv l vo vb gs fv) (u v : V) (pl n pn pc : Nat) (c : UInt8) (pa : Option Addr) (hn : n < 100) :
  Calls Tryz.prog 197 #[.pointer (some ⟨bw, 0, none⟩), .agg #[.int .i64 pl, .int .u8 107, .int .u8 c.toNat, .int .i64 n, .slice pa pn pc], xAgg u, xAgg v] w (ReV P w0 w be bw tx inp bl lv (.ok (.i n) l s)) := by
 unfold xAgg
 go_enter Tryz.func197, Tryz.ntmps197
 go_wp2_with fail
 exact retX Tryz.results197 rfl rfl rfl (heap_alloc_at (by simp) _) ⟨nbDo.but.mono (fun _ _ h => h.elim), vo, vb, gs, fv, rfl, h.new nbDo.but⟩
theorem do_z (h : StQ P w0 w be bw tx inp s bl lv l vo vb gs fv)  (u v : V) (pl n pn pc : Nat) (c : UInt8) (pa : Option Addr) :
  Calls Tryz.prog 197 #[.pointer (some ⟨bw, 0, none⟩), .agg #[.int .i64 pl, .int .u8 122, .int .u8 c.toNat, .int .i64 n, .slice pa pn pc], xAgg u, xAgg v] w (ReV P w0 w be bw tx inp bl lv (.ok .z l s)) := by
 unfold xAgg
 go_enter Tryz.func197, Tryz.ntmps197
 go_wp2_with fail
 exact retX Tryz.results197 rfl rfl rfl (heap_alloc_at (by simp) _) ⟨nbDo.but.mono (fun _ _ h => h.elim), vo, vb, gs, fv, rfl, h.new nbDo.but⟩
theorem do_r (h : StQ P w0 w be bw tx inp s bl lv l vo vb gs fv) (h40 : inp.size ≤ 40) (u v : V) (pl n pn pc : Nat) (c : UInt8) (pa : Option Addr) :
  Calls Tryz.prog 197 #[.pointer (some ⟨bw, 0, none⟩), .agg #[.int .i64 pl, .int .u8 114, .int .u8 c.toNat, .int .i64 n, .slice pa pn pc], xAgg u, xAgg v] w (ReV P w0 w be bw tx inp bl lv (.ok (.i (nextV inp s.read)) l { s with read := s.read + 1 })) := by
 have HC := hid (fun X (hX : NB w X) => nextByte_any (h.grown hX) h40)
 have h0 := h.old.size
 clear h
 unfold xAgg
 go_enter Tryz.func197, Tryz.ntmps197
 go_wp2_with fail
 refine (HC.out _ nbDo).mono ?_
 rintro en w1 ⟨hB1, rfl, hs1⟩
 have HF := hid (fun a b => StQ.fin nbDo h0 hs1 hB1 (r := w.heap.size + 1 + 1 + 1) (by omega) ⟨0, 0, heap_alloc_at (by simp) _⟩ a b)
 have hr1 := (HF.out 0 0).1
 obtain ⟨K9, N9, r0, r1, f0, f1, hrl⟩ := hr1.parts
 simp only [xAgg]
 clear HC hB1 hs1
 go_wp2_with fail
 exact retX Tryz.results197 rfl rfl rfl (hr1.put _ _) ⟨(HF.out _ _).2.1, _, _, _, _, rfl, (HF.out _ _).2.2⟩
theorem do_w (h : StQ P w0 w be bw tx inp s bl lv l vo vb gs fv) (ht : TabW w0) (m : Int) (h1 : -2147483648 ≤ m) (h2 : m < 2147483648) (hol : s.out.length ≤ 90000) (v : V) (pl n pn pc : Nat) (c : UInt8) (pa : Option Addr) :
  Calls Tryz.prog 197 #[.pointer (some ⟨bw, 0, none⟩), .agg #[.int .i64 pl, .int .u8 119, .int .u8 c.toNat, .int .i64 n, .slice pa pn pc], xAgg (.i m), xAgg v] w (ReV P w0 w be bw tx inp bl lv (.ok (.i 0) l (s.say m))) := by
 have HC := hid (fun X (hX : NB w X) => putOut_any (h.grown hX) ht m h1 h2 hol)
 have h0 := h.old.size
 clear h
 unfold xAgg
 go_enter Tryz.func197, Tryz.ntmps197
 go_wp2_with fail
 refine (HC.out _ nbDo).mono ?_
 rintro en w1 ⟨hB1, rfl, vo1, hs1⟩
 have HF := hid (fun a b => StQ.fin nbDo h0 hs1 hB1 (r := w.heap.size + 1 + 1 + 1) (by omega) ⟨0, 0, heap_alloc_at (by simp) _⟩ a b)
 have hr1 := (HF.out 0 0).1
 obtain ⟨K9, N9, r0, r1, f0, f1, hrl⟩ := hr1.parts
 simp only [xAgg]
 clear HC hB1 hs1
 go_wp2_with fail
 exact retX Tryz.results197 rfl rfl rfl (hr1.put _ _) ⟨(HF.out _ _).2.1, _, _, _, _, rfl, (HF.out _ _).2.2⟩
theorem do_e (h : StQ P w0 w be bw tx inp s bl lv l vo vb gs fv) (u v : V) (huv : xO u = xO v ↔ u = v)  (pl n pn pc : Nat) (c : UInt8) (pa : Option Addr) :
  Calls Tryz.prog 197 #[.pointer (some ⟨bw, 0, none⟩), .agg #[.int .i64 pl, .int .u8 101, .int .u8 c.toNat, .int .i64 n, .slice pa pn pc], xAgg u, xAgg v] w (ReV P w0 w be bw tx inp bl lv (.ok (if u = v then .i 1 else .i 0) l s)) := by
 by_cases hq : xO u = xO v
 ·rw [if_pos (huv.1 hq)]
  have HC := hid (fun X (hX : NB w X) => xtruth_any true X)
  have HG := hid h
  clear huv
  clear h
  unfold xAgg
  rw [hq]
  go_enter Tryz.func197, Tryz.ntmps197
  go_wp2_with fail
  refine (HC.out _ nbDo).mono ?_
  rintro en w1 ⟨rfl, hB0⟩
  have HF := hid (fun a b => HG.out.fin0 nbDo hB0 (r := w.heap.size + 1 + 1 + 1) (by omega) ⟨0, 0, heap_alloc_at (by simp) _⟩ a b)
  have hr1 := (HF.out 0 0).1
  obtain ⟨K9, N9, r0, r1, f0, f1, hrl⟩ := hr1.parts
  simp only [xAgg]
  clear HC hB0
  go_wp2_with fail
  exact retX Tryz.results197 rfl rfl rfl (hr1.put _ _) ⟨(HF.out _ _).2.1, _, _, _, _, rfl, (HF.out _ _).2.2⟩
 ·rw [if_neg (fun e => hq (huv.2 e))]
  have hq2 : (xO u == xO v) = false := by simpa using hq
  have HC := hid (fun X (hX : NB w X) => xtruth_any false X)
  have HG := hid h
  clear huv
  clear h
  unfold xAgg
  go_enter Tryz.func197, Tryz.ntmps197
  go_wp2_with fail
  refine (HC.out _ nbDo).mono ?_
  rintro en w1 ⟨rfl, hB0⟩
  have HF := hid (fun a b => HG.out.fin0 nbDo hB0 (r := w.heap.size + 1 + 1 + 1) (by omega) ⟨0, 0, heap_alloc_at (by simp) _⟩ a b)
  have hr1 := (HF.out 0 0).1
  obtain ⟨K9, N9, r0, r1, f0, f1, hrl⟩ := hr1.parts
  simp only [xAgg]
  clear HC hB0
  go_wp2_with fail
  exact retX Tryz.results197 rfl rfl rfl (hr1.put _ _) ⟨(HF.out _ _).2.1, _, _, _, _, rfl, (HF.out _ _).2.2⟩
theorem do_n (h : StQ P w0 w be bw tx inp s bl lv l vo vb gs fv) (h4 : s.heap.length ≤ 4000) (cs : List XCls) (hn : cs.length ≤ 100) (hT : TxC w0 tx cs) (o : Ob) (ts : List UInt8) (u v : V) (pl n pn pc : Nat) (c : UInt8) (pa : Option Addr) (hc : c.toNat = 65 + o.cls) (hts : fldsX cs c = ts) (ht5 : ts.length ≤ 100) (hof : o.fs = ts.map plainV) :
  Calls Tryz.prog 197 #[.pointer (some ⟨bw, 0, none⟩), .agg #[.int .i64 pl, .int .u8 110, .int .u8 c.toNat, .int .i64 n, .slice pa pn pc], xAgg u, xAgg v] w (ReV P w0 w be bw tx inp bl lv (.ok (.o s.heap.length) l { s with heap := s.heap ++ [o] })) := by
 have HC := hid (fun X (hX : NB w X) => newObject_any (h.grown hX) h4 cs hn hT c o hc ts hts ht5 hof)
 have h0 := h.old.size
 clear h hc hts hof
 unfold xAgg
 go_enter Tryz.func197, Tryz.ntmps197
 go_wp2_with fail
 refine (HC.out _ nbDo).mono ?_
 rintro en w1 ⟨hB1, rfl, vb1, gs1, fv1, hs1⟩
 have HF := hid (fun a b => StQ.fin nbDo h0 hs1 hB1 (r := w.heap.size + 1 + 1 + 1) (by omega) ⟨0, 0, heap_alloc_at (by simp) _⟩ a b)
 have hr1 := (HF.out 0 0).1
 obtain ⟨K9, N9, r0, r1, f0, f1, hrl⟩ := hr1.parts
 simp only [xAgg]
 clear HC hB1 hs1
 go_wp2_with fail
 exact retX Tryz.results197 rfl rfl rfl (hr1.put _ _) ⟨(HF.out _ _).2.1, _, _, _, _, rfl, (HF.out _ _).2.2⟩
theorem do_gz (h : StQ P w0 w be bw tx inp s bl lv l vo vb gs fv) (h4 : s.heap.length ≤ 4000) (v : V) (pl n pn pc : Nat) (c : UInt8) (pa : Option Addr) :
  Calls Tryz.prog 197 #[.pointer (some ⟨bw, 0, none⟩), .agg #[.int .i64 pl, .int .u8 103, .int .u8 c.toNat, .int .i64 n, .slice pa pn pc], xAgg .z, xAgg v] w (ReV P w0 w be bw tx inp bl lv (.bad 6 s.out)) := by
 have HC := hid (fun X (hX : NB w X) => field_z (h.grown hX) h4 n)
 have HG := hid h
 clear h
 unfold xAgg
 go_enter Tryz.func197, Tryz.ntmps197
 go_wp2_with fail
 refine (HC.out _ nbDo).mono ?_
 rintro en w1 ⟨hB0, rfl⟩
 have HF := hid (fun a b => HG.out.fin0 nbDo hB0 (r := w.heap.size + 1 + 1 + 1) (by omega) ⟨0, 0, heap_alloc_at (by simp) _⟩ a b)
 have hr1 := (HF.out 0 0).1
 obtain ⟨K9, N9, r0, r1, f0, f1, hrl⟩ := hr1.parts
 simp only [xAgg]
 clear HC hB0
 go_wp2_with fail
 exact retX Tryz.results197 rfl rfl rfl (hr1.put _ _) ⟨(HF.out _ _).2.1, _, _, _, _, rfl, s, l, rfl, (HF.out _ _).2.2⟩
theorem do_go (h : StQ P w0 w be bw tx inp s bl lv l vo vb gs fv) (h4 : s.heap.length ≤ 4000) {k : Nat} {o : Ob} (hk : s.heap[k]? = some o) (q : V) (v : V) (pl n pn pc : Nat) (c : UInt8) (pa : Option Addr) (hq : o.fs[n]? = some q) :
  Calls Tryz.prog 197 #[.pointer (some ⟨bw, 0, none⟩), .agg #[.int .i64 pl, .int .u8 103, .int .u8 c.toNat, .int .i64 n, .slice pa pn pc], xAgg (.o k), xAgg v] w (ReV P w0 w be bw tx inp bl lv (.ok q l s)) := by
 have HC := hid (fun X (hX : NB w X) => field_o (h.grown hX) h4 hk n q hq)
 have HG := hid h
 clear hk hq
 clear h
 unfold xAgg
 go_enter Tryz.func197, Tryz.ntmps197
 go_wp2_with fail
 refine (HC.out _ nbDo).mono ?_
 rintro en w1 ⟨hB0, rfl⟩
 have HF := hid (fun a b => HG.out.fin0 nbDo hB0 (r := w.heap.size + 1 + 1 + 1) (by omega) ⟨0, 0, heap_alloc_at (by simp) _⟩ a b)
 have hr1 := (HF.out 0 0).1
 obtain ⟨K9, N9, r0, r1, f0, f1, hrl⟩ := hr1.parts
 simp only [xAgg]
 clear HC hB0
 go_wp2_with fail
 exact retX Tryz.results197 rfl rfl rfl (hr1.put _ _) ⟨(HF.out _ _).2.1, _, _, _, _, rfl, (HF.out _ _).2.2⟩
theorem do_pz (h : StQ P w0 w be bw tx inp s bl lv l vo vb gs fv) (h4 : s.heap.length ≤ 4000) (v : V) (pl n pn pc : Nat) (c : UInt8) (pa : Option Addr) :
  Calls Tryz.prog 197 #[.pointer (some ⟨bw, 0, none⟩), .agg #[.int .i64 pl, .int .u8 112, .int .u8 c.toNat, .int .i64 n, .slice pa pn pc], xAgg .z, xAgg v] w (ReV P w0 w be bw tx inp bl lv (.bad 6 s.out)) := by
 have HC := hid (fun X (hX : NB w X) => setField_z (h.grown hX) h4 n v)
 have HG := hid h
 clear h
 unfold xAgg
 go_enter Tryz.func197, Tryz.ntmps197
 go_wp2_with fail
 refine (HC.out _ nbDo).mono ?_
 rintro en w1 ⟨hB0, rfl⟩
 have HF := hid (fun a b => HG.out.fin0 nbDo hB0 (r := w.heap.size + 1 + 1 + 1) (by omega) ⟨0, 0, heap_alloc_at (by simp) _⟩ a b)
 have hr1 := (HF.out 0 0).1
 obtain ⟨K9, N9, r0, r1, f0, f1, hrl⟩ := hr1.parts
 simp only [xAgg]
 clear HC hB0
 go_wp2_with fail
 exact retX Tryz.results197 rfl rfl rfl (hr1.put _ _) ⟨(HF.out _ _).2.1, _, _, _, _, rfl, s, l, rfl, (HF.out _ _).2.2⟩
theorem do_po (h : StQ P w0 w be bw tx inp s bl lv l vo vb gs fv) (h4 : s.heap.length ≤ 4000) {k : Nat} {o : Ob} (hk : s.heap[k]? = some o) (v : V) (pl n pn pc : Nat) (c : UInt8) (pa : Option Addr) (hq : n < o.fs.length) :
  Calls Tryz.prog 197 #[.pointer (some ⟨bw, 0, none⟩), .agg #[.int .i64 pl, .int .u8 112, .int .u8 c.toNat, .int .i64 n, .slice pa pn pc], xAgg (.o k), xAgg v] w (ReV P w0 w be bw tx inp bl lv (.ok (.i 0) l (s.put k n v))) := by
 have HC := hid (fun X (hX : NB w X) => setField_o (h.grown hX) h4 hk n v hq)
 have h0 := h.old.size
 clear h hk hq
 unfold xAgg
 go_enter Tryz.func197, Tryz.ntmps197
 go_wp2_with fail
 refine (HC.out _ nbDo).mono ?_
 rintro en w1 ⟨hB1, rfl, hs1⟩
 have HF := hid (fun a b => StQ.fin nbDo h0 hs1 hB1 (r := w.heap.size + 1 + 1 + 1) (by omega) ⟨0, 0, heap_alloc_at (by simp) _⟩ a b)
 have hr1 := (HF.out 0 0).1
 obtain ⟨K9, N9, r0, r1, f0, f1, hrl⟩ := hr1.parts
 simp only [xAgg]
 clear HC hB1 hs1
 go_wp2_with fail
 exact retX Tryz.results197 rfl rfl rfl (hr1.put _ _) ⟨(HF.out _ _).2.1, _, _, _, _, rfl, (HF.out _ _).2.2⟩
theorem do_xz (h : StQ P w0 w be bw tx inp s bl lv l vo vb gs fv) (h4 : s.heap.length ≤ 4000) (v : V) (pl n pn pc : Nat) (c : UInt8) (pa : Option Addr) :
  Calls Tryz.prog 197 #[.pointer (some ⟨bw, 0, none⟩), .agg #[.int .i64 pl, .int .u8 120, .int .u8 c.toNat, .int .i64 n, .slice pa pn pc], xAgg .z, xAgg v] w (ReV P w0 w be bw tx inp bl lv (.ok .z l s)) := by
 have HC := hid (fun X (hX : NB w X) => cast_z (h.grown hX) h4 c)
 have HG := hid h
 clear h
 unfold xAgg
 go_enter Tryz.func197, Tryz.ntmps197
 go_wp2_with fail
 refine (HC.out _ nbDo).mono ?_
 rintro en w1 ⟨hB0, rfl⟩
 have HF := hid (fun a b => HG.out.fin0 nbDo hB0 (r := w.heap.size + 1 + 1 + 1) (by omega) ⟨0, 0, heap_alloc_at (by simp) _⟩ a b)
 have hr1 := (HF.out 0 0).1
 obtain ⟨K9, N9, r0, r1, f0, f1, hrl⟩ := hr1.parts
 simp only [xAgg]
 clear HC hB0
 go_wp2_with fail
 exact retX Tryz.results197 rfl rfl rfl (hr1.put _ _) ⟨(HF.out _ _).2.1, _, _, _, _, rfl, (HF.out _ _).2.2⟩
theorem do_xo (h : StQ P w0 w be bw tx inp s bl lv l vo vb gs fv) (h4 : s.heap.length ≤ 4000) {k : Nat} {o : Ob} (hk : s.heap[k]? = some o) (cs : List XCls) (hn : cs.length ≤ 100) (hT : TxC w0 tx cs) (a : UInt8) (ha : a.toNat = 65 + o.cls) (v : V) (pl n pn pc : Nat) (c : UInt8) (pa : Option Addr) :
  Calls Tryz.prog 197 #[.pointer (some ⟨bw, 0, none⟩), .agg #[.int .i64 pl, .int .u8 120, .int .u8 c.toNat, .int .i64 n, .slice pa pn pc], xAgg (.o k), xAgg v] w (ReV P w0 w be bw tx inp bl lv (if comesX cs c cs.length a = true then .ok (.o k) l s else .bad 8 s.out)) := by
 have HC := hid (fun X (hX : NB w X) => cast_o (h.grown hX) h4 hk cs hn hT a c ha)
 have HG := hid h
 obtain ⟨r, hr⟩ : ∃ r, comesX cs c cs.length a = r := ⟨_, rfl⟩
 rw [hr] at HC ⊢
 clear h hr ha hk
 cases r
 ·simp only [Bool.false_eq_true, if_false] at HC ⊢
  unfold xAgg
  go_enter Tryz.func197, Tryz.ntmps197
  go_wp2_with fail
  refine (HC.out _ nbDo).mono ?_
  rintro en w1 ⟨hB0, rfl⟩
  have HF := hid (fun a b => HG.out.fin0 nbDo hB0 (r := w.heap.size + 1 + 1 + 1) (by omega) ⟨0, 0, heap_alloc_at (by simp) _⟩ a b)
  have hr1 := (HF.out 0 0).1
  obtain ⟨K9, N9, r0, r1, f0, f1, hrl⟩ := hr1.parts
  simp only [xAgg]
  clear HC hB0
  go_wp2_with fail
  exact retX Tryz.results197 rfl rfl rfl (hr1.put _ _) ⟨(HF.out _ _).2.1, _, _, _, _, rfl, s, l, rfl, (HF.out _ _).2.2⟩
 ·simp only [if_true] at HC ⊢
  unfold xAgg
  go_enter Tryz.func197, Tryz.ntmps197
  go_wp2_with fail
  refine (HC.out _ nbDo).mono ?_
  rintro en w1 ⟨hB0, rfl⟩
  have HF := hid (fun a b => HG.out.fin0 nbDo hB0 (r := w.heap.size + 1 + 1 + 1) (by omega) ⟨0, 0, heap_alloc_at (by simp) _⟩ a b)
  have hr1 := (HF.out 0 0).1
  obtain ⟨K9, N9, r0, r1, f0, f1, hrl⟩ := hr1.parts
  simp only [xAgg]
  clear HC hB0
  go_wp2_with fail
  exact retX Tryz.results197 rfl rfl rfl (hr1.put _ _) ⟨(HF.out _ _).2.1, _, _, _, _, rfl, (HF.out _ _).2.2⟩
theorem do_a (h : StQ P w0 w be bw tx inp s bl lv l vo vb gs fv) (op : Nat) (hop : op = 43 ∨ op = 45 ∨ op = 42 ∨ op = 60 ∨ op = 61 ∨ op = 47) (a b : Int) (a1 : -2147483648 ≤ a) (a2 : a < 2147483648) (b1 : -2147483648 ≤ b) (b2 : b < 2147483648)  (pl n pn pc : Nat) (c : UInt8) (pa : Option Addr) :
  Calls Tryz.prog 197 #[.pointer (some ⟨bw, 0, none⟩), .agg #[.int .i64 pl, .int .u8 op, .int .u8 c.toNat, .int .i64 n, .slice pa pn pc], xAgg (.i a), xAgg (.i b)] w (ReV P w0 w be bw tx inp bl lv (arithV op a b l s)) := by
 have HC := hid (fun X => xcalc_any op hop a b a1 a2 b1 b2 X)
 have HG := hid h
 obtain ⟨K, e, hK, hR⟩ : ∃ (K e : Int), calcV op a b = .tuple #[.agg #[.int .i32 K, .int .i64 0], .int .i64 e] ∧ ((∃ m, m = K ∧ e = 0 ∧ arithV op a b l s = .ok (.i m) l s) ∨ (K = 0 ∧ e = faultN 7 ∧ arithV op a b l s = .bad 7 s.out)) := by
  unfold calcV arithV
  by_cases h47 : op = 47
  ·by_cases hb : b = 0
   ·subst h47 hb; exact ⟨0, 3, rfl, Or.inr ⟨rfl, rfl, rfl⟩⟩
   ·simp only [h47, hb, and_false, if_true, if_false]; exact ⟨_, 0, rfl, Or.inl ⟨_, rfl, rfl, rfl⟩⟩
  ·simp only [h47, false_and, if_false]; exact ⟨_, 0, rfl, Or.inl ⟨_, rfl, rfl, rfl⟩⟩
 rw [hK] at HC
 obtain ⟨R, hRR⟩ : ∃ R, arithV op a b l s = R := ⟨_, rfl⟩
 rw [hRR] at hR ⊢
 have HR := hid hR
 clear h hK hR hRR
 rcases hop with rfl | rfl | rfl | rfl | rfl | rfl
 all_goals
  unfold xAgg
  go_enter Tryz.func197, Tryz.ntmps197
  go_wp2_with fail
  refine (HC.out _).mono ?_
  rintro en w1 ⟨rfl, hB0⟩
  have HF := hid (fun a b => HG.out.fin0 nbDo hB0 (r := w.heap.size + 1 + 1 + 1) (by omega) ⟨0, 0, heap_alloc_at (by simp) _⟩ a b)
  have hr1 := (HF.out 0 0).1
  obtain ⟨K9, N9, r0, r1, f0, f1, hrl⟩ := hr1.parts
  simp only [xAgg]
  clear HC hB0
  go_wp2_with fail
  rcases HR.out with ⟨m, rfl, rfl, rfl⟩ | ⟨rfl, rfl, rfl⟩
  ·exact retX Tryz.results197 rfl rfl rfl (hr1.put _ _) ⟨(HF.out _ _).2.1, _, _, _, _, rfl, (HF.out _ _).2.2⟩
  ·exact retX Tryz.results197 rfl rfl rfl (hr1.put _ _) ⟨(HF.out _ _).2.1, _, _, _, _, rfl, s, l, rfl, (HF.out _ _).2.2⟩
end
theorem retT {fn : Func} {Rr : Ending → World → Prop} {a : Act} {w : World} {c f : Nat} {u v : Value} (hf : fn.results = #[.tmp c, .tmp f]) (hd : a.defers = []) (hc : a.tmps.getD c undef = u) (he : a.tmps.getD f undef = v) (hR : Rr (.returned (.tuple #[u, v])) w) : bodyPost Tryz.prog fn Rr .ret a w := by
 refine bodyPost_ret (v := .tuple #[u, v]) ?_ hd hR
 have hc' : a.tmps[c]?.getD undef = u := by simpa using hc
 have he' : a.tmps[f]?.getD undef = v := by simpa using he
 simp [results, hf, hc', he', go_sem]
section
variable {P : Nat → Prop} {w0 w : World} {be bw tx bl : Nat} {inp : ByteArray} {s : Ev} {lv vo vb : Value} {l : List V} {gs : List Nat} {fv : List Value}
theorem callee_z (h : StQ P w0 w be bw tx inp s bl lv l vo vb gs fv) (h4 : s.heap.length ≤ 4000) (m d : Nat) :
  Calls Tryz.prog 193 #[.pointer (some ⟨bw, 0, none⟩), .agg #[.int .i32 0, .int .i64 0], .int .i64 m, .int .i64 d] w fun en w' => But (fun _ => False) w w' ∧ en = .returned (.tuple #[.int .i64 (-1), .int .i64 2]) := by
 have HO := hid (fun X (hX : But (fun _ => False) w X) => class_z (h.new hX) h4)
 clear h
 go_enter Tryz.func193, Tryz.ntmps193
 go_wp2_with fail
 refine (HO.out _ (But.alloc _ _ _)).mono ?_
 rintro en w1 ⟨hB1, rfl⟩
 go_wp2_with fail
 exact retT Tryz.results193 rfl rfl rfl ⟨(But.alloc _ _ _).trans hB1, rfl⟩
theorem callee_o (h : StQ P w0 w be bw tx inp s bl lv l vo vb gs fv) (h4 : s.heap.length ≤ 4000) {k : Nat} {o : Ob} (hk : s.heap[k]? = some o) (cs : List XCls) (bs : List XBod) (hn : cs.length ≤ 100) (hnb : bs.length ≤ 100) (hT : TxC w0 tx cs) (hTb : TxB w0 tx bs) (a : UInt8) (ha : a.toNat = 65 + o.cls) (m d : Nat) :
  Calls Tryz.prog 193 #[.pointer (some ⟨bw, 0, none⟩), .agg #[.int .i32 0, .int .i64 ((k : Int) + 1)], .int .i64 m, .int .i64 d] w fun en w' => But (fun _ => False) w w' ∧ en = .returned (if 12 ≤ d then .tuple #[.int .i64 (-1), .int .i64 6] else .tuple #[.int .i64 (bodyF cs bs m cs.length a), .int .i64 0]) := by
 have HO := hid (fun X (hX : But (fun _ => False) w X) => class_o (h.new hX) h4 hk)
 rw [← ha] at HO
 have HB := hid (fun X (hX : But (fun _ => False) w X) => xbodyOf_any tx cs bs a m X hn hnb (hT.but (h.old.trans hX)) (hTb.but (h.old.trans hX)))
 have c0 := h.wd.c0
 have hbl := h.wd.lt
 have h45 : (a.toNat : Int) ≠ 45 := by omega
 obtain ⟨r, hr⟩ : ∃ r, bodyF cs bs m cs.length a = r := ⟨_, rfl⟩
 rw [hr] at HB ⊢
 clear h hk ha hr
 by_cases hd : 12 ≤ d
 ·rw [if_pos hd]
  have hdI : 12 ≤ (d : Int) := by omega
  go_enter Tryz.func193, Tryz.ntmps193
  go_wp2_with fail
  refine (HO.out _ (But.alloc _ _ _)).mono ?_
  rintro en w1 ⟨hB1, rfl⟩
  go_wp2_with fail
  exact retT Tryz.results193 rfl rfl rfl ⟨(But.alloc _ _ _).trans hB1, rfl⟩
 ·rw [if_neg hd]
  have hdI : ¬ 12 ≤ (d : Int) := by omega
  clear hd
  go_enter Tryz.func193, Tryz.ntmps193
  go_wp2_with fail
  refine (HO.out _ (But.alloc _ _ _)).mono ?_
  rintro en w1 ⟨hB1, rfl⟩
  have hBw : But (fun _ => False) w w1 := (But.alloc _ _ _).trans hB1
  have d0 := (hBw.cell (p := ⟨bw, 0, none⟩) hbl (fun h => h)).trans c0
  have hb1 := Nat.lt_of_lt_of_le hbl hBw.size
  clear HO hB1 c0
  go_wp2_with fail
  refine (HB.out _ hBw).mono ?_
  rintro en w2 ⟨rfl, hB2⟩
  go_wp2_with fail
  exact retT Tryz.results193 rfl rfl rfl ⟨hBw.trans hB2, rfl⟩
end
theorem retI {fn : Func} {Rr : Ending → World → Prop} {a : Act} {w : World} {c r : Nat} {v0 v1 v2 v3 v4 : Value} (hf : fn.results = #[.cell c 219]) (hd : a.defers = []) (hc : a.tmps.getD c undef = .pointer (some ⟨r, 0, none⟩))
  (h0 : w.heap[r]? = some (.cells #[v0, v1, v2, v3, v4] 219)) (hR : Rr (.returned (.agg #[v0, v1, v2, v3, v4])) w) : bodyPost Tryz.prog fn Rr .ret a w := by
 have r0 : w.cell? ⟨r, 0, none⟩ = some v0 := by rw [cell_of_row w r 0 _ _ (0, 0) h0]; rfl
 have r1 : w.cell? ⟨r, 1, none⟩ = some v1 := by rw [cell_of_row w r 1 _ _ (0, 0) h0]; rfl
 have r2 : w.cell? ⟨r, 2, none⟩ = some v2 := by rw [cell_of_row w r 2 _ _ (0, 0) h0]; rfl
 have r3 : w.cell? ⟨r, 3, none⟩ = some v3 := by rw [cell_of_row w r 3 _ _ (0, 0) h0]; rfl
 have r4 : w.cell? ⟨r, 4, none⟩ = some v4 := by rw [cell_of_row w r 4 _ _ (0, 0) h0]; rfl
 refine bodyPost_ret (v := .agg #[v0, v1, v2, v3, v4]) ?_ hd hR
 have hc' : a.tmps[c]?.getD undef = .pointer (some ⟨r, 0, none⟩) := by simpa using hc
 simp [results, hf, hc', go_sem, r0, r1, r2, r3, r4]
def itAgg (x : XIt) : Value := .agg #[.int .i64 x.place, .int .u8 x.op.toNat, .int .u8 x.cls.toNat, .int .i64 x.num, .slice x.pa x.pn x.pc]
theorem itemAt_any (c : UInt8) (m : Nat) (an : UInt8) (vl vi : Value) (its : List XIt) (i : Nat) (x : XIt) (w : World) (hI : ItB w 0 vi its) (hx : its[i]? = some x) (hl : its.length ≤ 1000) :
  Calls Tryz.prog 152 #[.agg #[.int .u8 c.toNat, .int .i64 m, .int .u8 an.toNat, vl, vi], .int .i64 i] w fun en w' => en = .returned (itAgg x) ∧ NB w w' := by
 have hil := (List.getElem?_eq_some_iff.1 hx).1
 unfold ItB at hI
 obtain ⟨ai, ci, rfl⟩ := owns_len hI
 obtain ⟨g, rfl, hg1, hg2, hcell⟩ := owns_two hI (by omega)
 have q0 : w.cell? ⟨g, i * 5, none⟩ = some _ := hcell _ _ (itCells_at (k := 0) hx (by omega))
 have q1 : w.cell? ⟨g, i * 5 + 1, none⟩ = some _ := hcell _ _ (itCells_at (k := 1) hx (by omega))
 have q2 : w.cell? ⟨g, i * 5 + 2, none⟩ = some _ := hcell _ _ (itCells_at (k := 2) hx (by omega))
 have q3 : w.cell? ⟨g, i * 5 + 3, none⟩ = some _ := hcell _ _ (itCells_at (k := 3) hx (by omega))
 have q4 : w.cell? ⟨g, i * 5 + 4, none⟩ = some _ := hcell _ _ (itCells_at (k := 4) hx (by omega))
 have hi0 : ¬ ((i : Int) < 0) := by omega
 have hiI : ¬ ((its.length : Int) ≤ (i : Int)) := by omega
 have hiJ : (i : Int) < (its.length : Int) := by omega
 unfold itAgg
 clear hcell hx hI
 generalize its.length = ni at *
 go_enter Tryz.func152, Tryz.ntmps152
 go_wp2_with fail
 exact retI Tryz.results152 rfl rfl (heap_alloc_at (by simp) _) ⟨rfl, ((NB.refl w).alloc (by decide)).alloc (by decide)⟩
def FrB (w : World) (bf d : Nat) (X : XBod) (vl vi : Value) (bl : Nat) : Prop :=
 w.heap[bf]? = some (.cells #[.int .i64 d, .int .u8 X.cls.toNat, .int .i64 X.meth, .int .u8 X.ans.toNat, vl, vi, .pointer (some ⟨bl, 0, none⟩)] 234)
theorem FrB.but {F : Nat → Prop} {w w' : World} {bf d bl : Nat} {X : XBod} {vl vi : Value} (h : FrB w bf d X vl vi bl) (hb : But F w w') (hf : ¬ F bf) : FrB w' bf d X vl vi bl := (hb.block bf (lt_of_block h) hf).trans h
structure BodF (w : World) (gs : List Sig) (b : Bod) (X : XBod) (vl vi : Value) : Prop where
 bt : BtB w 0 vl X.locals
 it : ItB w 0 vi X.items
 bd : BdN w 0 gs X b
section
variable {P : Nat → Prop} {w0 w w' : World} {be bw tx bl : Nat} {inp : ByteArray} {s : Ev} {lv vo vb : Value} {l : List V} {gs : List Nat} {fv : List Value}
theorem newFrame_base {fu : Int} (he : XeB w be tx bw fu) (h0 : But (fun _ => False) w0 w) (im : Img) (hT : TextN w0 tx im) (q d : Nat) (b : Bod) (hq : im.bodies[q]? = some b) (hlo : b.locals.length ≤ 5) (hnb : im.bodies.length ≤ 100) :
  Calls Tryz.prog 92 #[.pointer (some ⟨be, 0, none⟩), .int .i64 q, .int .i64 d] w fun en w' => ∃ (bf bl' : Nat) (lv' : Value) (X : XBod) (vl vi : Value), en = .returned (.pointer (some ⟨bf, 0, none⟩)) ∧ But (fun _ => False) w w' ∧ FrB w' bf d X vl vi bl' ∧ BodF w0 im.sigs b X vl vi ∧ w'.heap[bl']? = some (.cells #[lv'] 280) ∧ w'.ownsRow w.heap.size 168 2 lv' b.locals.length (xvalCells (b.locals.map plainV)) ∧ w.heap.size ≤ bl' ∧ w.heap.size ≤ bf := by
 obtain ⟨bs, ⟨v2, t2, htl, lb, hO, hm, hf⟩, hbl2, hbd⟩ := hT.bod
 have hql := (List.getElem?_eq_some_iff.1 hq).1
 have hlen : lb.length = im.bodies.length := by rw [← hbl2, ← hm]; simp
 obtain ⟨⟨X, vl, vi⟩, hX⟩ : ∃ x, lb[q]? = some x := ⟨_, List.getElem?_eq_getElem (by omega)⟩
 have hXb : bs[q]? = some X := by rw [← hm]; simp [hX]
 have hB := hbd q X b hXb hq
 obtain ⟨f1, f2⟩ := hf _ (List.mem_of_getElem? hX)
 simp only at f1 f2
 have HBF : Hid (BodF w0 im.sigs b X vl vi) := ⟨f1, f2, hB⟩
 obtain ⟨al, capl, rfl⟩ := owns_len f1
 obtain ⟨ai, capi, rfl⟩ := owns_len f2
 obtain ⟨ao, capo, rfl⟩ := owns_len hO
 obtain ⟨g, rfl, hg1, hg2, hcell⟩ := owns_two hO (by omega)
 have q0 := hcell _ _ (xbCells_at (k := 0) hX (by omega))
 have q1 := hcell _ _ (xbCells_at (k := 1) hX (by omega))
 have q2 := hcell _ _ (xbCells_at (k := 2) hX (by omega))
 have q3 := hcell _ _ (xbCells_at (k := 3) hX (by omega))
 have q4 := hcell _ _ (xbCells_at (k := 4) hX (by omega))
 simp only [Nat.add_zero, List.getElem?_cons_zero, List.getElem?_cons_succ] at q0 q1 q2 q3 q4
 have hll : X.locals.length = b.locals.length := by rw [hB.loc]
 rw [hll] at HBF
 have HNL := hid (fun Y => newLocals_any X.cls (X.meth : Int) X.ans X.locals al capl ai X.items.length capi Y (by omega))
 have HLL := hid hB.loc
 have e0 := he.c0
 have hel := he.lt
 have hqI : (0 : Int) ≤ (q : Int) := by omega
 have hqJ : (q : Int) < (lb.length : Int) := by omega
 replace q0 := (h0.cell hg1 (fun h => h)).trans q0
 replace q1 := (h0.cell hg1 (fun h => h)).trans q1
 replace q2 := (h0.cell hg1 (fun h => h)).trans q2
 replace q3 := (h0.cell hg1 (fun h => h)).trans q3
 replace q4 := (h0.cell hg1 (fun h => h)).trans q4
 replace t2 := (h0.cell htl (fun h => h)).trans t2
 replace hg1 := Nat.lt_of_lt_of_le hg1 h0.size
 replace htl := Nat.lt_of_lt_of_le htl h0.size
 clear hbl2 hbd hlen hX hXb hB f1 f2 hcell hf hO hm hq hql hT he
 generalize lb.length = nb at *
 go_enter Tryz.func92, Tryz.ntmps92
 go_wp2_with fail
 have hgW := heap_alloc_new w (.cells #[.int .u8 X.cls.toNat, .int .i64 X.meth, .int .u8 X.ans.toNat, .slice al b.locals.length capl, .slice ai X.items.length capi] 115)
 have hBW : But (fun _ => False) w (w.alloc (.cells #[.int .u8 X.cls.toNat, .int .i64 X.meth, .int .u8 X.ans.toNat, .slice al b.locals.length capl, .slice ai X.items.length capi] 115)) := But.alloc _ _ _
 revert hgW hBW
 generalize (w.alloc (.cells #[.int .u8 X.cls.toNat, .int .i64 X.meth, .int .u8 X.ans.toNat, .slice al b.locals.length capl, .slice ai X.items.length capi] 115)) = W
 intro hgW hBW
 obtain ⟨k0, k1, k2, k3, k4⟩ := row5 hgW
 have gltW := lt_of_block hgW
 clear q0 q1 q2 q3 q4 t2 e0 hgW
 have hS0 : But (fun _ => False) W W.drew := But.drew _ _
 rw [hll] at HNL
 refine wpTx_begin (But (fun _ => False) W) 6 (by kernel_rfl) ?_
 have fSA := hid (fun wS (h : (But (fun _ => False) W) wS) => (And.intro ((h.cell (p := ⟨w.heap.size, 0, none⟩) gltW (fun h => h)).trans k0) (And.intro ((h.cell (p := ⟨w.heap.size, 1, none⟩) gltW (fun h => h)).trans k1) (And.intro ((h.cell (p := ⟨w.heap.size, 2, none⟩) gltW (fun h => h)).trans k2) (And.intro ((h.cell (p := ⟨w.heap.size, 3, none⟩) gltW (fun h => h)).trans k3) ((h.cell (p := ⟨w.heap.size, 4, none⟩) gltW (fun h => h)).trans k4))))))
 iterate 3 (refine wpTx_take (v := ?_) rfl (by kernel_rfl) (fun _ _ _ h => h) rfl hS0 ?_ ?_; rotate_left; (focus (intro wS h; obtain ⟨q0, q1, q2, q3, q4⟩ := fSA.out wS h; clear h; go_simp; try rfl)); dsimp only [Act.put]; try simp only [puts])
 try clear fSA
 refine wpTx_step rfl (by kernel_rfl) ?_
 intro KS hKS
 go_simp
 refine (HNL.out _).mono ?_
 rintro en w1 ⟨bl', lv', rfl, hB1, hlb, hlr, hbl'⟩
 have hB1W := hS0.trans hB1
 refine hKS.out _ _ (fun _ => hB1W) ?_
 clear hKS KS
 refine wpTx_step rfl (by kernel_rfl) ?_
 intro KS hKS
 go_simp
 refine hKS.out _ _ (fun _ => hB1W) ?_
 clear hKS KS
 refine wpTx_step rfl (by kernel_rfl) ?_
 intro KS hKS
 go_simp
 refine hKS.out _ _ (fun _ => hB1W.trans (But.alloc _ _ _)) ?_
 clear hKS KS
 refine wpTx_step rfl (by kernel_rfl) ?_
 intro KS hKS
 go_simp
 refine hKS.out _ _ (fun h => absurd h (by decide)) ?_
 clear hKS KS
 refine wpTx_done rfl (by kernel_rfl) ?_
 go_wp2_with fail
 go_ret
 have hBW1 := hBW.trans hB1W
 refine ⟨_, bl', lv', X, _, _, rfl, hBW1.trans (But.alloc _ _ _), heap_alloc_new _ _, HBF.out, ((But.alloc (fun _ => False) _ _).block bl' (lt_of_block hlb) (fun h => h)).trans hlb, ?_, Nat.le_trans hBW.size hbl', hBW1.size⟩
 rw [HLL.out] at hlr
 exact World.ownsRow.mono (owns_but hlr (But.alloc (fun _ => False) _ _) (fun _ _ h => h)) hBW.size
theorem newFrame_any (h : StQ P w0 w be bw tx inp s bl lv l vo vb gs fv) (im : Img) (hT : TextN w0 tx im) (q d : Nat) (b : Bod) (hq : im.bodies[q]? = some b) (hlo : b.locals.length ≤ 5) (hnb : im.bodies.length ≤ 100) :
  Calls Tryz.prog 92 #[.pointer (some ⟨be, 0, none⟩), .int .i64 q, .int .i64 d] w fun en w' => ∃ (bf bl' : Nat) (lv' : Value) (X : XBod) (vl vi : Value), en = .returned (.pointer (some ⟨bf, 0, none⟩)) ∧ But (fun _ => False) w w' ∧ FrB w' bf d X vl vi bl' ∧ BodF w0 im.sigs b X vl vi ∧ w'.heap[bl']? = some (.cells #[lv'] 280) ∧ w'.ownsRow w.heap.size 168 2 lv' b.locals.length (xvalCells (b.locals.map plainV)) ∧ w.heap.size ≤ bl' ∧ w.heap.size ≤ bf := newFrame_base h.ev h.old im hT q d b hq hlo hnb
abbrev LocP (bl : Nat) (lv : Value) (k : Nat) : Prop := k = bl ∨ lv.ownBlock = some k
theorem StQ.enter {bl' : Nat} {lv' : Value} {l' : List V} (h : StQ P w0 w be bw tx inp s bl lv l vo vb gs fv) (hB : But (fun _ => False) w w') (hb : w'.heap[bl']? = some (.cells #[lv'] 280)) (hr : w'.ownsRow w.heap.size 168 2 lv' l'.length (xvalCells l')) (hbl : w.heap.size ≤ bl') :
  StQ (fun k => P k ∨ LocP bl lv k) w0 w' be bw tx inp s bl' lv' l' vo vb gs fv := by
 have h1 := h.new hB
 have h0 := h.old.size
 have hnl : ∀ k, lv'.ownBlock = some k → w.heap.size ≤ k := fun k hk => owns_ge hr k hk
 have old : ∀ {k}, OwnQ be bw bl vo vb lv gs fv k → ¬ LocP bl lv k → (w0.heap.size ≤ k ∧ ¬ (P k ∨ LocP bl lv k)) := fun hk hn => ⟨(h.own _ hk).1, fun hp => hp.elim (h.own _ hk).2 hn⟩
 have nl : ∀ {k}, ∀ {c : Array Value} {t : Nat} {fz : Nat × Nat}, w.heap[k]? = some (.cells c t fz) → t ≠ 280 → t ≠ 168 → ¬ LocP bl lv k := fun hk h1 h2 hl => by
  rcases hl with rfl | hl
  ·rw [h.lb] at hk; cases hk; exact h1 rfl
  ·obtain ⟨cur, hc⟩ := owns_type h.lo hl; rw [hc] at hk; cases hk; exact h2 rfl
 have nr : ∀ {v : Value} {t z n : Nat} {xs : List Value} {k : Nat}, w.ownsRow w0.heap.size t z v n xs → v.ownBlock = some k → t ≠ 280 → t ≠ 168 → ¬ LocP bl lv k := fun hr hk a b => by
  obtain ⟨cur, hc⟩ := owns_type hr hk
  exact nl hc a b
 refine ⟨h1.old, h1.ev, h1.wd, h1.out, h1.ob, h1.lg, h1.lf, h1.obs, h1.nd, hb, World.ownsRow.mono hr h0, ?_, ?_, ?_, h1.sf⟩
 ·intro k hk
  have new : w.heap.size ≤ k → (w0.heap.size ≤ k ∧ ¬ (P k ∨ LocP bl lv k)) := fun hw => ⟨by omega, fun hp => by
   rcases hp with hp | rfl | hp
   ·have := (h.pl k hp).1; omega
   ·have := lt_of_block h.lb; omega
   ·have := owns_lt h.lo k hp; omega⟩
  rcases hk with rfl | rfl | rfl | hk | hk | hk | hk | ⟨v, hv, hk⟩
  ·exact old (Or.inl rfl) (nl h.ev (by decide) (by decide))
  ·exact old (Or.inr (Or.inl rfl)) (nl h.wd (by decide) (by decide))
  ·exact new hbl
  ·exact old (Or.inr (Or.inr (Or.inr (Or.inl hk)))) (nr h.out hk (by decide) (by decide))
  ·exact old (Or.inr (Or.inr (Or.inr (Or.inr (Or.inl hk))))) (nr h.ob hk (by decide) (by decide))
  ·exact new (hnl k hk)
  ·obtain ⟨c, v, ho⟩ := h.mg hk
   exact old (Or.inr (Or.inr (Or.inr (Or.inr (Or.inr (Or.inr (Or.inl hk))))))) (nl ho (by decide) (by decide))
  ·refine old (Or.inr (Or.inr (Or.inr (Or.inr (Or.inr (Or.inr (Or.inr ⟨v, hv, hk⟩))))))) (fun hl => ?_)
   rcases hl with rfl | hl
   ·obtain ⟨n, xs, ho⟩ := h.mv hv
    obtain ⟨cur, hc⟩ := owns_type ho hk
    rw [h.lb] at hc
    injection hc with hc
    injection hc with _ h2
    exact absurd h2 (by decide)
   ·exact h.sl v hv k hk hl
 ·intro k hk
  rcases hk with hk | hk
  ·exact h1.pl k hk
  ·rcases hk with rfl | hk
   ·exact ⟨lt_of_block h1.lb, fun c fz e => by rw [h1.lb] at e; injection e with e; injection e with _ h2; exact absurd h2 (by decide)⟩
   ·refine ⟨owns_lt h1.lo k hk, fun c fz e => ?_⟩
    obtain ⟨cur, hc⟩ := owns_type h1.lo hk
    rw [hc] at e; injection e with e; injection e with _ h2; exact absurd h2 (by decide)
 ·intro v hv g hg hl
  obtain ⟨n, xs, ho⟩ := h.mv hv
  have := owns_lt ho g hg
  have := hnl g hl
  omega
theorem StQ.leave {Q : Nat → Prop} {bl' : Nat} {lv' vo' vb' : Value} {l' : List V} {gs' : List Nat} {fv' : List Value} {s' : Ev} (h : StQ P w0 w be bw tx inp s bl lv l vo vb gs fv) (h' : StQ Q w0 w' be bw tx inp s' bl' lv' l' vo' vb' gs' fv') (hB : But (FrQ Q w0) w w') (hQ : ∀ k, P k ∨ LocP bl lv k → Q k) : StQ P w0 w' be bw tx inp s' bl lv l vo' vb' gs' fv' := by
 have hQl : ∀ k, LocP bl lv k → ¬ FrQ Q w0 k := fun k hk hf => hf.2 (hQ k (Or.inr hk))
 refine ⟨h'.old, h'.ev, h'.wd, h'.out, h'.ob, h'.lg, h'.lf, h'.obs, h'.nd, (hB.block bl (lt_of_block h.lb) (hQl bl (Or.inl rfl))).trans h.lb, owns_but h.lo hB (fun g hg => hQl g (Or.inr hg)), ?_, fun k hk => h'.pl k (hQ k (Or.inl hk)), ?_, h'.sf⟩
 ·intro k hk
  have new : ∀ {k}, OwnQ be bw bl' vo' vb' lv' gs' fv' k → (w0.heap.size ≤ k ∧ ¬ P k) := fun hk => ⟨(h'.own _ hk).1, fun hp => (h'.own _ hk).2 (hQ _ (Or.inl hp))⟩
  rcases hk with rfl | rfl | rfl | hk | hk | hk | hk | hk
  ·exact new (Or.inl rfl)
  ·exact new (Or.inr (Or.inl rfl))
  ·exact h.k3
  ·exact new (Or.inr (Or.inr (Or.inr (Or.inl hk))))
  ·exact new (Or.inr (Or.inr (Or.inr (Or.inr (Or.inl hk)))))
  ·exact h.k6 hk
  ·exact new (Or.inr (Or.inr (Or.inr (Or.inr (Or.inr (Or.inr (Or.inl hk)))))))
  ·exact new (Or.inr (Or.inr (Or.inr (Or.inr (Or.inr (Or.inr (Or.inr hk)))))))
 ·intro v hv g hg hl
  exact (h'.k8 hv hg).2 (hQ g (Or.inr (Or.inr hl)))
end
end Go.Proofs.YtpfkkmacakjmbaaGreatDoor
