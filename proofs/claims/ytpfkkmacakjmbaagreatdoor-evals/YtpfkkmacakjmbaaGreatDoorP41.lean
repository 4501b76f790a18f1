import Derived.Test.YtpfkkmacakjmbaaGreatDoorP40
import Derived.Test.YtpfkkmacakjmbaaGreatDoorP29
set_option maxRecDepth 100000
set_option maxHeartbeats 6400000
namespace Go.Proofs.YtpfkkmacakjmbaaGreatDoor
open Go Go.RowKit Sp
set_option linter.unusedSimpArgs false
set_option linter.unusedVariables false
theorem toXN_dig {x : Ins} (h : isDigit x.op = true) : (toXN x).op.toNat = 107 ∧ (toXN x).num = x.b := by simp [toXN, h]
theorem toXN_not {x : Ins} (h : 58 ≤ x.op.toNat ∨ x.op.toNat < 48) : (toXN x).op.toNat = x.op.toNat ∧ (toXN x).num = x.b ∧ (x.op.toNat = 110 ∨ x.op.toNat = 120 ∨ x.op.toNat = 103 ∨ x.op.toNat = 112 ∨ x.op.toNat = 99 → (toXN x).cls = UInt8.ofNat (65 + x.a)) := by
 have h1 : isDigit x.op = false := by simp [isDigit]; omega
 simp only [toXN, h1, Bool.false_eq_true, if_false, toXI]
 exact ⟨trivial, trivial, fun h => by rw [if_pos h]⟩
theorem toNat65 {a : Nat} (h : a < 100) : (UInt8.ofNat (65 + a)).toNat = 65 + a := by simp; omega
theorem fldsX_of {cs : List Cls} (hn : cs.length ≤ 4) {a : Nat} (ha : a < cs.length) : fldsX (cs.map toX) (UInt8.ofNat (65 + a)) = fieldsOf cs a := by
 have h1 := toNat65 (a := a) (by omega)
 have h2 : isLet cs.length (UInt8.ofNat (65 + a)) = true := by simp [isLet]; omega
 unfold fldsX
 rw [List.length_map, h2, if_pos rfl, h1, show 65 + a - 65 = a from by omega]
 simp [fieldsOf, toX, Option.map_map, Function.comp_def]
theorem comesX_of {cs : List Cls} (hw : WfC cs) (hn : cs.length ≤ 4) {a c : Nat} (ha : a < cs.length) (hc : c < cs.length) : comesX (cs.map toX) (UInt8.ofNat (65 + a)) (cs.map toX).length (UInt8.ofNat (65 + c)) = under cs 5 c a := by
 have h1 := toNat65 (a := a) (by omega)
 have h2 := toNat65 (a := c) (by omega)
 have k1 : kl (UInt8.ofNat (65 + a)) = a := by simp [kl]; omega
 have k2 : kl (UInt8.ofNat (65 + c)) = c := by simp [kl]; omega
 rw [List.length_map, comes_under hw hn (by simp [isLet]; omega) (by simp [isLet]; omega) (by rw [k2]; omega) (by omega), k1, k2]
section
variable {P : Nat → Prop} {w0 w : World} {be bw tx bl : Nat} {inp : ByteArray} {s : Ev} {lv vo vb : Value} {l : List V} {gs : List Nat} {fv : List Value} {im : Img} {b : Bod} {bf d : Nat} {Xb : XBod} {vl vi : Value}
abbrev itN (x : Ins) (pa : Option Addr) (pl pn pc : Nat) : Value := .agg #[.int .i64 pl, .int .u8 (toXN x).op.toNat, .int .u8 (toXN x).cls.toNat, .int .i64 (toXN x).num, .slice pa pn pc]
theorem edo_leaf {B : Nat} (h : StQ P w0 w be bw tx inp s bl lv l vo vb gs fv) (hF : FrS P w0 w im b bf d Xb vl vi bl) (hT : TextN w0 tx im) (hW : WfIS im) (hs : StT im B s) (h40 : inp.size ≤ 40) (x : Ins) (hx : WfN im.classes im.sigs.length l.length x) (hx0 : arity x.op = 0) (u v : V) (pl pn pc : Nat) (pa : Option Addr) :
  Calls Tryz.prog 156 #[.pointer (some ⟨be, 0, none⟩), .pointer (some ⟨bf, 0, none⟩), itN x pa pl pn pc, xAgg u, xAgg v] w (ReV P w0 w be bw tx inp bl lv (leafV im inp x l s)) := by
 have hn4 := hW.nc
 have hop : isDigit x.op = true ∨ x.op.toNat = 114 ∨ x.op.toNat = 122 ∨ x.op.toNat = 108 ∨ x.op.toNat = 110 := by
  have h1 := hx.op
  simp [nodeLetters] at h1
  rcases h1 with h1 | h1 | h1 | h1 | h1 | h1 | h1 | h1 | h1 | h1 | h1 | h1 | h1 | h1 | h1 | h1 | h1 | h1 | h1 | h1 | h1 | h1 | h1 | h1 | h1 | h1 | h1 | h1 | h1 | h1 <;> simp [arity, h1, isDigit] at hx0 ⊢
 unfold itN
 rcases hop with h1 | h1 | h1 | h1 | h1
 ·obtain ⟨e1, e2⟩ := toXN_dig h1
  have hd : 48 ≤ x.op.toNat ∧ x.op.toNat ≤ 57 := by simpa [isDigit] using h1
  rw [e1, e2, show leafV im inp x l s = .ok (.i x.b) l s from by unfold leafV; rw [if_neg (by omega), if_neg (by omega), if_neg (by omega), if_neg (by omega)]]
  exact edo_rest h u v pl 107 x.b pn pc _ pa _ (by decide) (by decide) (by decide) (by decide) (fun X hX => do_k (h.grown hX) u v pl x.b pn pc _ pa hx.num)
 ·obtain ⟨e1, e2, _⟩ := toXN_not (x := x) (by omega)
  rw [e1, e2, h1, show leafV im inp x l s = _ from by unfold leafV; rw [if_pos h1]]
  exact edo_rest h u v pl 114 x.b pn pc _ pa _ (by decide) (by decide) (by decide) (by decide) (fun X hX => do_r (h.grown hX) h40 u v pl x.b pn pc _ pa)
 ·obtain ⟨e1, e2, _⟩ := toXN_not (x := x) (by omega)
  rw [e1, e2, h1, show leafV im inp x l s = _ from by unfold leafV; rw [if_neg (by omega), if_pos h1]]
  exact edo_rest h u v pl 122 x.b pn pc _ pa _ (by decide) (by decide) (by decide) (by decide) (fun X hX => do_z (h.grown hX) u v pl x.b pn pc _ pa)
 ·obtain ⟨e1, e2, _⟩ := toXN_not (x := x) (by omega)
  have hb := hx.loc (Or.inl h1)
  rw [e1, e2, h1, show leafV im inp x l s = .ok (l.getD x.b .z) l s from by unfold leafV; rw [if_neg (by omega), if_neg (by omega), if_pos h1]]
  exact edo_l h hF u v pl x.b pn pc _ pa _ (by simp [hb])
 ·obtain ⟨e1, e2, e3⟩ := toXN_not (x := x) (by omega)
  have ha := hx.cls (Or.inl h1)
  rw [e1, e2, e3 (Or.inl h1), h1, show leafV im inp x l s = _ from by unfold leafV; rw [if_neg (by omega), if_neg (by omega), if_neg (by omega), if_pos h1]]
  have hf8 : (fieldsOf im.classes x.a).length ≤ 100 := by
   have := flds_len hW.cls hn4 (UInt8.ofNat (65 + x.a))
   rw [fldsX_of hn4 ha] at this
   omega
  exact edo_rest h u v pl 110 x.b pn pc _ pa _ (by decide) (by decide) (by decide) (by decide) (fun X hX => do_n (h.grown hX) (by have := hs.cap; omega) (im.classes.map toX) (by simp; omega) hT.cls ⟨x.a, freshV im.classes x.a⟩ (fieldsOf im.classes x.a) u v pl x.b pn pc _ pa (toNat65 (by omega)) (fldsX_of hn4 ha) hf8 rfl)
theorem edo_one {B : Nat} (h : StQ P w0 w be bw tx inp s bl lv l vo vb gs fv) (hF : FrS P w0 w im b bf d Xb vl vi bl) (hT : TextN w0 tx im) (htab : TabW w0) (hR : Ready im) (hs : StT im B s) (x : Ins) (lo : List UInt8) (hx : WfN im.classes im.sigs.length lo.length x) (hll : LT im.classes s.heap lo l) (hx1 : arity x.op = 1) (ta tt : UInt8) (u v : V) (hu : VT im.classes s.heap ta u) (hnt : nodeT im.classes im.sigs lo x [ta] = some tt) (pl pn pc : Nat) (pa : Option Addr) :
  Calls Tryz.prog 156 #[.pointer (some ⟨be, 0, none⟩), .pointer (some ⟨bf, 0, none⟩), itN x pa pl pn pc, xAgg u, xAgg v] w (ReV P w0 w be bw tx inp bl lv (oneV im x u l s)) := by
 have hW := hR.wf
 have hn4 := hW.nc
 have hcap := hs.cap
 have h4 : s.heap.length ≤ 4000 := by omega
 have hop : x.op.toNat = 115 ∨ x.op.toNat = 103 ∨ x.op.toNat = 120 ∨ x.op.toNat = 119 := by
  unfold arity at hx1
  split at hx1
  ·omega
  ·split at hx1
   ·omega
   ·split at hx1
    ·rename_i h3; simpa using h3
    ·omega
 obtain ⟨e1, e2, e3⟩ := toXN_not (x := x) (by omega)
 unfold itN
 rcases hop with h1 | h1 | h1 | h1
 ·rw [e1, e2, h1, show oneV im x u l s = .ok (.i 0) (l.set x.b u) s from by unfold oneV; rw [if_pos h1]]
  exact edo_s h hF u v pl x.b pn pc _ pa (by rw [hll.len]; exact hx.loc (Or.inr h1))
 ·have hxa := hx.cls (by omega)
  have hxb := hx.fld (by omega)
  simp [nodeT, askT, giveT, Sp.arith, h1] at hnt
  obtain ⟨hf, _⟩ := hnt
  obtain ⟨hC, hC2⟩ := clsT_C (a := x.a) (by omega)
  have hv2 := hu.sub hW.cls hn4 hs.ht (t' := clsT x.a) (fits1 (by simpa using hf)) (by have := isC_iff.1 hC; omega)
  rcases hv2.ref (isR_of_C hC) with rfl | ⟨k, ob, rfl, hk, _, hun⟩
  ·rw [e1, e2, h1, show oneV im x .z l s = .bad 6 s.out from by unfold oneV; simp [h1]]
   exact edo_rest h .z v pl 103 x.b pn pc _ pa _ (by decide) (by decide) (by decide) (by decide) (fun X hX => do_gz (h.grown hX) h4 v pl x.b pn pc _ pa)
  ·rw [hC2] at hun
   obtain ⟨g1, g2⟩ := field_at hR hs hxa hxb hk hun
   obtain ⟨q, hq⟩ : ∃ q, ob.fs[x.b]? = some q := ⟨_, List.getElem?_eq_getElem g1⟩
   rw [e1, e2, h1, show oneV im x (.o k) l s = .ok q l s from by unfold oneV; simp [h1, (Ev.at hk).2, hq]]
   exact edo_rest h (.o k) v pl 103 x.b pn pc _ pa _ (by decide) (by decide) (by decide) (by decide) (fun X hX => do_go (h.grown hX) h4 hk q v pl x.b pn pc _ pa hq)
 ·have hxa := hx.cls (by omega)
  simp [nodeT, askT, giveT, Sp.arith, h1] at hnt
  rcases hu.ref hnt.1 with rfl | ⟨k, ob, rfl, hk, _, hun⟩
  ·rw [e1, e2, h1, show oneV im x .z l s = .ok .z l s from by unfold oneV; simp [h1]]
   exact edo_rest h .z v pl 120 x.b pn pc _ pa _ (by decide) (by decide) (by decide) (by decide) (fun X hX => do_xz (h.grown hX) h4 v pl x.b pn pc _ pa)
  ·have hcl := hs.ht.cls k ob hk
   rw [e1, e2, e3 (by omega), h1, show oneV im x (.o k) l s = (if comesX (im.classes.map toX) (UInt8.ofNat (65 + x.a)) (im.classes.map toX).length (UInt8.ofNat (65 + ob.cls)) = true then .ok (.o k) l s else .bad 8 s.out) from by rw [comesX_of hW.cls hn4 hxa hcl]; unfold oneV; simp [h1, (Ev.at hk).1]]
   exact edo_rest h (.o k) v pl 120 x.b pn pc _ pa _ (by decide) (by decide) (by decide) (by decide) (fun X hX => do_xo (h.grown hX) h4 hk (im.classes.map toX) (by simp; omega) hT.cls _ (toNat65 (by omega)) v pl x.b pn pc _ pa)
 ·simp [nodeT, askT, giveT, Sp.arith, h1] at hnt
  obtain ⟨m, rfl, m1, m2⟩ := (hu.sub hW.cls hn4 hs.ht (t' := 105) (fits1 (by simpa using hnt.1)) (by decide)).int (by decide)
  rw [e1, e2, h1, show oneV im x (.i m) l s = .ok (.i 0) l (s.say m) from by unfold oneV; simp [h1, V.N]]
  exact edo_rest h (.i m) v pl 119 x.b pn pc _ pa _ (by decide) (by decide) (by decide) (by decide) (fun X hX => do_w (h.grown hX) htab m m1 m2 (by have := hs.o; omega) v pl x.b pn pc _ pa)
theorem xO_eq {u v : V} (hu : (∃ n, u = .i n) → False) (hv : (∃ n, v = .i n) → False) : xO u = xO v ↔ u = v := by
 cases u <;> cases v <;> simp [xO] at hu hv ⊢
 all_goals omega
theorem ecall_any {B f : Nat} (IH : NodeQ im inp w0 be bw tx f) (h : StQ P w0 w be bw tx inp s bl lv l vo vb gs fv) (hF : FrS P w0 w im b bf d Xb vl vi bl) (hT : TextN w0 tx im) (hR : Ready im) (hs : StT im B s) (hsf : s.left ≤ f) (hd : d ≤ 12) (x : Ins) (hxa : x.a < im.classes.length) (hxb : x.b < im.sigs.length) (hlk : 0 ≤ findF im.classes im.bodies x.b 5 x.a) (u v : V) (hu : VT im.classes s.heap (clsT x.a) u) (hv' : VT im.classes s.heap (argT im.sigs x.b) v) (pl pn pc : Nat) (c : UInt8) (pa : Option Addr) :
  Calls Tryz.prog 208 #[.pointer (some ⟨be, 0, none⟩), .pointer (some ⟨bf, 0, none⟩), .agg #[.int .i64 pl, .int .u8 99, .int .u8 c.toNat, .int .i64 x.b, .slice pa pn pc], xAgg u, xAgg v] w (ReV P w0 w be bw tx inp bl lv (callV im inp f d x u v l s)) := by
 have hW := hR.wf
 have hn4 := hW.nc
 have hnb := hW.nb
 have hcap := hs.cap
 have h4 : s.heap.length ≤ 4000 := by omega
 obtain ⟨hC, hC2⟩ := clsT_C (a := x.a) (by omega)
 rcases hu.ref (isR_of_C hC) with rfl | ⟨k, ob, rfl, hk, _, hun⟩
 ·exact ecall_bad h hF .z v pl x.b pn pc c pa 6 (by decide) (fun X hX => callee_z (h.new hX) h4 x.b d)
 ·rw [hC2] at hun
  have hcl := hs.ht.cls k ob hk
  obtain ⟨bs, hTB, hBds⟩ := hT.bod
  have hbl : bs.length = im.bodies.length := hBds.1
  have HC := fun X (hX : But (fun _ => False) w X) => callee_o (h.new hX) h4 hk (im.classes.map toX) bs (by simp; omega) (by omega) hT.cls hTB (UInt8.ofNat (65 + ob.cls)) (toNat65 (by omega)) x.b d
  rw [bodyN (tx := tx) hW hBds x.b ob.cls hcl] at HC
  by_cases h12 : 12 ≤ d
  ·rw [show callV im inp f d x (.o k) v l s = .bad 10 s.out from by simp [callV, h12]]
   simp only [h12, if_true] at HC
   exact ecall_bad h hF (.o k) v pl x.b pn pc c pa 10 (by decide) HC
  ·simp only [h12, if_false] at HC
   obtain ⟨f0, hbk, hbm, hme, hc0, hl2, hLT⟩ := callee_typed hR hs hk hxa hxb hun hlk hv'
   rw [(Ev.at hk).1] at hbk f0
   obtain ⟨q, hq⟩ : ∃ q : Nat, findF im.classes im.bodies x.b 5 ob.cls = q := ⟨_, (Int.toNat_of_nonneg f0).symm⟩
   rw [hq] at HC hbk
   simp only [Int.toNat_natCast] at hbk
   have hty := hR.ty _ hbm
   unfold bodyT at hty
   cases ht : typN im.classes im.sigs (calleeV im x k s).locals (calleeV im x k s).code (calleeV im x k s).code.length 0 with
   | none => rw [ht] at hty; cases hty
   | some t =>
   rw [show callV im inp f d x (.o k) v l s = backV l (nodV im inp f (calleeV im x k s) (d + 1) 0 (localsV (calleeV im x k s) [.o k, v]) s) from by
    simp only [callV, h12, if_false]
    cases nodV im inp f (calleeV im x k s) (d + 1) 0 (localsV (calleeV im x k s) [.o k, v]) s <;> rfl]
   exact ecall_go IH hT hs hsf (by omega) _ hbm hbk hnb (hW.bod _ hbm).loc.1 hl2 ht (.o k) v hLT h hF pl x.b pn pc c pa HC
theorem edo_two {B f : Nat} (IH : NodeQ im inp w0 be bw tx f) (h : StQ P w0 w be bw tx inp s bl lv l vo vb gs fv) (hF : FrS P w0 w im b bf d Xb vl vi bl) (hT : TextN w0 tx im) (hR : Ready im) (hs : StT im B s) (hsf : s.left ≤ f) (hd : d ≤ 12) (x : Ins) (lo : List UInt8) (hx : WfN im.classes im.sigs.length lo.length x) (hx2 : arity x.op = 2) (hx111 : x.op.toNat ≠ 111) (hlk : x.op.toNat = 99 → 0 ≤ findF im.classes im.bodies x.b 5 x.a) (ta tc tt : UInt8) (u v : V) (hu : VT im.classes s.heap ta u) (hv' : VT im.classes s.heap tc v) (hnt : nodeT im.classes im.sigs lo x [ta, tc] = some tt) (pl pn pc : Nat) (pa : Option Addr) :
  Calls Tryz.prog 156 #[.pointer (some ⟨be, 0, none⟩), .pointer (some ⟨bf, 0, none⟩), itN x pa pl pn pc, xAgg u, xAgg v] w (ReV P w0 w be bw tx inp bl lv (twoV im (fun b' l' => nodV im inp f b' (d + 1) 0 l' s) d x u v l s)) := by
 have hW := hR.wf
 have hn4 := hW.nc
 have hcap := hs.cap
 have h4 : s.heap.length ≤ 4000 := by omega
 have hop : arith x.op.toNat = true ∨ x.op.toNat = 101 ∨ x.op.toNat = 112 ∨ x.op.toNat = 99 ∨ x.op.toNat = 44 := by
  unfold arity at hx2
  split at hx2
  ·omega
  ·split at hx2
   ·rename_i h3; simp [arith] at h3 ⊢; omega
   ·split at hx2 <;> omega
 have hnd : 58 ≤ x.op.toNat ∨ x.op.toNat < 48 := by
  rcases hop with h1 | h1 | h1 | h1 | h1
  ·simp [Sp.arith] at h1; omega
  ·omega
  ·omega
  ·omega
  ·omega
 obtain ⟨e1, e2, e3⟩ := toXN_not (x := x) hnd
 unfold itN
 rw [e1, e2]
 rcases hop with h1 | h1 | h1 | h1 | h1
 ·have hne : x.op.toNat ≠ 44 ∧ x.op.toNat ≠ 101 ∧ x.op.toNat ≠ 99 ∧ x.op.toNat ≠ 112 ∧ x.op.toNat ≠ 120 ∧ x.op.toNat ≠ 105 ∧ x.op.toNat ≠ 108 ∧ x.op.toNat ≠ 115 ∧ (x.op.toNat = 43 ∨ x.op.toNat = 45 ∨ x.op.toNat = 42 ∨ x.op.toNat = 60 ∨ x.op.toNat = 61 ∨ x.op.toNat = 47) := by
   simp [Sp.arith] at h1; omega
  obtain ⟨n1, n2, n3, n4, n5, n6, n8, n9, n7⟩ := hne
  rw [show twoV im (fun b' l' => nodV im inp f b' (d + 1) 0 l' s) d x u v l s = arithV x.op.toNat u.N v.N l s from by unfold twoV; rw [if_neg n1, if_neg n2, if_neg n3, if_neg n4]]
  have hf : fitsT im.classes [ta, tc] [105, 105] = true := by
   simp [nodeT, askT, h1, n2, n5, n1, n6, hx111] at hnt
   simpa using hnt.1
  obtain ⟨q1, q2⟩ := fits2 hf
  obtain ⟨a, rfl, a1, a2⟩ := (hu.sub hW.cls hn4 hs.ht (t' := 105) q1 (by decide)).int (by decide)
  obtain ⟨b, rfl, b1, b2⟩ := (hv'.sub hW.cls hn4 hs.ht (t' := 105) q2 (by decide)).int (by decide)
  exact edo_rest h (.i a) (.i b) pl x.op.toNat x.b pn pc _ pa _ n1 n8 n9 n3 (fun X hX => do_a (h.grown hX) x.op.toNat n7 a b a1 a2 b1 b2 pl x.b pn pc _ pa)
 ·rw [h1, show twoV im (fun b' l' => nodV im inp f b' (d + 1) 0 l' s) d x u v l s = .ok (if u = v then .i 1 else .i 0) l s from by unfold twoV; rw [if_neg (by omega), if_pos h1]]
  simp [nodeT, askT, giveT, Sp.arith, h1] at hnt
  have hi : ∀ {t : UInt8} {u : V}, VT im.classes s.heap t u → isR t = true → (∃ n, u = .i n) → False := fun hv hr ⟨n, hn⟩ => by
   subst hn
   rcases hv.ref hr with h | ⟨_, _, h, _⟩ <;> cases h
  exact edo_rest h u v pl 101 x.b pn pc _ pa _ (by decide) (by decide) (by decide) (by decide) (fun X hX => do_e (h.grown hX) u v (xO_eq (hi hu hnt.1.1) (hi hv' hnt.1.2)) pl x.b pn pc _ pa)
 ·have hxa := hx.cls (by omega)
  have hxb := hx.fld (by omega)
  simp [nodeT, askT, giveT, Sp.arith, h1] at hnt
  obtain ⟨hf, _⟩ := hnt
  obtain ⟨hC, hC2⟩ := clsT_C (a := x.a) (by omega)
  obtain ⟨q1, q2⟩ := fits2 (by simpa using hf)
  have hu2 := hu.sub hW.cls hn4 hs.ht (t' := clsT x.a) q1 (by have := isC_iff.1 hC; omega)
  rcases hu2.ref (isR_of_C hC) with rfl | ⟨k, ob, rfl, hk, _, hun⟩
  ·rw [h1, show twoV im (fun b' l' => nodV im inp f b' (d + 1) 0 l' s) d x .z v l s = .bad 6 s.out from by unfold twoV; simp [h1]]
   exact edo_rest h .z v pl 112 x.b pn pc _ pa _ (by decide) (by decide) (by decide) (by decide) (fun X hX => do_pz (h.grown hX) h4 v pl x.b pn pc _ pa)
  ·rw [hC2] at hun
   obtain ⟨g1, g2⟩ := field_at hR hs hxa hxb hk hun
   rw [h1, show twoV im (fun b' l' => nodV im inp f b' (d + 1) 0 l' s) d x (.o k) v l s = .ok (.i 0) l (s.put k x.b v) from by unfold twoV; simp [h1]]
   exact edo_rest h (.o k) v pl 112 x.b pn pc _ pa _ (by decide) (by decide) (by decide) (by decide) (fun X hX => do_po (h.grown hX) h4 hk v pl x.b pn pc _ pa g1)
 ·have hxa := hx.cls (by omega)
  have hxb := hx.sig h1
  simp [nodeT, askT, giveT, Sp.arith, h1] at hnt
  obtain ⟨hf, _⟩ := hnt
  obtain ⟨hC, hC2⟩ := clsT_C (a := x.a) (by omega)
  obtain ⟨q1, q2⟩ := fits2 (by simpa using hf)
  have hu2 := hu.sub hW.cls hn4 hs.ht (t' := clsT x.a) q1 (by have := isC_iff.1 hC; omega)
  have hv2 := hv'.sub hW.cls hn4 hs.ht (t' := argT im.sigs x.b) q2 (isTy_45 (arg_ty hR hxb).1)
  rw [h1, show twoV im (fun b' l' => nodV im inp f b' (d + 1) 0 l' s) d x u v l s = callV im inp f d x u v l s from by unfold twoV callV; rw [if_neg (by omega), if_neg (by omega), if_pos h1]; cases u <;> rfl]
  exact edo_c h u v pl x.b pn pc _ pa _ (fun X hX => ecall_any IH (h.grown hX) (hF.grown hX) hT hR hs hsf hd x hxa hxb (hlk h1) u v hu2 hv2 pl pn pc _ pa)
 ·rw [h1, show twoV im (fun b' l' => nodV im inp f b' (d + 1) 0 l' s) d x u v l s = .ok v l s from by unfold twoV; rw [if_pos h1]]
  exact edo_comma h hF u v pl x.b pn pc _ pa
end
end Go.Proofs.YtpfkkmacakjmbaaGreatDoor
namespace Go.Proofs.YtpfkkmacakjmbaaGreatDoor
open Go Go.RowKit Sp
set_option linter.unusedSimpArgs false
set_option linter.unusedVariables false
attribute [local go_sem ↓] Go.wp_at_zero Go.wp_at_succ
structure PaW (w W : World) (pl op n pn pc : Nat) (c : UInt8) (pa : Option Addr) : Prop where
 nb : NB w W
 b0 : W.heap[w.heap.size]? = some (.cells #[.int .i64 pl, .int .u8 op, .int .u8 c.toNat, .int .i64 n, .slice pa pn pc] 219)
 b1 : W.heap[w.heap.size + 1]? = some (.cells #[.int .i32 0, .int .i64 0] 168)
 sz : W.heap.size = w.heap.size + 1 + 1
theorem paW {w : World} {pl op n pn pc : Nat} {c : UInt8} {pa : Option Addr} : PaW w ((w.alloc (.cells #[.int .i64 pl, .int .u8 op, .int .u8 c.toNat, .int .i64 n, .slice pa pn pc] 219)).alloc (.cells #[.int .i32 0, .int .i64 0] 168)) pl op n pn pc c pa :=
 ⟨((NB.refl w).alloc (by decide)).alloc (by decide), ((But.alloc (fun _ => False) _ _).block _ (by simp) (fun h => h)).trans (heap_alloc_new w _), heap_alloc_at (by simp) _, by simp⟩
section
variable {P : Nat → Prop} {w0 w : World} {be bw tx bl : Nat} {inp : ByteArray} {s : Ev} {lv vo vb : Value} {l : List V} {gs : List Nat} {fv : List Value} {im : Img} {b : Bod} {bf d : Nat} {Xb : XBod} {vl vi : Value}
theorem part_none (h : StQ P w0 w be bw tx inp s bl lv l vo vb gs fv) (pl op n pn pc k : Nat) (c : UInt8) (pa : Option Addr) (hk : pn ≤ k) (hk3 : k ≤ 3) :
  Calls Tryz.prog 155 #[.pointer (some ⟨be, 0, none⟩), .pointer (some ⟨bf, 0, none⟩), .agg #[.int .i64 pl, .int .u8 op, .int .u8 c.toNat, .int .i64 n, .slice pa pn pc], .int .i64 k] w (ReV P w0 w be bw tx inp bl lv (.ok .z l s)) := by
 have HH := hid h
 have k1 : ¬ ((k : Int) < 0) := by omega
 have k2 : (pn : Int) ≤ (k : Int) := by omega
 clear h
 go_enter Tryz.func155, Tryz.ntmps155
 go_wp2_with fail
 have hP := paW (w := w) (pl := pl) (op := op) (n := n) (pn := pn) (pc := pc) (c := c) (pa := pa)
 exact retX Tryz.results155 rfl rfl rfl (heap_alloc_at (by simp) _) ⟨hP.nb.but.mono (fun _ _ h => h.elim), vo, vb, gs, fv, rfl, HH.out.new hP.nb.but⟩
theorem part_at {f B F : Nat} {t : UInt8} (IH : NodeQ im inp w0 be bw tx f) (h : StQ P w0 w be bw tx inp s bl lv l vo vb gs fv) (hF : FrS P w0 w im b bf d Xb vl vi bl) (hbm : b ∈ im.bodies) (hs : StT im B s) (hsf : s.left ≤ f) (hd : d ≤ 12) (hll : LT im.classes s.heap b.locals l) (ps : List Nat) (hps : ps.length ≤ 3) (k j : Nat) (hk : ps[k]? = some j) (hty : typN im.classes im.sigs b.locals b.code F j = some t) (pl op n pn pc : Nat) (c : UInt8) (pa : Option Addr) (hrow : w0.ownsRow 0 3 1 (.slice pa pn pc) ps.length (intC ps)) :
  Calls Tryz.prog 155 #[.pointer (some ⟨be, 0, none⟩), .pointer (some ⟨bf, 0, none⟩), .agg #[.int .i64 pl, .int .u8 op, .int .u8 c.toNat, .int .i64 n, .slice pa pn pc], .int .i64 k] w (ReV P w0 w be bw tx inp bl lv (nodV im inp f b d j l s)) := by
 have hkl := (List.getElem?_eq_some_iff.1 hk).1
 obtain ⟨a', cap', hsl⟩ := owns_len hrow
 injection hsl with e1 e2 e3
 subst e1 e2 e3
 obtain ⟨g, rfl, hg1, hg2, hcell⟩ := owns_two hrow (by omega)
 have q0 : w0.cell? ⟨g, k, none⟩ = some (.int .i64 j) := hcell _ _ (by simp [intC, hk])
 replace q0 := (h.old.cell (p := ⟨g, k, none⟩) hg1 (fun h => h)).trans q0
 replace hg1 := Nat.lt_of_lt_of_le hg1 h.old.size
 have HDW := hid (paW (w := w) (pl := pl) (op := op) (n := n) (pn := ps.length) (pc := pc) (c := c) (pa := some ⟨g, 0, none⟩))
 have HC := hid (fun X (hX : NB w X) => IH b d j l s t F B _ X bl lv vo vb gs fv bf Xb vl vi hbm hd hty hll hs hsf (h.grown hX) (hF.grown hX))
 obtain ⟨RR, hRR⟩ : ∃ RR, nodV im inp f b d j l s = RR := ⟨_, rfl⟩
 rw [hRR] at HC ⊢
 have h0 := h.old.size
 have k1 : ¬ ((k : Int) < 0) := by omega
 have k2 : ¬ ((ps.length : Int) ≤ (k : Int)) := by omega
 have k3 : (k : Int) < (ps.length : Int) := by omega
 have hgA : g < w.heap.size + 1 := by omega
 have hgB : g < w.heap.size + 1 + 1 := by omega
 clear h hF hk hrow hcell hRR hty hll hs
 generalize ps.length = np at *
 go_enter Tryz.func155, Tryz.ntmps155
 go_wp2_with fail
 refine (HC.out _ HDW.out.nb).mono ?_
 intro en w1 hre
 obtain ⟨K, N, e, rfl, hfin⟩ := ReV.pass HDW.out.nb h0 hre
 obtain ⟨hr1, hfi⟩ := hfin (w.heap.size + 1) (by omega) ⟨0, 0, HDW.out.b1⟩
 obtain ⟨K9, N9, r0, r1, z0, z1, hrl⟩ := hr1.parts
 have HF := hid hfi
 clear hfi hfin hre HC HDW
 go_wp2_with fail
 exact retX Tryz.results155 rfl rfl rfl (hr1.put _ _) HF.out
end
def bindV : R → (V → List V → Ev → R) → R
 | .bad e o, _ => .bad e o
 | .ok u l s, k => k u l s
theorem faultN_ne {e : Nat} (h1 : 5 ≤ e) (h2 : e ≤ 10) : (faultN e != 0) = true ∧ (faultN e == 0) = false := by
 have : e = 5 ∨ e = 6 ∨ e = 7 ∨ e = 8 ∨ e = 9 ∨ e = 10 := by omega
 rcases this with rfl | rfl | rfl | rfl | rfl | rfl <;> decide
theorem still {w : World} {r : Nat} {K N : Int} {ob : Obj} (h : ResX w r) : (((w.setCell ⟨r, 0, none⟩ (.int .i32 K)).setCell ⟨r, 1, none⟩ (.int .i64 N)).alloc ob).heap[r]? = some (.cells #[.int .i32 K, .int .i64 N] 168) :=
 ((But.alloc (fun _ => False) _ _).block r (lt_of_block (h.put K N)) (fun h => h)).trans (h.put K N)
section
variable {P : Nat → Prop} {w0 w w1 : World} {be bw tx bl : Nat} {inp : ByteArray} {s : Ev} {lv vo vb : Value} {l : List V} {gs : List Nat} {fv : List Value} {im : Img} {b : Bod} {bf d : Nat} {Xb : XBod} {vl vi : Value}
theorem ReV.since {r : R} {en : Ending} {w2 : World} (hB : But (FrQ P w0) w w1) (h : ReV P w0 w1 be bw tx inp bl lv r en w2) : ReV P w0 w be bw tx inp bl lv r en w2 := ⟨hB.trans h.1, h.2⟩
theorem choose_any {f B F : Nat} {t0 t1 t2 : UInt8} (hR : Ready im) (IH : NodeQ im inp w0 be bw tx f) (h : StQ P w0 w be bw tx inp s bl lv l vo vb gs fv) (hF : FrS P w0 w im b bf d Xb vl vi bl) (hbm : b ∈ im.bodies) (hs : StT im B s) (hsf : s.left ≤ f) (hd : d ≤ 12) (hll : LT im.classes s.heap b.locals l) (j0 j1 j2 : Nat) (g0 : typN im.classes im.sigs b.locals b.code F j0 = some t0) (h105 : t0.toNat = 105) (g1 : typN im.classes im.sigs b.locals b.code F j1 = some t1) (g2 : typN im.classes im.sigs b.locals b.code F j2 = some t2) (pl op n pn pc : Nat) (c : UInt8) (pa : Option Addr) (hrow : w0.ownsRow 0 3 1 (.slice pa pn pc) 3 (intC [j0, j1, j2])) :
  Calls Tryz.prog 153 #[.pointer (some ⟨be, 0, none⟩), .pointer (some ⟨bf, 0, none⟩), .agg #[.int .i64 pl, .int .u8 op, .int .u8 c.toNat, .int .i64 n, .slice pa pn pc]] w (ReV P w0 w be bw tx inp bl lv (bindV (nodV im inp f b d j0 l s) (fun u l s => nodV im inp f b d (if u.N = 0 then j2 else j1) l s))) := by
 have HDW := hid (paW (w := w) (pl := pl) (op := op) (n := n) (pn := pn) (pc := pc) (c := c) (pa := pa))
 have HC := hid (fun X (hX : NB w X) => part_at IH (h.grown hX) (hF.grown hX) hbm hs hsf hd hll [j0, j1, j2] (by simp) 0 j0 rfl g0 pl op n pn pc c pa hrow)
 have HTY := hid (nodV_typed hR inp f B b d j0 l s t0 F hbm g0 hll hs hsf)
 obtain ⟨RR, hRR⟩ : ∃ RR, bindV (nodV im inp f b d j0 l s) (fun u l s => nodV im inp f b d (if u.N = 0 then j2 else j1) l s) = RR := ⟨_, rfl⟩
 rw [hRR]
 have HRR := hid hRR
 have h0 := h.old.size
 have HFr := hid hF
 clear h hF hRR hll
 rw [show ((0 : Nat) : Int) = 0 from rfl] at HC
 go_enter Tryz.func153, Tryz.ntmps153
 go_wp2_with fail
 revert HDW
 generalize ((w.alloc (.cells #[.int .i64 pl, .int .u8 op, .int .u8 c.toNat, .int .i64 n, .slice pa pn pc] 219)).alloc (.cells #[.int .i32 0, .int .i64 0] 168)) = W
 intro HDW
 have hD := HDW.out
 have hsz := hD.sz
 have hN := hD.nb
 refine (HC.out W hN).mono ?_
 rintro en w1 ⟨hB1, vo1, vb1, gs1, fv1, hq⟩
 clear HC
 have hFr1 := (HFr.out.grown hN).but hB1
 have pI : PQ P w W w.heap.size := Or.inr ⟨Nat.le_refl _, by omega⟩
 have pR : PQ P w W (w.heap.size + 1) := Or.inr ⟨by omega, by omega⟩
 have d0 := (hB1.block _ (by omega) (fun hf => hf.2 pI)).trans hD.b0
 have hl0 := lt_of_block d0
 have hrX : ResX W (w.heap.size + 1) := ⟨0, 0, hD.b1⟩
 have HT2 := HTY.out
 have HR2 := HRR.out
 cases hn : nodV im inp f b d j0 l s with
 | bad e o =>
  rw [hn] at hq HT2 HR2
  obtain ⟨rfl, s1, l1, ho, hs1⟩ := hq
  subst HR2
  obtain ⟨e1, e2⟩ := faultN_ne HT2.1 HT2.2.1
  have HF := hid (fun a b => StQ.fin hN h0 hs1 hB1 (r := w.heap.size + 1) (by omega) hrX a b)
  have hr0 := hrX.but hB1 (fun hf => hf.2 pR)
  obtain ⟨K9, N9, r0, r1, z0, z1, hrl⟩ := hr0.parts
  have hrlA : w.heap.size + 1 < w1.heap.size + 1 := by omega
  clear HTY HRR HT2 hn HDW hD d0 hs1
  go_wp2_with fail
  exact retX Tryz.results153 rfl rfl rfl (still hr0) ⟨(HF.out _ _).2.1.trans (But.alloc _ _ _), _, _, _, _, rfl, s1, l1, ho, (HF.out _ _).2.2.new (But.alloc _ _ _)⟩
 | ok u l1 s1 =>
  rw [hn] at hq HT2 HR2
  obtain ⟨rfl, hs1⟩ := hq
  obtain ⟨y1, y2, y3, y4, y5⟩ := HT2
  obtain ⟨m, rfl, m1, m2⟩ := y1.int h105
  simp only [bindV, V.N] at HR2
  have hsf1 : s1.left ≤ f := by omega
  have hBA : ∀ ob, But (FrQ (PQ P w W) w0) w1 (w1.alloc ob) := fun ob => But.alloc _ _ _
  have HP1 := hid (fun ob => part_at IH (hs1.new (But.alloc (fun _ => False) w1 ob)) (hFr1.but (hBA ob)) hbm y3 hsf1 hd y2 [j0, j1, j2] (by simp) 1 j1 rfl g1 pl op n pn pc c pa hrow)
  have HP2 := hid (fun ob => part_at IH (hs1.new (But.alloc (fun _ => False) w1 ob)) (hFr1.but (hBA ob)) hbm y3 hsf1 hd y2 [j0, j1, j2] (by simp) 2 j2 rfl g2 pl op n pn pc c pa hrow)
  rw [show ((1 : Nat) : Int) = 1 from rfl] at HP1
  rw [show ((2 : Nat) : Int) = 2 from rfl] at HP2
  have i0 : w1.cell? ⟨w.heap.size, 0, none⟩ = some (.int .i64 pl) := by rw [cell_of_row w1 _ 0 _ _ (0, 0) d0]; rfl
  have i1 : w1.cell? ⟨w.heap.size, 1, none⟩ = some (.int .u8 op) := by rw [cell_of_row w1 _ 1 _ _ (0, 0) d0]; rfl
  have i2 : w1.cell? ⟨w.heap.size, 2, none⟩ = some (.int .u8 c.toNat) := by rw [cell_of_row w1 _ 2 _ _ (0, 0) d0]; rfl
  have i3 : w1.cell? ⟨w.heap.size, 3, none⟩ = some (.int .i64 n) := by rw [cell_of_row w1 _ 3 _ _ (0, 0) d0]; rfl
  have i4 : w1.cell? ⟨w.heap.size, 4, none⟩ = some (.slice pa pn pc) := by rw [cell_of_row w1 _ 4 _ _ (0, 0) d0]; rfl
  clear HTY HRR hn HDW d0 hs1 y1
  simp only [xAgg, xN, xO]
  by_cases hm : m = 0
  ·simp only [hm, if_true] at HR2
   have hmI : (m == 0) = true := by simpa using hm
   rw [HR2] at HP2
   clear HR2 HP1 hm
   go_wp2_with fail
   refine (HP2.out _).mono ?_
   intro en w2 hre
   obtain ⟨K, N, e, rfl, hfin⟩ := ReV.pass hN h0 (hre.since (hB1.trans (hBA _)))
   obtain ⟨hr1, hfi⟩ := hfin (w.heap.size + 1) (by omega) hrX
   obtain ⟨K9, N9, r0, r1, z0, z1, hrl⟩ := hr1.parts
   have HF := hid hfi
   clear hfi hfin hre HP2 i0 i1 i2 i3 i4
   go_wp2_with fail
   exact retX Tryz.results153 rfl rfl rfl (hr1.put _ _) HF.out
  ·simp only [hm, if_false] at HR2
   have hmI : (m == 0) = false := by simpa using hm
   rw [HR2] at HP1
   clear HR2 HP2 hm
   go_wp2_with fail
   refine (HP1.out _).mono ?_
   intro en w2 hre
   obtain ⟨K, N, e, rfl, hfin⟩ := ReV.pass hN h0 (hre.since (hB1.trans (hBA _)))
   obtain ⟨hr1, hfi⟩ := hfin (w.heap.size + 1) (by omega) hrX
   obtain ⟨K9, N9, r0, r1, z0, z1, hrl⟩ := hr1.parts
   have HF := hid hfi
   clear hfi hfin hre HP1 i0 i1 i2 i3 i4
   go_wp2_with fail
   exact retX Tryz.results153 rfl rfl rfl (hr1.put _ _) HF.out
end
def restV (cc dd : List V → Ev → R) (g : Nat) (n : Int) (l : List V) (s : Ev) : R := if n = 0 then .ok (.i 0) l s else bindV (dd l s) (fun _ l s => loopV cc dd g l s)
theorem loopV_ok {cc dd : List V → Ev → R} {g : Nat} {l l1 : List V} {s s1 : Ev} {n : Int} (h : cc l s = .ok (.i n) l1 s1) : loopV cc dd (g + 1) l s = restV cc dd g n l1 s1 := by
 simp only [loopV, h, restV, V.N]
 by_cases h0 : n = 0
 ·simp [h0]
 ·simp only [h0, if_false]
  cases dd l1 s1 <;> rfl
def RepI (P2 : Nat → Prop) (w0 : World) (be bw tx : Nat) (inp : ByteArray) (bl : Nat) (lv : Value) (im : Img) (B : Nat) (lo : List UInt8) (cc dd : List V → Ev → R) (RR : R) (r8 mm : Nat) (e9 : Int) (wr : World) : Prop :=
 (e9 = 0 ∧ ∃ (g : Nat) (n : Int) (l : List V) (s : Ev) (vo vb : Value) (gs : List Nat) (fv : List Value), wr.heap[r8]? = some (.cells #[.int .i32 n, .int .i64 0] 168) ∧ StQ P2 w0 wr be bw tx inp s bl lv l vo vb gs fv ∧ LT im.classes s.heap lo l ∧ StT im B s ∧ s.left ≤ g ∧ g + 1 ≤ mm ∧ RR = restV cc dd g n l s) ∨
 (∃ (e : Nat) (o : List UInt8), e9 = faultN e ∧ 5 ≤ e ∧ e ≤ 10 ∧ RR = .bad e o ∧ ResX wr r8 ∧ ∃ (s : Ev) (l : List V) (vo vb : Value) (gs : List Nat) (fv : List Value), s.out = o ∧ StQ P2 w0 wr be bw tx inp s bl lv l vo vb gs fv)
section
variable {P P2 : Nat → Prop} {w0 w w1 : World} {be bw tx bl : Nat} {inp : ByteArray} {s : Ev} {lv vo vb : Value} {l : List V} {gs : List Nat} {fv : List Value} {im : Img} {b : Bod} {bf d : Nat} {Xb : XBod} {vl vi : Value}
theorem FrS.mono (h : FrS P w0 w im b bf d Xb vl vi bl) (hp : P2 bf) : FrS P2 w0 w im b bf d Xb vl vi bl := ⟨h.fr, hp, h.bd⟩
theorem StQ.lay (h : StQ P w0 w be bw tx inp s bl lv l vo vb gs fv) {r : Nat} (hp : P r) (h0 : w0.heap.size ≤ r) (hx : ResX w r) (K N : Int) : StQ P w0 ((w.setCell ⟨r, 0, none⟩ (.int .i32 K)).setCell ⟨r, 1, none⟩ (.int .i64 N)) be bw tx inp s bl lv l vo vb gs fv :=
 h.tmp (F := (· = r)) (but_put _ _ _ _) (fun k e => by have e : k = r := e; subst e; exact ⟨hp, h0⟩) (fun k e c fz he => by have e : k = r := e; subst e; rw [hx.put] at he; cases he)
theorem StQ.grown1 {c : Array Value} {t : Nat} (h : StQ P w0 w be bw tx inp s bl lv l vo vb gs fv) (ht : t ≠ 5) : StQ (PQ P w (w.alloc (.cells c t))) w0 (w.alloc (.cells c t)) be bw tx inp s bl lv l vo vb gs fv := h.grown ((NB.refl w).alloc ht)
theorem RepI.first {f B F j0 : Nat} {t0 : UInt8} {dd : List V → Ev → R} {en : Ending} (hR : Ready im) (hbm : b ∈ im.bodies) (hs : StT im B s) (hsf : s.left ≤ f) (hll : LT im.classes s.heap b.locals l) (g0 : typN im.classes im.sigs b.locals b.code F j0 = some t0) (h105 : t0.toNat = 105) (hre : ReV P w0 w be bw tx inp bl lv (nodV im inp f b d j0 l s) en w1) :
  ∃ K N e : Int, en = .returned (.tuple #[.agg #[.int .i32 K, .int .i64 N], .int .i64 e]) ∧
   ∀ RR, loopV (nodV im inp f b d j0) dd f l s = RR → RepI (PQ P w1 (w1.alloc (.cells #[.int .i32 K, .int .i64 N] 168))) w0 be bw tx inp bl lv im B b.locals (nodV im inp f b d j0) dd RR w1.heap.size (f + 1) e (w1.alloc (.cells #[.int .i32 K, .int .i64 N] 168)) := by
 obtain ⟨hB, vo, vb, gs, fv, hq⟩ := hre
 have HT := nodV_typed hR inp f B b d j0 l s t0 F hbm g0 hll hs hsf
 cases hn : nodV im inp f b d j0 l s with
 | bad e o =>
  rw [hn] at hq HT
  obtain ⟨rfl, s1, l1, ho, hs1⟩ := hq
  refine ⟨_, _, _, rfl, fun RR hRR => Or.inr ⟨e, o, rfl, HT.1, HT.2.1, ?_, ⟨_, _, heap_alloc_new _ _⟩, s1, l1, vo, vb, gs, fv, ho, hs1.grown1 (by decide)⟩⟩
  rw [← hRR]
  exact loopV_bad (fun h => nodV_zero h) hsf hn
 | ok v l1 s1 =>
  rw [hn] at hq HT
  obtain ⟨rfl, hs1⟩ := hq
  obtain ⟨y1, y2, y3, y4, y5⟩ := HT
  obtain ⟨m, rfl, m1, m2⟩ := y1.int h105
  have hpos : 0 < s.left := by
   rcases Nat.eq_zero_or_pos s.left with h | h
   ·rw [nodV_zero h] at hn; cases hn
   ·exact h
  refine ⟨m, 0, 0, rfl, fun RR hRR => Or.inl ⟨rfl, f - 1, m, l1, s1, vo, vb, gs, fv, heap_alloc_new _ _, hs1.grown1 (by decide), y2, y3, by omega, by omega, ?_⟩⟩
  obtain ⟨g, rfl⟩ : ∃ g, f = g + 1 := ⟨f - 1, by omega⟩
  rw [← hRR]
  exact loopV_ok hn
theorem RepI.next {f B F j0 g r8 mm : Nat} {t0 : UInt8} {dd : List V → Ev → R} {en : Ending} (hR : Ready im) (hbm : b ∈ im.bodies) (hs : StT im B s) (hsf : s.left ≤ g) (hgf : g ≤ f) (hll : LT im.classes s.heap b.locals l) (g0 : typN im.classes im.sigs b.locals b.code F j0 = some t0) (h105 : t0.toNat = 105) (hre : ReV P w0 w be bw tx inp bl lv (nodV im inp f b d j0 l s) en w1) (hp : P r8) (h0 : w0.heap.size ≤ r8) (hx : ResX w1 r8) (hm : g + 1 ≤ mm + 1) :
  ∃ K N e : Int, en = .returned (.tuple #[.agg #[.int .i32 K, .int .i64 N], .int .i64 e]) ∧
   ∀ RR, loopV (nodV im inp f b d j0) dd g l s = RR → RepI P w0 be bw tx inp bl lv im B b.locals (nodV im inp f b d j0) dd RR r8 mm e ((w1.setCell ⟨r8, 0, none⟩ (.int .i32 K)).setCell ⟨r8, 1, none⟩ (.int .i64 N)) := by
 obtain ⟨hB, vo, vb, gs, fv, hq⟩ := hre
 have HT := nodV_typed hR inp f B b d j0 l s t0 F hbm g0 hll hs (by omega)
 cases hn : nodV im inp f b d j0 l s with
 | bad e o =>
  rw [hn] at hq HT
  obtain ⟨rfl, s1, l1, ho, hs1⟩ := hq
  refine ⟨_, _, _, rfl, fun RR hRR => Or.inr ⟨e, o, rfl, HT.1, HT.2.1, ?_, ⟨_, _, hx.put _ _⟩, s1, l1, vo, vb, gs, fv, ho, hs1.lay hp h0 hx _ _⟩⟩
  rw [← hRR]
  exact loopV_bad (fun h => nodV_zero h) hsf hn
 | ok v l1 s1 =>
  rw [hn] at hq HT
  obtain ⟨rfl, hs1⟩ := hq
  obtain ⟨y1, y2, y3, y4, y5⟩ := HT
  obtain ⟨m, rfl, m1, m2⟩ := y1.int h105
  have hpos : 0 < s.left := by
   rcases Nat.eq_zero_or_pos s.left with h | h
   ·rw [nodV_zero h] at hn; cases hn
   ·exact h
  refine ⟨m, 0, 0, rfl, fun RR hRR => Or.inl ⟨rfl, g - 1, m, l1, s1, vo, vb, gs, fv, hx.put _ _, hs1.lay hp h0 hx _ _, y2, y3, by omega, by omega, ?_⟩⟩
  obtain ⟨g', rfl⟩ : ∃ g', g = g' + 1 := ⟨g - 1, by omega⟩
  rw [← hRR]
  exact loopV_ok hn
theorem repeat_any {f B F : Nat} {t0 t1 : UInt8} (hR : Ready im) (IH : NodeQ im inp w0 be bw tx f) (h : StQ P w0 w be bw tx inp s bl lv l vo vb gs fv) (hF : FrS P w0 w im b bf d Xb vl vi bl) (hbm : b ∈ im.bodies) (hs : StT im B s) (hsf : s.left ≤ f) (hd : d ≤ 12) (hll : LT im.classes s.heap b.locals l) (j0 j1 : Nat) (g0 : typN im.classes im.sigs b.locals b.code F j0 = some t0) (h105 : t0.toNat = 105) (g1 : typN im.classes im.sigs b.locals b.code F j1 = some t1) (pl op n pn pc : Nat) (c : UInt8) (pa : Option Addr) (hrow : w0.ownsRow 0 3 1 (.slice pa pn pc) 2 (intC [j0, j1])) :
  Calls Tryz.prog 154 #[.pointer (some ⟨be, 0, none⟩), .pointer (some ⟨bf, 0, none⟩), .agg #[.int .i64 pl, .int .u8 op, .int .u8 c.toNat, .int .i64 n, .slice pa pn pc]] w (ReV P w0 w be bw tx inp bl lv (loopV (nodV im inp f b d j0) (nodV im inp f b d j1) f l s)) := by
 have HDW := hid (paW (w := w) (pl := pl) (op := op) (n := n) (pn := pn) (pc := pc) (c := c) (pa := pa))
 have HC := hid (fun X (hX : NB w X) => part_at IH (h.grown hX) (hF.grown hX) hbm hs hsf hd hll [j0, j1] (by simp) 0 j0 rfl g0 pl op n pn pc c pa hrow)
 obtain ⟨RR, hRR⟩ : ∃ RR, loopV (nodV im inp f b d j0) (nodV im inp f b d j1) f l s = RR := ⟨_, rfl⟩
 rw [hRR]
 have h0 := h.old.size
 have HFr := hid hF
 rw [show ((0 : Nat) : Int) = 0 from rfl] at HC
 go_enter Tryz.func154, Tryz.ntmps154
 go_wp2_with fail
 revert HDW
 generalize ((w.alloc (.cells #[.int .i64 pl, .int .u8 op, .int .u8 c.toNat, .int .i64 n, .slice pa pn pc] 219)).alloc (.cells #[.int .i32 0, .int .i64 0] 168)) = W
 intro HDW
 have hD := HDW.out
 have hsz := hD.sz
 have hN := hD.nb
 refine (HC.out W hN).mono ?_
 intro en w1 hre
 have hB1 := hre.1
 obtain ⟨K, N, e, rfl, hfst⟩ := RepI.first hR hbm hs hsf hll g0 h105 hre
 have HI := hid (hfst RR hRR)
 have hFr0 := HFr.out.grown hN
 have hFr1 := hFr0.but hB1
 have pI : PQ P w W w.heap.size := Or.inr ⟨Nat.le_refl _, by omega⟩
 have pR : PQ P w W (w.heap.size + 1) := Or.inr ⟨by omega, by omega⟩
 have d0 := (hB1.block _ (by omega) (fun hf => hf.2 pI)).trans hD.b0
 have hrX : ResX W (w.heap.size + 1) := ⟨0, 0, hD.b1⟩
 have hl0 := lt_of_block d0
 have hl1 : w.heap.size + 1 < w1.heap.size := Nat.lt_of_lt_of_le (by omega) hB1.size
 clear HC HFr hfst hre hRR h hF HDW
 go_wp2_with fail
 have hBA : But (fun _ => False) w1 (w1.alloc (.cells #[.int .i32 K, .int .i64 N] 168)) := But.alloc _ _ _
 have hsA : (w1.alloc (.cells #[.int .i32 K, .int .i64 N] 168)).heap.size = w1.heap.size + 1 := by simp
 revert HI hBA hsA
 generalize (w1.alloc (.cells #[.int .i32 K, .int .i64 N] 168)) = W2
 intro HI hBA hsA
 obtain ⟨P2, hP2⟩ : ∃ P2 : Nat → Prop, PQ (PQ P w W) w1 W2 = P2 := ⟨_, rfl⟩
 have p1 : ∀ k, PQ P w W k → P2 k := fun k hk => by rw [← hP2]; exact Or.inl hk
 have p8 : P2 w1.heap.size := by rw [← hP2]; exact Or.inr ⟨Nat.le_refl _, by omega⟩
 rw [hP2] at HI
 have hr80 : w0.heap.size ≤ w1.heap.size := by omega
 have hP1 : ∀ {X Y : World}, But (FrQ P2 w0) X Y → But (FrQ (PQ P w W) w0) X Y := fun h => h.mono (fun k _ hf => ⟨hf.1, fun hp => hf.2 (p1 k hp)⟩)
 have hPw : ∀ {Y : World}, But (FrQ (PQ P w W) w0) W Y → But (FrQ P w0) w Y := fun h => (hN.but.mono (fun _ _ h => h.elim)).trans (h.mono (fun k _ hf => ⟨hf.1, fun hp => hf.2 (Or.inl hp)⟩))
 have hBW2 : But (FrQ (PQ P w W) w0) W W2 := hB1.trans (hBA.mono (fun _ _ h => h.elim))
 have hput : ∀ {Y : World} (a b : Int), But (FrQ (PQ P w W) w0) W Y → But (FrQ (PQ P w W) w0) W ((Y.setCell ⟨w1.heap.size, 0, none⟩ (.int .i32 a)).setCell ⟨w1.heap.size, 1, none⟩ (.int .i64 b)) := fun a b h => h.next (but_put _ _ _ _) (fun k hk e => by have e : k = w1.heap.size := e; omega)
 have hFr2 := hFr1.but (hBA.mono (fun _ _ h => h.elim))
 have HFr0 := hid (fun (X : World) (hX : But (FrQ (PQ P w W) w0) W X) => ((hFr0.but hX).mono (p1 _ hFr0.pf) : FrS P2 w0 X im b bf d Xb vl vi bl))
 have HP1 := hid (fun (X : World) (l : List V) (s : Ev) (vo vb : Value) (gs : List Nat) (fv : List Value) (hq : StQ P2 w0 X be bw tx inp s bl lv l vo vb gs fv) (hFX : FrS P2 w0 X im b bf d Xb vl vi bl) (ht : StT im B s) (hl : s.left ≤ f) (hll : LT im.classes s.heap b.locals l) => part_at IH hq hFX hbm ht hl hd hll [j0, j1] (by simp) 1 j1 rfl g1 pl op n pn pc c pa hrow)
 have HP0 := hid (fun (X : World) (l : List V) (s : Ev) (vo vb : Value) (gs : List Nat) (fv : List Value) (hq : StQ P2 w0 X be bw tx inp s bl lv l vo vb gs fv) (hFX : FrS P2 w0 X im b bf d Xb vl vi bl) (ht : StT im B s) (hl : s.left ≤ f) (hll : LT im.classes s.heap b.locals l) => part_at IH hq hFX hbm ht hl hd hll [j0, j1] (by simp) 0 j0 rfl g0 pl op n pn pc c pa hrow)
 rw [show ((1 : Nat) : Int) = 1 from rfl] at HP1
 rw [show ((0 : Nat) : Int) = 0 from rfl] at HP0
 have HD := hid hD
 clear hFr1 hFr2 hB1 hBA hD d0 hs hsf hll hrow IH hP2 hFr0
 go_loopg [9] (f + 1) (fun mm v9 wr => ∃ e9 : Int, v9 = .int .i64 e9 ∧ But (FrQ (PQ P w W) w0) W wr ∧ mm ≤ f + 1 ∧ Hid (RepI P2 w0 be bw tx inp bl lv im B b.locals (nodV im inp f b d j0) (nodV im inp f b d j1) RR w1.heap.size mm e9 wr))
 case atStart => exact ⟨e, rfl, hBW2, Nat.le_refl _, HI⟩
 case round =>
  obtain ⟨e9, rfl, hBr, hgk, HL⟩ := hrel
  clear HI hBW2 hsA
  have d0 := (hBr.block _ (by omega) (fun hf => hf.2 pI)).trans HD.out.b0
  have hr0 := hrX.but hBr (fun hf => hf.2 pR)
  have hl0 := lt_of_block d0
  obtain ⟨Ka, Na, r0, r1, z0, z1, hrl⟩ := hr0.parts
  rcases HL.out with ⟨rfl, g, m, l1, s1, vo1, vb1, gs1, fv1, h8, hs1, y2, y3, hlg, hgm, hRR⟩ | ⟨e, o, rfl, he1, he2, rfl, h8, s1, l1, vo1, vb1, gs1, fv1, ho, hs1⟩
  ·have a0 : wr.cell? ⟨w1.heap.size, 0, none⟩ = some (.int .i32 m) := by rw [cell_of_row wr _ 0 _ _ (0, 0) h8]; rfl
   have hl8 := lt_of_block h8
   by_cases hm : m = 0
   ·subst hm
    have hRR2 : RR = .ok (.i 0) l1 s1 := by rw [hRR]; simp [restV]
    subst hRR2
    have HF := hid (fun a b => StQ.fin hN h0 (hs1.less p1) hBr (r := w.heap.size + 1) (by omega) hrX a b)
    clear hRR HL hs1 h8 HP1 HP0 HFr0 HD d0
    go_wp2_with fail
    exact retX Tryz.results154 rfl rfl rfl (hr0.put _ _) ⟨(HF.out _ _).2.1, _, _, _, _, rfl, (HF.out _ _).2.2⟩
   ·have hRR2 : RR = bindV (nodV im inp f b d j1 l1 s1) (fun _ l s => loopV (nodV im inp f b d j0) (nodV im inp f b d j1) g l s) := by rw [hRR]; simp [restV, hm]
    have hmI : (m != 0) = true := by simpa using hm
    have HC := hid (HP1.out wr l1 s1 vo1 vb1 gs1 fv1 hs1 (HFr0.out wr hBr) y3 (by omega) y2)
    have HTY := hid (nodV_typed hR inp f B b d j1 l1 s1 t1 F hbm g1 y2 y3 (by omega))
    have HRR := hid hRR2
    have h8x : ResX wr w1.heap.size := ⟨_, _, h8⟩
    have i0 : wr.cell? ⟨w.heap.size, 0, none⟩ = some (.int .i64 pl) := by rw [cell_of_row wr _ 0 _ _ (0, 0) d0]; rfl
    have i1 : wr.cell? ⟨w.heap.size, 1, none⟩ = some (.int .u8 op) := by rw [cell_of_row wr _ 1 _ _ (0, 0) d0]; rfl
    have i2 : wr.cell? ⟨w.heap.size, 2, none⟩ = some (.int .u8 c.toNat) := by rw [cell_of_row wr _ 2 _ _ (0, 0) d0]; rfl
    have i3 : wr.cell? ⟨w.heap.size, 3, none⟩ = some (.int .i64 n) := by rw [cell_of_row wr _ 3 _ _ (0, 0) d0]; rfl
    have i4 : wr.cell? ⟨w.heap.size, 4, none⟩ = some (.slice pa pn pc) := by rw [cell_of_row wr _ 4 _ _ (0, 0) d0]; rfl
    clear hRR hRR2 HL hs1 HP1 h8 d0 hm y2 y3 r0 r1 z0 z1
    go_wp2_with fail
    refine HC.out.mono ?_
    rintro en w2 ⟨hB2, vo2, vb2, gs2, fv2, hq⟩
    clear HC i0 i1 i2 i3 i4 a0
    have hBr2 := hBr.trans (hP1 hB2)
    have h8b := h8x.but hB2 (fun hf => hf.2 p8)
    have d0 := (hBr2.block _ (by omega) (fun hf => hf.2 pI)).trans HD.out.b0
    obtain ⟨K8, N8, q0, q1, o0, o1, hl8b⟩ := h8b.parts
    have HT2 := HTY.out
    have HR2 := HRR.out
    cases hn : nodV im inp f b d j1 l1 s1 with
    | bad e o =>
     rw [hn] at hq HT2 HR2
     obtain ⟨rfl, s2, l2, ho, hs2⟩ := hq
     obtain ⟨e1, e2⟩ := faultN_ne HT2.1 HT2.2.1
     have HN : Hid (RepI P2 w0 be bw tx inp bl lv im B b.locals (nodV im inp f b d j0) (nodV im inp f b d j1) RR w1.heap.size g (faultN e) ((w2.setCell ⟨w1.heap.size, 0, none⟩ (.int .i32 0)).setCell ⟨w1.heap.size, 1, none⟩ (.int .i64 0))) := Or.inr ⟨e, o, rfl, HT2.1, HT2.2.1, HR2, ⟨_, _, h8b.put 0 0⟩, s2, l2, vo2, vb2, gs2, fv2, ho, hs2.lay p8 hr80 h8b 0 0⟩
     have hBn := hput 0 0 hBr2
     clear hs2 HTY HRR HR2 HT2 hn d0 hBr2
     go_wp2_with fail
     go_roundg g
     case measure => omega
     case rel => exact ⟨_, rfl, hBn, by omega, HN⟩
    | ok u l2 s2 =>
     rw [hn] at hq HT2 HR2
     obtain ⟨rfl, hs2⟩ := hq
     obtain ⟨x1, x2, x3, x4, x5⟩ := HT2
     simp only [bindV] at HR2
     have hneI : ¬ w.heap.size = w1.heap.size := by omega
     have hneI2 : ¬ w1.heap.size = w.heap.size := by omega
     have hBn := hput (xN u) (xO u) hBr2
     have hs3 := hs2.lay p8 hr80 h8b (xN u) (xO u)
     have hd3 := (hBn.block _ (by omega) (fun hf => hf.2 pI)).trans HD.out.b0
     have hx3 : ResX ((w2.setCell ⟨w1.heap.size, 0, none⟩ (.int .i32 (xN u))).setCell ⟨w1.heap.size, 1, none⟩ (.int .i64 (xO u))) w1.heap.size := ⟨_, _, h8b.put _ _⟩
     have i0 : w2.cell? ⟨w.heap.size, 0, none⟩ = some (.int .i64 pl) := by rw [cell_of_row w2 _ 0 _ _ (0, 0) d0]; rfl
     have i1 : w2.cell? ⟨w.heap.size, 1, none⟩ = some (.int .u8 op) := by rw [cell_of_row w2 _ 1 _ _ (0, 0) d0]; rfl
     have i2 : w2.cell? ⟨w.heap.size, 2, none⟩ = some (.int .u8 c.toNat) := by rw [cell_of_row w2 _ 2 _ _ (0, 0) d0]; rfl
     have i3 : w2.cell? ⟨w.heap.size, 3, none⟩ = some (.int .i64 n) := by rw [cell_of_row w2 _ 3 _ _ (0, 0) d0]; rfl
     have i4 : w2.cell? ⟨w.heap.size, 4, none⟩ = some (.slice pa pn pc) := by rw [cell_of_row w2 _ 4 _ _ (0, 0) d0]; rfl
     have hl02 := lt_of_block d0
     have HC := hid (HP0.out _ l2 s2 vo2 vb2 gs2 fv2 hs3 (HFr0.out _ hBn) x3 (by omega) x2)
     have HR3 := hid HR2
     clear hs2 HTY HRR HR2 hn d0 hBr2 hs3 HP0 HFr0 hd3 x1
     simp only [xAgg]
     go_wp2_with fail
     refine HC.out.mono ?_
     intro en w3 hre
     have h8c := hx3.but hre.1 (fun hf => hf.2 p8)
     obtain ⟨K, N, e, rfl, hnx⟩ := RepI.next (mm := g) hR hbm x3 (by omega) (by omega) x2 g0 h105 hre p8 hr80 h8c (Nat.le_refl _)
     have HN := hid (hnx RR HR3.out.symm)
     have hBm := hput K N (hBn.trans (hP1 hre.1))
     obtain ⟨K8', N8', q0', q1', o0', o1', hl8c⟩ := h8c.parts
     clear hre hnx HC HR3 i0 i1 i2 i3 i4 q0 q1 o0 o1 hx3 h8b
     go_wp2_with fail
     go_roundg g
     case measure => omega
     case rel => exact ⟨_, rfl, hBm, by omega, HN⟩
  ·obtain ⟨e1, e2⟩ := faultN_ne he1 he2
   have HF := hid (fun a b => StQ.fin hN h0 (hs1.less p1) hBr (r := w.heap.size + 1) (by omega) hrX a b)
   clear HL hs1 h8 HP1 HP0 HFr0 HD d0
   go_wp2_with fail
   exact retX Tryz.results154 rfl rfl rfl (hr0.put _ _) ⟨(HF.out _ _).2.1, _, _, _, _, rfl, s1, l1, ho, (HF.out _ _).2.2⟩
end
end Go.Proofs.YtpfkkmacakjmbaaGreatDoor
