import Derived.Test.YtpfkkmacakjmbaaGreatDoorP41
import Derived.Test.YtpfkkmacakjmbaaGreatDoorP16
import Derived.Test.YtpfkkmacakjmbaaGreatDoorP30
set_option maxRecDepth 100000
set_option maxHeartbeats 6400000
namespace Go.Proofs.YtpfkkmacakjmbaaGreatDoor
open Go Go.RowKit Sp
set_option linter.unusedSimpArgs false
set_option linter.unusedVariables false
attribute [local go_sem ↓] Go.wp_at_zero Go.wp_at_succ
def partV (im : Img) (inp : ByteArray) (f : Nat) (b : Bod) (d : Nat) (ps : List Nat) (k : Nat) (l : List V) (s : Ev) : R := match ps[k]? with
 | some j => nodV im inp f b d j l s
 | none => .ok .z l s
def doV (im : Img) (inp : ByteArray) (f d : Nat) (x : Ins) (u v : V) (l : List V) (s : Ev) : R :=
 if arity x.op = 0 then leafV im inp x l s else if arity x.op = 1 then oneV im x u l s else twoV im (fun b' l' => nodV im inp f b' (d + 1) 0 l' s) d x u v l s
theorem typN_lt {cs : List Cls} {gs : List Sig} {lo : List UInt8} {t : List Ins} {F k : Nat} {c : UInt8} (h : typN cs gs lo t F k = some c) : k < t.length := by
 cases F with
 | zero => cases h
 | succ F =>
  simp only [typN] at h
  cases hx : t[k]? with
  | none => rw [hx] at h; cases h
  | some x => exact (List.getElem?_eq_some_iff.1 hx).1
theorem parts_typ {cs : List Cls} {gs : List Sig} {lo : List UInt8} {t : List Ins} {F : Nat} : ∀ {n k : Nat} {ts : List UInt8}, partsT t (typN cs gs lo t F) n k = some ts →
  ts.length = n ∧ (ptsL t n k).length = n ∧ ∀ (q j : Nat), (ptsL t n k)[q]? = some j → ∃ c, ts[q]? = some c ∧ typN cs gs lo t F j = some c := by
 intro n
 induction n with
 | zero => intro k ts h; simp [partsT] at h; subst h; exact ⟨rfl, rfl, fun q j h => by simp [ptsL] at h⟩
 | succ n ih =>
  intro k ts h
  rw [partsT] at h
  cases hc : typN cs gs lo t F k with
  | none => rw [hc] at h; cases h
  | some c =>
   rw [hc] at h
   simp only [Option.map_eq_some_iff] at h
   obtain ⟨ts', h1, rfl⟩ := h
   obtain ⟨a1, a2, a3⟩ := ih h1
   have hk := typN_lt hc
   rw [ptsL, if_pos hk]
   refine ⟨by simp [a1], by simp [a2], fun q j hq => ?_⟩
   cases q with
   | zero => simp at hq; subst hq; exact ⟨c, rfl, hc⟩
   | succ q => simp at hq; simpa using a3 q j hq
theorem ptsN_eq {t : List Ins} {i : Nat} {x : Ins} (h : t[i]? = some x) : ptsN t i = ptsL t (arity x.op) (i + 1) := by simp [ptsN, h]
section
variable {im : Img} {inp : ByteArray} {f : Nat} {b : Bod} {d i : Nat} {l : List V} {s : Ev}
theorem nodV_111 {x : Ins} {sl : Nat} (hx : b.code[i]? = some x) (hsl : s.left = sl + 1) (h : x.op.toNat = 111) : nodV im inp (f + 1) b d i l s = loopV (nodV im inp f b d (i + 1)) (nodV im inp f b d (endN b.code (i + 1))) f l { s with left := sl } := by
 have h1 : arity x.op ≠ 0 := by simp [arity, h]
 simp only [nodV, hx, hsl, Nat.add_sub_cancel]
 rw [if_neg (by omega), if_neg h1, if_pos h]
theorem nodV_105 {x : Ins} {sl : Nat} (hx : b.code[i]? = some x) (hsl : s.left = sl + 1) (h : x.op.toNat = 105) : nodV im inp (f + 1) b d i l s = bindV (nodV im inp f b d (i + 1) l { s with left := sl }) (fun u l s => nodV im inp f b d (if u.N = 0 then endN b.code (endN b.code (i + 1)) else endN b.code (i + 1)) l s) := by
 have h1 : arity x.op ≠ 0 := by simp [arity, h]
 simp only [nodV, hx, hsl, Nat.add_sub_cancel]
 rw [if_neg (by omega), if_neg h1, if_neg (by omega)]
 cases nodV im inp f b d (i + 1) l { s with left := sl } with
 | bad e o => rfl
 | ok u l s => simp only [bindV, h, if_true]
theorem nodV_do {x : Ins} {sl : Nat} (hx : b.code[i]? = some x) (hsl : s.left = sl + 1) (h1 : x.op.toNat ≠ 111) (h2 : x.op.toNat ≠ 105) (hp : (ptsL b.code (arity x.op) (i + 1)).length = arity x.op) :
  nodV im inp (f + 1) b d i l s = bindV (partV im inp f b d (ptsL b.code (arity x.op) (i + 1)) 0 l { s with left := sl }) (fun u l s => bindV (partV im inp f b d (ptsL b.code (arity x.op) (i + 1)) 1 l s) (fun v l s => doV im inp f d x u v l s)) := by
 have har : arity x.op = 0 ∨ arity x.op = 1 ∨ arity x.op = 2 := by
  unfold arity
  rw [if_neg h2]
  split
  ·exact Or.inr (Or.inr rfl)
  ·split
   ·exact Or.inr (Or.inl rfl)
   ·exact Or.inl rfl
 simp only [nodV, hx, hsl, Nat.add_sub_cancel]
 rw [if_neg (by omega)]
 rcases har with har | har | har
 ·rw [if_pos har, har]
  simp [partV, ptsL, bindV, doV, har]
 ·rw [if_neg (by omega), if_neg h1]
  have e0 : (ptsL b.code (arity x.op) (i + 1)) = [i + 1] := by
   rw [har] at hp ⊢
   rw [ptsL] at hp ⊢
   split at hp
   ·rename_i hk; rw [if_pos hk]; rfl
   ·cases hp
  rw [e0]
  simp only [partV, List.getElem?_cons_zero, List.getElem?_cons_succ, List.getElem?_nil]
  cases nodV im inp f b d (i + 1) l { s with left := sl } with
  | bad e o => rfl
  | ok u l s => simp [bindV, h2, har, doV]
 ·rw [if_neg (by omega), if_neg h1]
  have e0 : (ptsL b.code (arity x.op) (i + 1)) = [i + 1, endN b.code (i + 1)] := by
   rw [har] at hp ⊢
   rw [ptsL] at hp ⊢
   split at hp
   ·rename_i hk
    rw [if_pos hk]
    rw [ptsL] at hp ⊢
    split at hp
    ·rename_i hk2; rw [if_pos hk2]; rfl
    ·simp at hp
   ·cases hp
  rw [e0]
  simp only [partV, List.getElem?_cons_zero, List.getElem?_cons_succ]
  cases nodV im inp f b d (i + 1) l { s with left := sl } with
  | bad e o => rfl
  | ok u l s =>
   simp only [bindV, h2, har, if_false]
   rw [if_neg (by omega)]
   cases nodV im inp f b d (endN b.code (i + 1)) l s with
   | bad e o => rfl
   | ok v l s => simp [doV, har]
def PartT (im : Img) (B : Nat) (lo : List UInt8) (ts : List UInt8) (k : Nat) (s0 : Ev) : R → Prop
 | .bad e o => 5 ≤ e ∧ e ≤ 10
 | .ok u l s => LT im.classes s.heap lo l ∧ StT im B s ∧ Ext s0.heap s.heap ∧ s.left ≤ s0.left ∧ ∀ t, ts[k]? = some t → VT im.classes s.heap t u
theorem partV_typed {F B : Nat} {ps : List Nat} {ts : List UInt8} (hR : Ready im) (hbm : b ∈ im.bodies) (hlen : ps.length = ts.length) (hpt : ∀ (q j : Nat), ps[q]? = some j → ∃ c, ts[q]? = some c ∧ typN im.classes im.sigs b.locals b.code F j = some c) (k : Nat) (hll : LT im.classes s.heap b.locals l) (hs : StT im B s) (hsf : s.left ≤ f) : PartT im B b.locals ts k s (partV im inp f b d ps k l s) := by
 unfold partV
 cases hk : ps[k]? with
 | none =>
  refine ⟨hll, hs, Ext.refl _, Nat.le_refl _, fun t ht => ?_⟩
  have := (List.getElem?_eq_some_iff.1 ht).1
  rw [List.getElem?_eq_none_iff] at hk
  omega
 | some j =>
  obtain ⟨c, hc, hty⟩ := hpt k j hk
  have HT := nodV_typed hR inp f B b d j l s c F hbm hty hll hs hsf
  simp only
  cases hn : nodV im inp f b d j l s with
  | bad e o => rw [hn] at HT; exact ⟨HT.1, HT.2.1⟩
  | ok u l1 s1 =>
   rw [hn] at HT
   obtain ⟨y1, y2, y3, y4, y5⟩ := HT
   exact ⟨y2, y3, y4, by omega, fun t ht => by rw [hc] at ht; cases ht; exact y1⟩
end
section
variable {P : Nat → Prop} {w0 w : World} {be bw tx bl : Nat} {inp : ByteArray} {s : Ev} {lv vo vb : Value} {l : List V} {gs : List Nat} {fv : List Value} {im : Img} {b : Bod} {bf d : Nat} {Xb : XBod} {vl vi : Value}
theorem part_any {f B F : Nat} {ps : List Nat} {ts : List UInt8} (IH : NodeQ im inp w0 be bw tx f) (h : StQ P w0 w be bw tx inp s bl lv l vo vb gs fv) (hF : FrS P w0 w im b bf d Xb vl vi bl) (hbm : b ∈ im.bodies) (hs : StT im B s) (hsf : s.left ≤ f) (hd : d ≤ 12) (hll : LT im.classes s.heap b.locals l) (hps : ps.length ≤ 3) (hpt : ∀ (q j : Nat), ps[q]? = some j → ∃ c, ts[q]? = some c ∧ typN im.classes im.sigs b.locals b.code F j = some c) (k : Nat) (hk3 : k ≤ 3) (pl op n pn pc : Nat) (c : UInt8) (pa : Option Addr) (hrow : w0.ownsRow 0 3 1 (.slice pa pn pc) ps.length (intC ps)) :
  Calls Tryz.prog 155 #[.pointer (some ⟨be, 0, none⟩), .pointer (some ⟨bf, 0, none⟩), .agg #[.int .i64 pl, .int .u8 op, .int .u8 c.toNat, .int .i64 n, .slice pa pn pc], .int .i64 k] w (ReV P w0 w be bw tx inp bl lv (partV im inp f b d ps k l s)) := by
 unfold partV
 cases hk : ps[k]? with
 | none =>
  obtain ⟨a', cap', hsl⟩ := owns_len hrow
  injection hsl with e1 e2 e3
  rw [List.getElem?_eq_none_iff] at hk
  exact part_none h pl op n pn pc k c pa (by omega) hk3
 | some j =>
  obtain ⟨c', hc, hty⟩ := hpt k j hk
  exact part_at IH h hF hbm hs hsf hd hll ps hps k j hk hty pl op n pn pc c pa hrow
theorem edo_any {B f : Nat} {ts : List UInt8} {tt : UInt8} (IH : NodeQ im inp w0 be bw tx f) (h : StQ P w0 w be bw tx inp s bl lv l vo vb gs fv) (hF : FrS P w0 w im b bf d Xb vl vi bl) (hT : TextN w0 tx im) (htab : TabW w0) (hR : Ready im) (h40 : inp.size ≤ 40) (hs : StT im B s) (hsf : s.left ≤ f) (hd : d ≤ 12) (x : Ins) (hx : WfN im.classes im.sigs.length b.locals.length x) (hll : LT im.classes s.heap b.locals l) (h111 : x.op.toNat ≠ 111) (h105 : x.op.toNat ≠ 105) (hlk : x.op.toNat = 99 → 0 ≤ findF im.classes im.bodies x.b 5 x.a) (hlen : ts.length = arity x.op) (u v : V) (hu : ∀ t, ts[0]? = some t → VT im.classes s.heap t u) (hv : ∀ t, ts[1]? = some t → VT im.classes s.heap t v) (hnt : nodeT im.classes im.sigs b.locals x ts = some tt) (pl pn pc : Nat) (pa : Option Addr) :
  Calls Tryz.prog 156 #[.pointer (some ⟨be, 0, none⟩), .pointer (some ⟨bf, 0, none⟩), itN x pa pl pn pc, xAgg u, xAgg v] w (ReV P w0 w be bw tx inp bl lv (doV im inp f d x u v l s)) := by
 have har : arity x.op = 0 ∨ arity x.op = 1 ∨ arity x.op = 2 := by
  unfold arity
  rw [if_neg h105]
  split
  ·exact Or.inr (Or.inr rfl)
  ·split
   ·exact Or.inr (Or.inl rfl)
   ·exact Or.inl rfl
 unfold doV
 rcases har with har | har | har
 ·rw [if_pos har]
  exact edo_leaf h hF hT hR.wf hs h40 x (by rw [hll.len]; exact hx) har u v pl pn pc pa
 ·rw [if_neg (by omega), if_pos har]
  match ts, hlen, hu, hnt with
  | [ta], _, hu, hnt => exact edo_one h hF hT htab hR hs x b.locals hx hll har ta tt u v (hu ta rfl) hnt pl pn pc pa
  | [], hl, _, _ => simp at hl; omega
  | _ :: _ :: _, hl, _, _ => simp at hl; omega
 ·rw [if_neg (by omega), if_neg (by omega)]
  match ts, hlen, hu, hv, hnt with
  | [ta, tc], _, hu, hv, hnt => exact edo_two IH h hF hT hR hs hsf hd x b.locals hx har h111 hlk ta tc tt u v (hu ta rfl) (hv tc rfl) hnt pl pn pc pa
  | [], hl, _, _, _ => simp at hl; omega
  | [_], hl, _, _, _ => simp at hl; omega
  | _ :: _ :: _ :: _, hl, _, _, _ => simp at hl; omega
end
theorem ReV.less {P Q : Nat → Prop} {w0 w w1 : World} {be bw tx bl : Nat} {inp : ByteArray} {lv : Value} {r : R} {en : Ending} (h : ReV Q w0 w be bw tx inp bl lv r en w1) (hs : ∀ k, P k → Q k) : ReV P w0 w be bw tx inp bl lv r en w1 := by
 obtain ⟨hB, vo, vb, gs, fv, h⟩ := h
 refine ⟨hB.mono (fun k _ hf => ⟨hf.1, fun hp => hf.2 (hs k hp)⟩), vo, vb, gs, fv, ?_⟩
 cases r with
 | ok u l s => exact ⟨h.1, h.2.less hs⟩
 | bad e o => obtain ⟨a, s, l, b, c⟩ := h; exact ⟨a, s, l, b, c.less hs⟩
theorem pts3 {t : List Ins} {k : Nat} (h1 : k < t.length) (h2 : endN t k < t.length) (h3 : endN t (endN t k) < t.length) : ptsL t 3 k = [k, endN t k, endN t (endN t k)] := by
 simp [ptsL, h1, h2, h3]
theorem pts2 {t : List Ins} {k : Nat} (h1 : k < t.length) (h2 : endN t k < t.length) : ptsL t 2 k = [k, endN t k] := by
 simp [ptsL, h1, h2]
theorem toXN_ne {x : Ins} {k : Nat} (h : x.op.toNat ≠ k) (h1 : k ≠ 107) (h2 : 58 ≤ k) : (toXN x).op.toNat ≠ k := by
 cases hd : isDigit x.op with
 | true => rw [(toXN_dig hd).1]; omega
 | false =>
  rw [(toXN_not (x := x) (by simp [isDigit] at hd; omega)).1]
  exact h
section
variable {P : Nat → Prop} {w0 w : World} {be bw tx bl : Nat} {inp : ByteArray} {s : Ev} {lv vo vb : Value} {l : List V} {gs : List Nat} {fv : List Value} {im : Img} {b : Bod} {bf d i : Nat} {Xb : XBod} {vl vi : Value}
theorem work_spent (h : StQ P w0 w be bw tx inp s bl lv l vo vb gs fv) (h0 : s.left = 0) :
  Calls Tryz.prog 93 #[.pointer (some ⟨be, 0, none⟩), .pointer (some ⟨bf, 0, none⟩), .int .i64 i] w (ReV P w0 w be bw tx inp bl lv (.bad 5 s.out)) := by
 have e2 := h.ev.c2
 have hel := h.ev.lt
 rw [h0] at e2
 have e2' : w.cell? ⟨be, 2, none⟩ = some (.int .i64 0) := e2
 have HH := hid h
 clear e2 h h0
 go_enter Tryz.func93, Tryz.ntmps93
 go_wp2_with fail
 exact retX Tryz.results93 rfl rfl rfl (heap_alloc_new _ _) ⟨But.alloc _ _ _, vo, vb, gs, fv, rfl, s, l, rfl, HH.out.new (But.alloc _ _ _)⟩
end
theorem work_step {f : Nat} (w0 : World) (be bw tx : Nat) (inp : ByteArray) (h40 : inp.size ≤ 40) (im : Img) (hT : TextN w0 tx im) (htab : TabW w0) (hR : Ready im) (IH : NodeQ im inp w0 be bw tx f) : NodeQ im inp w0 be bw tx (f + 1) := by
 intro b d i l s t F B P w bl lv vo vb gs fv bf X vl vi hbm hd htn hll hs hsf h hF
 by_cases h0 : s.left = 0
 ·rw [nodV_zero h0]
  exact work_spent h h0
 have hW := hR.wf
 have hil := typN_lt htn
 cases F with
 | zero => cases htn
 | succ F =>
 simp only [typN] at htn
 obtain ⟨x, hx⟩ : ∃ x, b.code[i]? = some x := ⟨_, List.getElem?_eq_getElem hil⟩
 rw [hx] at htn
 simp only at htn
 have hwb := hW.bod b hbm
 have hxm : x ∈ b.code := List.mem_of_getElem? hx
 have hwx := hwb.code x hxm
 cases hp : partsT b.code (typN im.classes im.sigs b.locals b.code F) (arity x.op) (i + 1) with
 | none => rw [hp] at htn; cases htn
 | some ts =>
 rw [hp] at htn
 simp only at htn
 obtain ⟨hts, hpl, hpt⟩ := parts_typ hp
 obtain ⟨sl, hsl⟩ : ∃ sl, s.left = sl + 1 := ⟨s.left - 1, by omega⟩
 have hs1 : StT im (B - 22) { s with left := sl } := ⟨hs.ht, by have := hs.cap; simp; omega, by have := hs.outn; simp; omega, by have := hs.bb; omega, by have := hs.rd; simp; omega⟩
 have hsf1 : sl ≤ f := by omega
 -- the item
 have hlx : X.items.length = b.code.length := hF.bd.bd.its.len
 obtain ⟨xi, hxi⟩ : ∃ xi, X.items[i]? = some xi := ⟨_, List.getElem?_eq_getElem (by omega)⟩
 obtain ⟨z1, z2, z3, z4, hrow⟩ := hF.bd.bd.its.at' i x xi hx hxi
 rw [ptsN_eq hx] at hrow
 obtain ⟨ps, hps⟩ : ∃ ps, ptsL b.code (arity x.op) (i + 1) = ps := ⟨_, rfl⟩
 have hpl' := hpl
 rw [hps] at hpl hpt hrow
 obtain ⟨RR, hRR⟩ : ∃ RR, nodV im inp (f + 1) b d i l s = RR := ⟨_, rfl⟩
 rw [hRR]
 have har3 : arity x.op ≤ 3 := by unfold arity; split; omega; split; omega; split <;> omega
 have hcl := hwb.len
 -- the fuel
 have hBf : But (FrQ P w0) w (w.setCell ⟨be, 2, none⟩ (.int .i64 sl)) := (But.setB w be 2 _).mono (fun k _ e => by have e : k = be := e; subst e; exact h.k1)
 have hf := h.fuel sl
 have hFf := hF.but hBf
 have e2 := h.ev.c2
 have y2 := h.ev.fz 2
 rw [hsl] at e2
 have e2' : w.cell? ⟨be, 2, none⟩ = some (.int .i64 ((sl : Int) + 1)) := by rw [e2]; simp
 have hel := h.ev.lt
 have hslI : ¬ ((sl : Int) + 1 ≤ 0) := by omega
 have hgA : be < w.heap.size + 1 := by omega
 have hsl4 : sl ≤ 4000 := by have := hs.cap; omega
 obtain ⟨a0, a1, a2, a3, a4, a5, a6, hbf⟩ := hF.cells
 have hne : ¬ be = bf := fun e => h.k1.2 (e ▸ hF.pf)
 have hne2 : ¬ bf = be := fun e => hne e.symm
 have hbfA : bf < w.heap.size + 1 := by omega
 have HIT := hid (fun (Y : World) (hY : But (fun _ => False) w0 Y) => itemAt_any X.cls X.meth X.ans vl vi X.items i xi Y (owns_but hF.bd.it hY (fun _ _ h => h)) hxi (by omega))
 have h0w := h.old.size
 have HX := hid (And.intro hx (And.intro hsl (And.intro htn (And.intro hps hRR))))
 have HZ := hid (And.intro z1 (And.intro z2 (And.intro z3 z4)))
 have HPT := hid hpt
 have HP := hid hp
 have HX2 := hid hx
 have Hf := hid hf
 have HFf := hid hFf
 have HBf := hid hBf
 clear e2 hx hsl htn hps hRR hpt hf hFf hBf hp h hF hxi z1 z2 z3 z4 h0 hxm
 go_enter Tryz.func93, Tryz.ntmps93
 go_wp2_with fail
 have hwa : NB (w.setCell ⟨be, 2, none⟩ (.int .i64 sl)) ((w.setCell ⟨be, 2, none⟩ (.int .i64 sl)).alloc (.cells #[.int .i32 0, .int .i64 0] 168)) := (NB.refl _).alloc (by decide)
 have hga : ResX ((w.setCell ⟨be, 2, none⟩ (.int .i64 sl)).alloc (.cells #[.int .i32 0, .int .i64 0] 168)) w.heap.size := ⟨0, 0, heap_alloc_at (by simp [size_setCell]) _⟩
 have hsz : (w.setCell ⟨be, 2, none⟩ (.int .i64 sl)).heap.size = w.heap.size := size_setCell _ _ _
 revert Hf HFf HBf hwa hga hsz
 generalize (w.setCell ⟨be, 2, none⟩ (.int .i64 sl)) = wf
 intro Hf HFf HBf hwa hga hsz
 revert hwa hga
 generalize (wf.alloc (.cells #[.int .i32 0, .int .i64 0] 168)) = wa
 intro hwa hga
 refine (HIT.out wa (Hf.out.old.trans hwa.but)).mono ?_
 rintro en w2 ⟨rfl, hN2⟩
 obtain ⟨z1, z2, z3, z4⟩ := HZ.out
 have hN12 : NB wf w2 := ⟨hwa.but.trans hN2.but, fun k a b c fz e => by
  rcases Nat.lt_or_ge k wa.heap.size with hk | hk
  ·rw [hN2.but.block k hk (fun h => h)] at e; exact hwa.nb k a hk c fz e
  ·exact hN2.nb k hk b c fz e⟩
 have hg2 : ResX w2 w.heap.size := hga.but hN2.but (fun h => h)
 unfold itAgg
 rw [z1, z2, z3, z4]
 clear HIT HZ z1 z2 z3 z4 hwa hN2 hga wa a0 a1 a2 a3 a4 a5 a6 e2' y2
 generalize hop : (toXN x).op.toNat = op
 generalize hcc : (toXN x).cls = cc
 generalize hnn : (toXN x).num = nn
 generalize hpp : (toXN x).place = pp
 obtain ⟨hx, hsl, htn, hps, hRR⟩ := HX.out
 have hN3 : ∀ c, NB wf (w2.alloc (.cells c 219)) := fun c => hN12.alloc (by decide)
 by_cases h105 : x.op.toNat = 105
 ·have hop5 : ((op : Int) == 105) = true := tst (by rw [← hop, (toXN_not (x := x) (by omega)).1, h105])
  have har : arity x.op = 3 := by simp [arity, h105]
  rw [nodV_105 hx hsl h105] at hRR
  have hp := HP.out
  rw [har] at hp hps
  obtain ⟨t0, t1, t2, g0, g1, g2, rfl⟩ := partsT3 hp
  simp [nodeT, askT, giveT, Sp.arith, h105] at htn
  rw [pts3 (typN_lt g0) (typN_lt g1) (typN_lt g2)] at hps
  subst hps
  have HC := hid (fun c => choose_any hR IH (Hf.out.grown (hN3 c)) (HFf.out.grown (hN3 c)) hbm hs1 hsf1 hd hll _ _ _ g0 htn.1.1 g1 g2 pp op nn xi.pn xi.pc cc xi.pa hrow)
  rw [hRR] at HC
  clear HX hx hsl htn hRR HP hp g0 g1 g2 hts hpl hpl' HPT Hf HFf hrow
  go_wp2_with fail
  refine (HC.out _).mono ?_
  intro en w4 hre
  obtain ⟨K, N, e, rfl, hfin⟩ := ReV.pass (hN3 _) (by omega) hre
  obtain ⟨hr1, hfi⟩ := hfin w.heap.size (by omega) (hg2.but (But.alloc (fun _ => False) _ _) (fun h => h))
  obtain ⟨K9, N9, r0, r1, f0, f1, hrl⟩ := hr1.parts
  have HF := hid (hfi.since HBf.out)
  clear hfi hfin hre HC
  go_wp2_with fail
  exact retX Tryz.results93 rfl rfl rfl (hr1.put _ _) HF.out
 have hop5 : ((op : Int) == 105) = false := tsf (k := 105) (by rw [← hop]; exact toXN_ne h105 (by omega) (by omega))
 by_cases h111 : x.op.toNat = 111
 ·have hop1 : ((op : Int) == 111) = true := tst (by rw [← hop, (toXN_not (x := x) (by omega)).1, h111])
  have har : arity x.op = 2 := by simp [arity, h111]
  rw [nodV_111 hx hsl h111] at hRR
  have hp := HP.out
  rw [har] at hp hps
  obtain ⟨t0, t1, g0, g1, rfl⟩ := partsT2 hp
  simp [nodeT, askT, giveT, Sp.arith, h111] at htn
  rw [pts2 (typN_lt g0) (typN_lt g1)] at hps
  subst hps
  have HC := hid (fun c => repeat_any hR IH (Hf.out.grown (hN3 c)) (HFf.out.grown (hN3 c)) hbm hs1 hsf1 hd hll _ _ g0 htn.1 g1 pp op nn xi.pn xi.pc cc xi.pa hrow)
  rw [hRR] at HC
  clear HX hx hsl htn hRR HP hp g0 g1 hts hpl hpl' HPT Hf HFf hrow
  go_wp2_with fail
  refine (HC.out _).mono ?_
  intro en w4 hre
  obtain ⟨K, N, e, rfl, hfin⟩ := ReV.pass (hN3 _) (by omega) hre
  obtain ⟨hr1, hfi⟩ := hfin w.heap.size (by omega) (hg2.but (But.alloc (fun _ => False) _ _) (fun h => h))
  obtain ⟨K9, N9, r0, r1, f0, f1, hrl⟩ := hr1.parts
  have HF := hid (hfi.since HBf.out)
  clear hfi hfin hre HC
  go_wp2_with fail
  exact retX Tryz.results93 rfl rfl rfl (hr1.put _ _) HF.out
 have hop1 : ((op : Int) == 111) = false := tsf (k := 111) (by rw [← hop]; exact toXN_ne h111 (by omega) (by omega))
 rw [nodV_do hx hsl h111 h105 hpl', hps] at hRR
 have hpl3 : ps.length ≤ 3 := by omega
 have hlt : ps.length = ts.length := by omega
 have HRR := hid hRR
 have HTN := hid htn
 have hsz2 := hN12.but.size
 have hIt := heap_alloc_new w2 (.cells #[.int .i64 pp, .int .u8 op, .int .u8 cc.toNat, .int .i64 nn, .slice xi.pa xi.pn xi.pc] 219)
 have hW3s : (w2.alloc (.cells #[.int .i64 pp, .int .u8 op, .int .u8 cc.toNat, .int .i64 nn, .slice xi.pa xi.pn xi.pc] 219)).heap.size = w2.heap.size + 1 := by simp
 have hN4 := hN3 #[.int .i64 pp, .int .u8 op, .int .u8 cc.toNat, .int .i64 nn, .slice xi.pa xi.pn xi.pc]
 have hg3 := hg2.but (But.alloc (fun _ => False) w2 (.cells #[.int .i64 pp, .int .u8 op, .int .u8 cc.toNat, .int .i64 nn, .slice xi.pa xi.pn xi.pc] 219)) (fun h => h)
 have HIA := hid (fun (X : World) (hX : X = w2.alloc (.cells #[.int .i64 pp, .int .u8 op, .int .u8 cc.toNat, .int .i64 nn, .slice xi.pa xi.pn xi.pc] 219)) => hX)
 clear HX hx hsl htn hps hRR HP hN3 HIA hg2
 go_wp2_with fail
 revert hIt hW3s hN4 hg3
 generalize (w2.alloc (.cells #[.int .i64 pp, .int .u8 op, .int .u8 cc.toNat, .int .i64 nn, .slice xi.pa xi.pn xi.pc] 219)) = W3
 intro hIt hW3s hN4 hg3
 have h3 := Hf.out.grown hN4
 have hF3 := HFf.out.grown hN4
 obtain ⟨P3, hP3⟩ : ∃ P3 : Nat → Prop, PQ P wf W3 = P3 := ⟨_, rfl⟩
 have pI : P3 w2.heap.size := by rw [← hP3]; exact Or.inr ⟨by omega, by omega⟩
 have pR : P3 w.heap.size := by rw [← hP3]; exact Or.inr ⟨by omega, by omega⟩
 have pF := hF3.pf
 rw [hP3] at h3 hF3 pF
 have HC0 := hid (part_any (s := { s with left := sl }) IH h3 hF3 hbm hs1 hsf1 hd hll hpl3 HPT.out 0 (by omega) pp op nn xi.pn xi.pc cc xi.pa hrow)
 have HT0 := hid (partV_typed (inp := inp) (d := d) (s := { s with left := sl }) hR hbm hlt HPT.out 0 hll hs1 hsf1)
 rw [show ((0 : Nat) : Int) = 0 from rfl] at HC0
 refine HC0.out.mono ?_
 rintro en w4 ⟨hB4, vo4, vb4, gs4, fv4, hq⟩
 have hF4 := hF3.but hB4
 have d0 := (hB4.block _ (lt_of_block hIt) (fun hf => hf.2 pI)).trans hIt
 have hl0 := lt_of_block d0
 have hr4 := hg3.but hB4 (fun hf => hf.2 pR)
 have HT2 := HT0.out
 have HR2 := HRR.out
 clear HC0 hF3 h3
 cases hn : partV im inp f b d ps 0 l { s with left := sl } with
 | bad e o =>
  rw [hn] at hq HT2 HR2
  obtain ⟨rfl, s4, l4, ho, hs4⟩ := hq
  subst HR2
  obtain ⟨e1, e2⟩ := faultN_ne HT2.1 HT2.2
  have HF := hid (fun a b => StQ.fin hN4 (by omega) (hP3 ▸ hs4) (hP3 ▸ hB4) (r := w.heap.size) (by omega) hg3 a b)
  obtain ⟨K9, N9, r0, r1, z0, z1, hrl⟩ := hr4.parts
  have hrlA : w.heap.size < w4.heap.size + 1 := by omega
  clear HT0 HRR HT2 hn d0 hs4 hIt HTN HPT Hf HFf
  go_wp2_with fail
  exact retX Tryz.results93 rfl rfl rfl (still hr4) ⟨HBf.out.trans ((HF.out _ _).2.1.trans (But.alloc _ _ _)), _, _, _, _, rfl, s4, l4, ho, (HF.out _ _).2.2.new (But.alloc _ _ _)⟩
 | ok u l4 s4 =>
  rw [hn] at hq HT2 HR2
  obtain ⟨rfl, hs4⟩ := hq
  obtain ⟨y1, y2, y3, y4, y5⟩ := HT2
  simp only at y3 y4
  simp only [bindV] at HR2
  have HR3 := hid HR2
  have i0 : w4.cell? ⟨w2.heap.size, 0, none⟩ = some (.int .i64 pp) := by rw [cell_of_row w4 _ 0 _ _ (0, 0) d0]; rfl
  have i1 : w4.cell? ⟨w2.heap.size, 1, none⟩ = some (.int .u8 op) := by rw [cell_of_row w4 _ 1 _ _ (0, 0) d0]; rfl
  have i2 : w4.cell? ⟨w2.heap.size, 2, none⟩ = some (.int .u8 cc.toNat) := by rw [cell_of_row w4 _ 2 _ _ (0, 0) d0]; rfl
  have i3 : w4.cell? ⟨w2.heap.size, 3, none⟩ = some (.int .i64 nn) := by rw [cell_of_row w4 _ 3 _ _ (0, 0) d0]; rfl
  have i4 : w4.cell? ⟨w2.heap.size, 4, none⟩ = some (.slice xi.pa xi.pn xi.pc) := by rw [cell_of_row w4 _ 4 _ _ (0, 0) d0]; rfl
  have h5 := hs4.grown1 (c := #[.int .i32 (xN u), .int .i64 (xO u)]) (t := 168) (by decide)
  have hW5s : (w4.alloc (.cells #[.int .i32 (xN u), .int .i64 (xO u)] 168)).heap.size = w4.heap.size + 1 := by simp
  have hB5 : But (fun _ => False) w4 (w4.alloc (.cells #[.int .i32 (xN u), .int .i64 (xO u)] 168)) := But.alloc _ _ _
  have hb5 := heap_alloc_new w4 (.cells #[.int .i32 (xN u), .int .i64 (xO u)] 168)
  clear HR2 HT0 HRR hn
  simp only [xAgg]
  go_wp2_with fail
  revert h5 hW5s hB5 hb5
  generalize (w4.alloc (.cells #[.int .i32 (xN u), .int .i64 (xO u)] 168)) = W5
  intro h5 hW5s hB5 hb5
  clear i0 i1 i2 i3 i4
  obtain ⟨P5, hP5⟩ : ∃ P5 : Nat → Prop, PQ P3 w4 W5 = P5 := ⟨_, rfl⟩
  have p35 : ∀ k, P3 k → P5 k := fun k hk => by rw [← hP5]; exact Or.inl hk
  have pU : P5 w4.heap.size := by rw [← hP5]; exact Or.inr ⟨by omega, by omega⟩
  rw [hP5] at h5
  have hF5 : FrS P5 w0 W5 im b bf d X vl vi bl := (hF4.but (hB5.mono (fun _ _ h => h.elim))).mono (p35 _ pF)
  have hsf4 : s4.left ≤ f := by omega
  have HC1 := hid (part_any IH h5 hF5 hbm y2 hsf4 hd y1 hpl3 HPT.out 1 (by omega) pp op nn xi.pn xi.pc cc xi.pa hrow)
  have HT1 := hid (partV_typed (inp := inp) (d := d) hR hbm hlt HPT.out 1 y1 y2 hsf4)
  rw [show ((1 : Nat) : Int) = 1 from rfl] at HC1
  refine HC1.out.mono ?_
  rintro en w6 ⟨hB6, vo6, vb6, gs6, fv6, hq⟩
  have hF6 := hF5.but hB6
  have d5 := (hB5.block _ hl0 (fun h => h)).trans d0
  have d6 := (hB6.block _ (lt_of_block d5) (fun hf => hf.2 (p35 _ pI))).trans d5
  have b6 := (hB6.block _ (lt_of_block hb5) (fun hf => hf.2 pU)).trans hb5
  have hl6 := lt_of_block d6
  have hl7 := lt_of_block b6
  have hr6 := (hr4.but hB5 (fun h => h)).but hB6 (fun hf => hf.2 (p35 _ pR))
  have hB36 : But (FrQ P3 w0) W3 w6 := (hB4.trans (hB5.mono (fun _ _ h => h.elim))).trans (hB6.mono (fun k _ hf => ⟨hf.1, fun hp => hf.2 (p35 k hp)⟩))
  have HT2 := HT1.out
  have HR4 := HR3.out
  clear HC1 HR3 HT1 h5 hF5 d5 d0 hb5 hs4
  cases hn : partV im inp f b d ps 1 l4 s4 with
  | bad e o =>
   rw [hn] at hq HT2 HR4
   obtain ⟨rfl, s6, l6, ho, hs6⟩ := hq
   subst HR4
   obtain ⟨e1, e2⟩ := faultN_ne HT2.1 HT2.2
   have HF := hid (fun a b => StQ.fin hN4 (by omega) (hP3 ▸ hs6.less p35) (hP3 ▸ hB36) (r := w.heap.size) (by omega) hg3 a b)
   obtain ⟨K9, N9, r0, r1, z0, z1, hrl⟩ := hr6.parts
   have hrlA : w.heap.size < w6.heap.size + 1 := by omega
   clear HT2 hn hs6 HTN HPT Hf HFf d6 b6 y5
   go_wp2_with fail
   exact retX Tryz.results93 rfl rfl rfl (still hr6) ⟨HBf.out.trans ((HF.out _ _).2.1.trans (But.alloc _ _ _)), _, _, _, _, rfl, s6, l6, ho, (HF.out _ _).2.2.new (But.alloc _ _ _)⟩
  | ok v l6 s6 =>
   rw [hn] at hq HT2 HR4
   obtain ⟨rfl, hs6⟩ := hq
   obtain ⟨x1, x2, x3, x4, x5⟩ := HT2
   simp only [bindV] at HR4
   have hsf6 : s6.left ≤ f := by omega
   have HD := hid (fun ob => edo_any IH (hs6.new (But.alloc (fun _ => False) w6 ob)) (hF6.but (But.alloc _ w6 ob)) hT htab hR h40 x2 hsf6 hd x hwx x1 h111 h105 (hR.lk b hbm x (List.mem_of_getElem? HX2.out)) hts u v (fun t ht => (y5 t ht).ext x3) x5 HTN.out pp xi.pn xi.pc xi.pa)
   unfold itN at HD
   rw [hop, hcc, hnn, HR4] at HD
   have i0 : w6.cell? ⟨w2.heap.size, 0, none⟩ = some (.int .i64 pp) := by rw [cell_of_row w6 _ 0 _ _ (0, 0) d6]; rfl
   have i1 : w6.cell? ⟨w2.heap.size, 1, none⟩ = some (.int .u8 op) := by rw [cell_of_row w6 _ 1 _ _ (0, 0) d6]; rfl
   have i2 : w6.cell? ⟨w2.heap.size, 2, none⟩ = some (.int .u8 cc.toNat) := by rw [cell_of_row w6 _ 2 _ _ (0, 0) d6]; rfl
   have i3 : w6.cell? ⟨w2.heap.size, 3, none⟩ = some (.int .i64 nn) := by rw [cell_of_row w6 _ 3 _ _ (0, 0) d6]; rfl
   have i4 : w6.cell? ⟨w2.heap.size, 4, none⟩ = some (.slice xi.pa xi.pn xi.pc) := by rw [cell_of_row w6 _ 4 _ _ (0, 0) d6]; rfl
   have u0 : w6.cell? ⟨w4.heap.size, 0, none⟩ = some (.int .i32 (xN u)) := by rw [cell_of_row w6 _ 0 _ _ (0, 0) b6]; rfl
   have u1 : w6.cell? ⟨w4.heap.size, 1, none⟩ = some (.int .i64 (xO u)) := by rw [cell_of_row w6 _ 1 _ _ (0, 0) b6]; rfl
   have hlA : w2.heap.size < w6.heap.size + 1 := by omega
   have hlB : w4.heap.size < w6.heap.size + 1 := by omega
   clear HR4 hn hs6 HTN HPT Hf HFf d6 b6 y5 x5
   simp only [xAgg] at HD ⊢
   go_wp2_with fail
   refine (HD.out _).mono ?_
   intro en w8 hre
   obtain ⟨K, N, e, rfl, hfin⟩ := ReV.pass hN4 (by omega) (hP3 ▸ (hre.less p35).since (hB36.trans (But.alloc _ _ _)))
   obtain ⟨hr1, hfi⟩ := hfin w.heap.size (by omega) hg3
   obtain ⟨K9, N9, r0, r1, f0, f1, hrl⟩ := hr1.parts
   have HF := hid (hfi.since HBf.out)
   clear hfi hfin hre HD i0 i1 i2 i3 i4 u0 u1
   go_wp2_with fail
   exact retX Tryz.results93 rfl rfl rfl (hr1.put _ _) HF.out
theorem work_all (w0 : World) (be bw tx : Nat) (inp : ByteArray) (h40 : inp.size ≤ 40) (im : Img) (hT : TextN w0 tx im) (htab : TabW w0) (hR : Ready im) : ∀ f, NodeQ im inp w0 be bw tx f := by
 intro f
 induction f with
 | zero =>
  intro b d i l s t F B P w bl lv vo vb gs fv bf X vl vi hbm hd htn hll hs hsf h hF
  rw [nodV_zero (by omega)]
  exact work_spent h (by omega)
 | succ f ih => exact work_step w0 be bw tx inp h40 im hT htab hR ih
end Go.Proofs.YtpfkkmacakjmbaaGreatDoor
namespace Go.Proofs.YtpfkkmacakjmbaaGreatDoor
open Go Go.RowKit Sp
set_option linter.unusedSimpArgs false
set_option linter.unusedVariables false
theorem conv_bts {w : World} {base : Nat} {v : Value} {l : List UInt8} (h : BtB w base v l) : (convert 112 9 v).run Tryz.prog w = .ok (.string ⟨l.toArray⟩) w := by
 obtain ⟨ao, cap, rfl⟩ := owns_len h
 cases ao with
 | none =>
  have hm : l.length = 0 := by
   rcases Nat.eq_zero_or_pos l.length with h' | h'
   ·exact h'
   ·obtain ⟨g, hg, _⟩ := owns_two h h'
    cases hg
  have hl0 : l = [] := List.length_eq_zero_iff.1 hm
  subst hl0
  have hu1 : Tryz.prog.underlying 112 = some (.slice 5) := by kernel_rfl
  have hu2 : Tryz.prog.underlying 9 = some .string := by kernel_rfl
  have hu3 : Tryz.prog.underlying 5 = some (.int .u8) := by kernel_rfl
  have h9 := run_convert_bytes_string (P := Tryz.prog) w 112 9 5 none 0 cap hu1 hu3 hu2
  refine h9.trans ?_
  simp [Conv.bytesToString]
  rfl
 | some ad =>
  refine (?_ : (convert 112 9 (.slice (some ad) l.length cap)).run Tryz.prog w = _)
  refine run_convert_bytes_back w 112 9 5 ad cap l (by kernel_rfl) (by kernel_rfl) (by kernel_rfl) ?_
  intro j hj
  obtain ⟨g, hg, hg1, hg2, hc⟩ := owns_two h (by omega)
  have hg' := Option.some.inj hg
  rw [hg']
  have h3 := hc j _ (btCells_at hj)
  have e : (⟨g, 0, none⟩ : Addr).add j = ⟨g, j, none⟩ := by simp [Addr.add]; exact fun h => h.symm
  rw [e, h3]
  simp [List.getD, hj]
end Go.Proofs.YtpfkkmacakjmbaaGreatDoor
namespace Go.Proofs.YtpfkkmacakjmbaaGreatDoor
open Go Go.RowKit Sp
set_option linter.unusedSimpArgs false
set_option linter.unusedVariables false
attribute [local go_sem ↓] Go.wp_at_zero Go.wp_at_succ
theorem wnew_any (tx : Nat) (inp : ByteArray) (w : World) :
  Calls Tryz.prog 86 #[.pointer (some ⟨tx, 0, none⟩), .string inp] w fun en w' => en = .returned (.pointer (some ⟨w.heap.size, 0, none⟩)) ∧ w' = w.alloc (.cells #[.pointer (some ⟨tx, 0, none⟩), .string inp, .int .i64 0, .slice none 0 0, .slice none 0 0, .int .i64 0] 211) := by
 go_enter Tryz.func86, Tryz.ntmps86
 go_wp2_with fail
 go_ret
 exact ⟨rfl, rfl⟩
theorem out_any {w : World} {bw tx base : Nat} {inp : ByteArray} {r : Int} {vo vb : Value} {o : List UInt8} (h : XwB w bw tx inp r vo vb) (ho : w.ownsRow base 5 1 vo o.length (Lib.byteCells o)) :
  Calls Tryz.prog 89 #[.pointer (some ⟨bw, 0, none⟩)] w fun en w' => en = .returned (.string ⟨o.toArray⟩) ∧ w' = w := by
 have c3 := h.c3
 have hl := h.lt
 have hcv := conv_bts (l := o) ho
 obtain ⟨ao, cap, rfl⟩ := owns_len ho
 clear h ho
 go_enter Tryz.func89, Tryz.ntmps89
 go_wp2_with fail
 go_ret
 exact ⟨rfl, rfl⟩
theorem errnoOf_any (e : Nat) (he : e = 0 ∨ (5 ≤ e ∧ e ≤ 10)) (w : World) :
  Calls Tryz.prog 59 #[.int .i64 (faultN e)] w fun en w' => en = .returned (.int .i64 e) ∧ w' = w := by
 have : e = 0 ∨ e = 5 ∨ e = 6 ∨ e = 7 ∨ e = 8 ∨ e = 9 ∨ e = 10 := by omega
 rcases this with rfl | rfl | rfl | rfl | rfl | rfl | rfl
 ·rw [show faultN _ = 0 from rfl]
  go_enter Tryz.func59, Tryz.ntmps59
  go_wp2_with fail
  go_ret
  exact ⟨rfl, rfl⟩
 ·rw [show faultN _ = 1 from rfl]
  go_enter Tryz.func59, Tryz.ntmps59
  go_wp2_with fail
  go_ret
  exact ⟨rfl, rfl⟩
 ·rw [show faultN _ = 2 from rfl]
  go_enter Tryz.func59, Tryz.ntmps59
  go_wp2_with fail
  go_ret
  exact ⟨rfl, rfl⟩
 ·rw [show faultN _ = 3 from rfl]
  go_enter Tryz.func59, Tryz.ntmps59
  go_wp2_with fail
  go_ret
  exact ⟨rfl, rfl⟩
 ·rw [show faultN _ = 4 from rfl]
  go_enter Tryz.func59, Tryz.ntmps59
  go_wp2_with fail
  go_ret
  exact ⟨rfl, rfl⟩
 ·rw [show faultN _ = 5 from rfl]
  go_enter Tryz.func59, Tryz.ntmps59
  go_wp2_with fail
  go_ret
  exact ⟨rfl, rfl⟩
 ·rw [show faultN _ = 6 from rfl]
  go_enter Tryz.func59, Tryz.ntmps59
  go_wp2_with fail
  go_ret
  exact ⟨rfl, rfl⟩
theorem start_StQ {w0 w w2 : World} {be bw tx bl : Nat} {inp : ByteArray} {fu : Nat} {lv : Value} {l : List V} (hB0 : But (fun _ => False) w0 w) (he : XeB w be tx bw fu) (hw : XwB w bw tx inp 0 (.slice none 0 0) (.slice none 0 0)) (hbe : w0.heap.size ≤ be) (hbw : w0.heap.size ≤ bw) (hB : But (fun _ => False) w w2) (hb : w2.heap[bl]? = some (.cells #[lv] 280)) (hr : w2.ownsRow w.heap.size 168 2 lv l.length (xvalCells l)) (hbl : w.heap.size ≤ bl) :
  StQ (fun _ => False) w0 w2 be bw tx inp ⟨[], 0, fu, []⟩ bl lv l (.slice none 0 0) (.slice none 0 0) [] [] := by
 have h0 := hB0.size
 refine ⟨hB0.trans hB, he.but hB (fun h => h), ?_, owns_nil _ _ _ _, owns_nil _ _ _ _, rfl, rfl, fun k o g v h => by simp at h, fun j k g h => by simp at h, hb, World.ownsRow.mono hr h0, fun k hk => ⟨?_, fun h => h⟩, fun k h => h.elim, fun v h => by simp at h, fun j k v v' g h => by simp at h⟩
 ·have := hw.but hB (fun h => h)
  simpa using this
 ·rcases hk with rfl | rfl | rfl | hk | hk | hk | hk | ⟨v, hv, hk⟩
  ·exact hbe
  ·exact hbw
  ·omega
  ·cases hk
  ·cases hk
  ·have := owns_ge hr k hk; omega
  ·simp at hk
  ·simp at hv
theorem evalV_err (inp : ByteArray) (fu : Nat) (hfu : fu ≤ 4000) (im : Img) (hR : Ready im) : (evalV im inp fu).2.2 = 0 ∨ (5 ≤ (evalV im inp fu).2.2 ∧ (evalV im inp fu).2.2 ≤ 10) := by
 obtain ⟨bs, mb, hbs, hmc, hbc⟩ := hR.we.main
 obtain ⟨q, hq⟩ : ∃ q, im.bodies.length = q + 1 := ⟨bs.length, by rw [hbs]; simp⟩
 have hmb : im.bodies[q]? = some mb := by
  have h1 : q = bs.length := by rw [hbs] at hq; simp at hq; omega
  rw [h1, hbs]; simp
 have hmm : mb ∈ im.bodies := List.mem_of_getElem? hmb
 rw [evalV_eq hq hmb]
 have hty := hR.ty mb hmm
 unfold bodyT at hty
 cases h : typN im.classes im.sigs mb.locals mb.code mb.code.length 0 with
 | none => rw [h] at hty; cases hty
 | some t =>
  have HT := nodV_typed hR inp fu 88000 mb 1 0 _ _ t _ hmm h (main_LT hR hmm) (start_StT im hfu) (Nat.le_refl _)
  cases hn : nodV im inp fu mb 1 0 (localsV mb []) ⟨[], 0, fu, []⟩ with
  | bad e o => rw [hn] at HT; exact Or.inr ⟨HT.1, HT.2.1⟩
  | ok v l s => exact Or.inl rfl
def evQ (r : List UInt8 × Int × Nat) : Ending := .returned (.tuple #[.string ⟨r.1.toArray⟩, .int .i64 r.2.1, .int .i64 (faultN r.2.2)])
theorem evalQ_any (w : World) (tx : Nat) (inp : ByteArray) (fu : Nat) (h40 : inp.size ≤ 40) (hfu : fu ≤ 4000) (im : Img) (hT : TextN w tx im) (htab : TabW w) (hR : Ready im) :
  Calls Tryz.prog 61 #[.pointer (some ⟨tx, 0, none⟩), .string inp, .int .i64 fu] w fun en w' => en = evQ (evalV im inp fu) ∧ But (fun _ => False) w w' := by
 obtain ⟨bs, mb, hbs, hmc, hbc⟩ := hR.we.main
 obtain ⟨q, hq⟩ : ∃ q, im.bodies.length = q + 1 := ⟨bs.length, by rw [hbs]; simp⟩
 have hmb : im.bodies[q]? = some mb := by
  have h1 : q = bs.length := by rw [hbs] at hq; simp at hq; omega
  rw [h1, hbs]; simp
 have hmm : mb ∈ im.bodies := List.mem_of_getElem? hmb
 have hnb := hR.wf.nb
 obtain ⟨RR, hRR⟩ : ∃ RR, evalV im inp fu = RR := ⟨_, rfl⟩
 rw [hRR]
 have HRR : Hid (RR = match nodV im inp fu mb 1 0 (localsV mb []) ⟨[], 0, fu, []⟩ with | .bad e o => (o, 0, e) | .ok v _ s => (s.out, v.N, 0)) := by show _ = _; rw [← hRR]; exact evalV_eq hq hmb
 have hty := hR.ty mb hmm
 obtain ⟨t, htn, hts⟩ : ∃ t, typN im.classes im.sigs mb.locals mb.code mb.code.length 0 = some t ∧ subT im.classes t 105 = true := by
  unfold bodyT at hty
  cases h : typN im.classes im.sigs mb.locals mb.code mb.code.length 0 with
  | none => rw [h] at hty; cases hty
  | some t => rw [h] at hty; simp only at hty; rw [if_pos (by rw [hmc]; omega)] at hty; exact ⟨t, rfl, hty⟩
 obtain ⟨xbs, ⟨v2, t2, htl, lb, hO, hm, hf⟩, hbl2, hbd⟩ := hT.bod
 have hlen : lb.length = q + 1 := by rw [← hq, ← hbl2, ← hm]; simp
 obtain ⟨ao, capo, rfl⟩ := owns_len hO
 rw [hlen] at t2
 have hwq := wrapI (q : Int) (by omega) (by omega)
 obtain ⟨W, hWW⟩ : ∃ W, (w.alloc (.cells #[.pointer (some ⟨tx, 0, none⟩), .string inp, .int .i64 0, .slice none 0 0, .slice none 0 0, .int .i64 0] 211)).alloc (.cells #[.pointer (some ⟨tx, 0, none⟩), .pointer (some ⟨w.heap.size, 0, none⟩), .int .i64 fu] 164) = W := ⟨_, rfl⟩
 have hBW : But (fun _ => False) w W := by rw [← hWW]; exact (But.alloc _ _ _).trans (But.alloc _ _ _)
 have hwd : XwB W w.heap.size tx inp 0 (.slice none 0 0) (.slice none 0 0) := by rw [← hWW]; exact ((But.alloc (fun _ => False) _ _).block _ (by simp) (fun h => h)).trans (heap_alloc_new w _)
 have hev : XeB W (w.heap.size + 1) tx w.heap.size fu := by rw [← hWW]; exact heap_alloc_at (by simp) _
 have HNF := hid (newFrame_base hev hBW im hT q 1 mb hmb (hR.wf.bod mb hmm).loc.1 (by omega))
 rw [show ((1 : Nat) : Int) = 1 from rfl] at HNF
 have t2W := (hBW.cell (p := ⟨tx, 2, none⟩) htl (fun h => h)).trans t2
 have htlW := Nat.lt_of_lt_of_le htl hBW.size
 have HWW := hid hWW
 have HMB := hid (And.intro hbs (And.intro hmb (And.intro hmc hRR)))
 clear hWW hm hlen hbl2 hbd hf hO hq hbs hmb hmc hRR hty hbc
 go_enter Tryz.func61, Tryz.ntmps61
 go_wp2_with fail
 refine (wnew_any tx inp w).mono ?_
 rintro en w1 ⟨rfl, rfl⟩
 go_wp2_with fail
 rw [HWW.out]
 clear HWW
 refine HNF.out.mono ?_
 rintro en w2 ⟨bf2, bl2, lv2, X2, vl2, vi2, rfl, hB2, hFB, hBF, hlb, hlo2, hbl2, hbf2⟩
 have hl0 : mb.locals.map plainV = localsV mb [] := by simp [localsV]
 rw [hl0, show mb.locals.length = (localsV mb []).length from by rw [← hl0]; simp] at hlo2
 have hst := (start_StQ (w0 := w) hBW hev hwd (by omega) (by omega) hB2 hlb hlo2 hbl2).add hFB
 have hFS : FrS (fun j => False ∨ j = bf2) w w2 im mb bf2 1 X2 vl2 vi2 bl2 := ⟨hFB, Or.inr rfl, hBF⟩
 have hLT := main_LT hR hmm
 have hST := start_StT im hfu
 have HTY := hid (nodV_typed hR inp fu 88000 mb 1 0 _ _ t _ hmm htn hLT hST (Nat.le_refl _))
 have HC := hid (work_all w (w.heap.size + 1) w.heap.size tx inp h40 im hT htab hR fu mb 1 0 _ _ t _ 88000 _ w2 bl2 lv2 _ _ _ _ bf2 X2 vl2 vi2 hmm (by omega) htn hLT hST (Nat.le_refl _) hst hFS)
 rw [show ((0 : Nat) : Int) = 0 from rfl] at HC
 clear HNF hst hFS hLT hST htn hFB hBF hlb hlo2 hbl2 hbf2 hl0 t2 t2W hwd hev HMB
 have hBw2 := hBW.trans hB2
 go_wp2_with fail
 refine HC.out.mono ?_
 rintro en w3 ⟨hB3, vo3, vb3, gs3, fv3, hq⟩
 have hBw3 : But (fun _ => False) w w3 := hBw2.next hB3 (fun k hk hf => by have := hf.1; omega)
 have HR2 := HRR.out
 have HT2 := HTY.out
 clear HC hB3
 cases hn : nodV im inp fu mb 1 0 (localsV mb []) ⟨[], 0, fu, []⟩ with
 | bad e o =>
  rw [hn] at hq HR2 HT2
  simp only at HR2
  subst HR2
  obtain ⟨rfl, s3, l3, ho, hs3⟩ := hq
  obtain ⟨e1, e2⟩ := faultN_ne HT2.1 HT2.2.1
  have c1 := hs3.ev.c1
  have hel := hs3.ev.lt
  have HO := hid (fun ob => out_any (hs3.new (But.alloc (fun _ => False) w3 ob)).wd (hs3.new (But.alloc (fun _ => False) w3 ob)).out)
  rw [ho] at HO
  have h1 := HT2.1
  have h2 := HT2.2.1
  clear hs3 HRR HTY HT2 hn
  go_wp2_with fail
  refine (HO.out _).mono ?_
  rintro en w4 ⟨rfl, rfl⟩
  go_wp2_with fail
  exact bodyPost_ret (v := .tuple #[.string ⟨o.toArray⟩, .int .i64 0, .int .i64 (faultN e)]) (by simp [results, Tryz.results61, go_sem]) rfl ⟨rfl, hBw3.trans (But.alloc _ _ _)⟩
 | ok v l3 s3 =>
  rw [hn] at hq HR2 HT2
  simp only at HR2
  subst HR2
  obtain ⟨rfl, hs3⟩ := hq
  obtain ⟨y1, y2, y3, y4, y5⟩ := HT2
  obtain ⟨m, rfl, m1, m2⟩ := (y1.sub hR.wf.cls hR.wf.nc y3.ht (t' := 105) hts (by decide)).int (by decide)
  have c1 := hs3.ev.c1
  have hel := hs3.ev.lt
  have HO := hid (fun ob n => out_any (hs3.new ((But.alloc (fun _ => False) w3 ob).trans (But.drewN _ _ n))).wd (hs3.new ((But.alloc (fun _ => False) w3 ob).trans (But.drewN _ _ n))).out)
  clear hs3 HRR HTY y1 y2 y3 y4 y5 hn
  simp only [xAgg, xN, xO, V.N]
  go_wp2_with fail
  have q1 : ∀ ob, (w3.alloc ob).cell? ⟨w.heap.size + 1, 1, none⟩ = some (.pointer (some ⟨w.heap.size, 0, none⟩)) := fun ob => ((But.alloc (fun _ => False) w3 ob).cell (p := ⟨w.heap.size + 1, 1, none⟩) hel (fun h => h)).trans c1
  go_quiet (exact Calls.quiet_of_same (HO.out _ _))
  go_wp2_with fail
  exact bodyPost_ret (v := .tuple #[.string ⟨s3.out.toArray⟩, .int .i64 m, .int .i64 0]) (by simp [results, Tryz.results61, go_sem]) rfl ⟨rfl, (hBw3.trans (But.alloc _ _ _)).trans (But.drewN _ _ _)⟩
/-- The program's Eval does what the function says. -/
theorem xeval_any (s inp : ByteArray) (fuel : Int) (w : World) (hmax : s.size ≤ maxLen) (htab : TabW w) :
  Calls Tryz.prog 34 #[.string s, .string inp, .int .i64 fuel] w fun en w' => en = .returned (.tuple #[.string ⟨(evalP s inp fuel).1.toArray⟩, .int .i64 (evalP s inp fuel).2.1, .int .i64 (evalP s inp fuel).2.2]) ∧ But (fun _ => False) w w' := by
 obtain ⟨RR, hRR⟩ : ∃ RR, evalP s inp fuel = RR := ⟨_, rfl⟩
 rw [hRR]
 by_cases hg : 40 < inp.size ∨ fuel < 0 ∨ 4000 < fuel
 ·have hres : RR = ([], 0, 1) := by rw [← hRR]; unfold evalP; rw [if_pos hg]
  subst hres
  clear hRR
  by_cases g1 : 40 < (inp.size : Int)
  ·go_enter Tryz.func34, Tryz.ntmps34
   go_wp2_with fail
   exact bodyPost_ret (v := .tuple #[.string ⟨#[]⟩, .int .i64 0, .int .i64 1]) (by simp [results, Tryz.results34, go_sem]) rfl ⟨rfl, But.refl _ _⟩
  ·by_cases g2 : fuel < 0
   ·clear hg
    go_enter Tryz.func34, Tryz.ntmps34
    go_wp2_with fail
    exact bodyPost_ret (v := .tuple #[.string ⟨#[]⟩, .int .i64 0, .int .i64 1]) (by simp [results, Tryz.results34, go_sem]) rfl ⟨rfl, But.refl _ _⟩
   ·have g3 : 4000 < fuel := by omega
    clear hg
    go_enter Tryz.func34, Tryz.ntmps34
    go_wp2_with fail
    exact bodyPost_ret (v := .tuple #[.string ⟨#[]⟩, .int .i64 0, .int .i64 1]) (by simp [results, Tryz.results34, go_sem]) rfl ⟨rfl, But.refl _ _⟩
 ·obtain ⟨fu, rfl⟩ : ∃ fu : Nat, fuel = fu := ⟨fuel.toNat, by omega⟩
  have g1 : ¬ 40 < (inp.size : Int) := by omega
  have g2 : ¬ (fu : Int) < 0 := by omega
  have g3 : ¬ 4000 < (fu : Int) := by omega
  have key : Calls Tryz.prog 60 #[.string s] w fun en w' => But (fun _ => False) w w' ∧ ((∃ (e : Nat) (p : Int), en = .returned (.agg #[.int .i64 e, .int .i64 p, .pointer none, .slice none 0 0]) ∧ 0 < e ∧ RR = ([], 0, e)) ∨ ∃ im g, en = .returned (.agg #[.int .i64 0, .int .i64 0, .pointer (some ⟨g, 0, none⟩), .slice none 0 0]) ∧ TextN w' g im ∧ Ready im ∧ RR = evalV im inp fu) := by
   refine (xexamineN_any s w hmax).mono ?_
   rintro en w' ⟨hB, hE⟩
   refine ⟨hB, ?_⟩
   unfold ExamN at hE
   unfold evalP at hRR
   rw [if_neg hg] at hRR
   cases hl : linkS s with
   | error e =>
    rw [hl] at hE hRR
    obtain ⟨e, p⟩ := e
    exact Or.inl ⟨e, p, hE, (linkS_errpos hl).1, hRR.symm⟩
   | ok im =>
    rw [hl] at hE hRR
    simp only at hE hRR
    have hs2 : s.size ≤ 2000 := by
     unfold linkS at hl
     split at hl
     ·cases hl
     ·omega
    cases ht : im.bodies.findIdx? (fun b => !bodyT im b) with
    | some k =>
     rw [ht] at hE
     have h4 : scanP s = (4, k) := by unfold scanP; rw [hl]; simp only [ht]
     rw [h4] at hRR
     exact Or.inl ⟨4, k, hE, by omega, by rw [← hRR]; rfl⟩
    | none =>
     rw [ht] at hE
     obtain ⟨g, h1, h2, h3⟩ := hE
     have h4 : (scanP s).1 = 0 := by unfold scanP; rw [hl]; simp only [ht]
     rw [if_pos h4] at hRR
     exact Or.inr ⟨im, g, h1, h3, scanP_ready hs2 hl h4, by rw [← hRR]; simp⟩
  have HK := hid key
  clear key hRR
  go_enter Tryz.func34, Tryz.ntmps34
  go_wp2_with fail
  refine HK.out.mono ?_
  rintro en w1 ⟨hB1, hcs⟩
  clear HK
  rcases hcs with ⟨e, p, rfl, he, rfl⟩ | ⟨im, g, rfl, hTX, hR, hres⟩
  ·have heI : ((e : Int) != 0) = true := by rw [bne_iff_ne]; omega
   go_wp2_with fail
   go_quiet (fail)
   go_wp2_with fail
   exact bodyPost_ret (v := .tuple #[.string ⟨#[]⟩, .int .i64 0, .int .i64 e]) (by simp [results, Tryz.results34, go_sem]) rfl ⟨rfl, (hB1.trans (But.alloc _ _ _)).trans (But.drewN _ _ _)⟩
  ·have HE := hid (fun ob => evalQ_any (w1.alloc ob) g inp fu (by omega) (by omega) im (hTX.but (But.alloc (fun _ => False) w1 ob)) ((htab.but hB1).but (But.alloc _ w1 ob)) hR)
   have hev := evalV_err inp fu (by omega) im hR
   rw [← hres] at HE hev
   have HV := hid hev
   clear hTX hres hev
   obtain ⟨o, v, e⟩ := RR
   unfold evQ at HE
   dsimp only at HE HV
   go_wp2_with fail
   refine (HE.out _).mono ?_
   rintro en w2 ⟨rfl, hB2⟩
   clear HE
   go_wp2_with fail
   refine (errnoOf_any e HV.out w2).mono ?_
   rintro en w3 ⟨rfl, rfl⟩
   go_wp2_with fail
   exact bodyPost_ret (v := .tuple #[.string ⟨o.toArray⟩, .int .i64 v, .int .i64 e]) (by simp [results, Tryz.results34, go_sem]) rfl ⟨rfl, (hB1.trans (But.alloc _ _ _)).trans hB2⟩
end Go.Proofs.YtpfkkmacakjmbaaGreatDoor
