import Derived.Test.YtpfkkmacakjmbaaGreatDoorP18
set_option maxRecDepth 100000
set_option maxHeartbeats 6400000
namespace Go.Proofs.YtpfkkmacakjmbaaGreatDoor
open Go Go.RowKit Sp
set_option linter.unusedSimpArgs false
set_option linter.unusedVariables false
attribute [local go_sem ↓] Go.wp_at_zero Go.wp_at_succ
def toXI (x : Ins) : XIt := ⟨x.pos, x.op, if x.op.toNat = 110 ∨ x.op.toNat = 120 ∨ x.op.toNat = 103 ∨ x.op.toNat = 112 ∨ x.op.toNat = 99 then UInt8.ofNat (65 + x.a) else 45, x.b, none, 0, 0⟩
def toXB (gs : List Sig) (b : Bod) : XBod := ⟨if b.cls < 0 then 45 else UInt8.ofNat (65 + b.cls.toNat), b.meth.toNat, if b.cls < 0 then 105 else (methX gs b.meth.toNat).ret, b.locals, b.code.map toXI⟩
def SideB (b : Bod) : Prop := 0 ≤ b.cls ∧ b.cls < 4 ∧ 0 ≤ b.meth
theorem ownF_rel {bs : List XBod} {c : UInt8} {m : Nat} : ∀ (f k : Nat), k + f = bs.length → ownF bs c m f k = match (bs.drop k).findIdx? (fun x => decide (x.cls = c ∧ x.meth = m)) with
  | some j => ((k + j : Nat) : Int)
  | none => -1 := by
 intro f
 induction f with
 | zero => intro k hk; rw [List.drop_of_length_le (by omega)]; rfl
 | succ f ih =>
  intro k hk
  have hlt : k < bs.length := by omega
  rw [List.drop_eq_getElem_cons hlt, List.findIdx?_cons]
  simp only [ownF, List.getElem?_eq_getElem hlt]
  by_cases h : bs[k].cls = c ∧ bs[k].meth = m
  ·simp [h]
  ·rw [if_neg h, ih (k + 1) (by omega)]
   simp only [h, decide_false, Bool.false_eq_true, if_false]
   cases List.findIdx? (fun x => decide (x.cls = c ∧ x.meth = m)) (bs.drop (k + 1)) with
   | none => rfl
   | some j => simp only [Option.map_some]; congr 1; omega
theorem findIdx?_map' {α β : Type} (f : α → β) (p : β → Bool) : ∀ l : List α, (l.map f).findIdx? p = l.findIdx? (fun x => p (f x)) := by
 intro l
 induction l with
 | nil => rfl
 | cons x l ih => simp only [List.map_cons, List.findIdx?_cons, ih]
theorem findIdx?_congr' {α : Type} {p q : α → Bool} : ∀ {l : List α}, (∀ x ∈ l, p x = q x) → l.findIdx? p = l.findIdx? q := by
 intro l
 induction l with
 | nil => intro _; rfl
 | cons x l ih =>
  intro h
  rw [List.findIdx?_cons, List.findIdx?_cons, h x (by simp), ih (fun y hy => h y (by simp [hy]))]
theorem ownF_ownI {gs : List Sig} {BS : List Bod} (hB : ∀ b ∈ BS, (b.cls = -1) ∨ SideB b) {x m : Nat} (hx : x < 4) : ownF (BS.map (toXB gs)) (UInt8.ofNat (65 + x)) m (BS.map (toXB gs)).length 0 = ownI BS x m := by
 rw [ownF_rel _ 0 (by simp), List.drop_zero]
 have he : (BS.map (toXB gs)).findIdx? (fun y => decide (y.cls = UInt8.ofNat (65 + x) ∧ y.meth = m)) = ownB BS x m := by
  unfold ownB
  rw [findIdx?_map']
  refine findIdx?_congr' (fun b hb => ?_)
  have hv : (UInt8.ofNat (65 + x)).toNat = 65 + x := by simp; omega
  rcases hB b hb with h | ⟨h1, h2, h3⟩
  ·have e1 : (toXB gs b).cls = 45 := by simp [toXB, h]
   have e2 : ¬ (45 : UInt8) = UInt8.ofNat (65 + x) := fun h => by
    have := congrArg UInt8.toNat h
    rw [hv] at this
    simp at this
    omega
   have e3 : (b.cls == (x : Int)) = false := by rw [beq_eq_false_iff_ne]; omega
   rw [e1, e3, Bool.false_and, decide_eq_false_iff_not]
   exact fun h => e2 h.1
  ·have e1 : (toXB gs b).cls = UInt8.ofNat (65 + b.cls.toNat) := by simp [toXB]; omega
   have hw : (UInt8.ofNat (65 + b.cls.toNat)).toNat = 65 + b.cls.toNat := by simp; omega
   have e2 : (UInt8.ofNat (65 + b.cls.toNat) = UInt8.ofNat (65 + x)) ↔ b.cls = x := by
    rw [← UInt8.toNat_inj, hv, hw]; omega
   have e3 : (toXB gs b).meth = b.meth.toNat := rfl
   rw [Bool.eq_iff_iff]
   simp only [e1, e2, e3, decide_eq_true_eq, Bool.and_eq_true, beq_iff_eq]
   omega
 rw [he]
 unfold ownI
 cases ownB BS x m with
 | none => rfl
 | some j => simp
def headP (s : ByteArray) (nc : Nat) (gs : List Sig) (BS : List Bod) (i : Nat) : Except Nat ((Nat × Nat × List UInt8) × Nat) :=
 match letP s nc i with
 | .error j => .error j
 | .ok (x, j) =>
  match digP s gs.length j with
  | .error l => .error l
  | .ok (m, l) =>
   if (ownB BS x m).isSome = true then .error j else
   match tys s nc 58 3 [] l with
   | .error p => .error p
   | .ok (t, p) => .ok ((x, m, t), p)
theorem ltX_ok {s : ByteArray} {n i : Nat} (h : isLet n (pk s i) = true) : ltX s n i false = (pk s i, i + 1, false) := by unfold ltX; rw [if_pos ⟨rfl, h⟩]
theorem ltX_no {s : ByteArray} {n i : Nat} {bad : Bool} (h : bad = true ∨ isLet n (pk s i) = false) : ltX s n i bad = (45, i, true) := by
 unfold ltX
 rw [if_neg]
 rintro ⟨h1, h2⟩
 rcases h with h | h
 ·rw [h] at h1; cases h1
 ·rw [h] at h2; cases h2
theorem dgX_ok {s : ByteArray} {n i : Nat} (h : isDig n (pk s i) = true) : dgX s n i false = ((pk s i).toNat - 48, i + 1, false) := by unfold dgX; rw [if_pos ⟨rfl, h⟩]
theorem dgX_no {s : ByteArray} {n i : Nat} {bad : Bool} (h : bad = true ∨ isDig n (pk s i) = false) : dgX s n i bad = (0, i, true) := by
 unfold dgX
 rw [if_neg]
 rintro ⟨h1, h2⟩
 rcases h with h | h
 ·rw [h] at h1; cases h1
 ·rw [h] at h2; cases h2
def lookX (o : Int) (j1 j2 : Nat) (b2 : Bool) : Nat × Bool := if 0 ≤ o then (if b2 = true then j2 else j1, true) else (j2, b2)
theorem head_fin {s : ByteArray} {nc : Nat} {gs : List Sig} {BS : List Bod} {i : Nat} (hB : ∀ b ∈ BS, (b.cls = -1) ∨ SideB b) (hnc : nc ≤ 4)
  {c : UInt8} {j1 d j2 : Nat} {b1 b2 : Bool} (h1 : ltX s nc i false = (c, j1, b1)) (h2 : dgX s gs.length j1 b1 = (d, j2, b2)) {t : List UInt8} {j : Nat} {bad' : Bool} {J : Nat × Bool} (hJ : lookX (ownF (BS.map (toXB gs)) c d (BS.map (toXB gs)).length 0) j1 j2 b2 = J)
  (hT : (bad' = false ∧ tysB s nc 58 3 J.1 J.2 = .ok (t, j)) ∨ (bad' = true ∧ tysB s nc 58 3 J.1 J.2 = .error j)) :
  (bad' = false ∧ ∃ x, headP s nc gs BS i = .ok ((x, d, t), j) ∧ c = UInt8.ofNat (65 + x) ∧ x < nc ∧ d < gs.length) ∨ (bad' = true ∧ headP s nc gs BS i = .error j) := by
 unfold headP letP
 cases hl : isLet nc (pk s i) with
 | false =>
  rw [ltX_no (Or.inr hl)] at h1
  simp only [Prod.mk.injEq] at h1
  obtain ⟨rfl, rfl, rfl⟩ := h1
  rw [dgX_no (Or.inl rfl)] at h2
  simp only [Prod.mk.injEq] at h2
  obtain ⟨rfl, rfl, rfl⟩ := h2
  have hJ2 : J = (i, true) := by
   rw [← hJ]
   unfold lookX
   split <;> rfl
  subst hJ2
  simp only [tysB, if_true] at hT
  right
  rcases hT with ⟨_, h⟩ | ⟨h, h'⟩
  ·cases h
  ·cases h'
   exact ⟨h, by simp⟩
 | true =>
  rw [ltX_ok hl] at h1
  simp only [Prod.mk.injEq] at h1
  obtain ⟨rfl, rfl, rfl⟩ := h1
  simp only [if_true]
  have hl' := hl
  simp only [isLet, Bool.and_eq_true, decide_eq_true_eq] at hl'
  unfold digP
  cases hd : isDig gs.length (pk s (i + 1)) with
  | false =>
   rw [dgX_no (Or.inr hd)] at h2
   simp only [Prod.mk.injEq] at h2
   obtain ⟨rfl, rfl, rfl⟩ := h2
   have hJ2 : J = (i + 1, true) := by
    rw [← hJ]
    unfold lookX
    split <;> rfl
   subst hJ2
   simp only [tysB, if_true] at hT
   right
   rcases hT with ⟨_, h⟩ | ⟨h, h'⟩
   ·cases h
   ·cases h'
    exact ⟨h, by simp⟩
  | true =>
   rw [dgX_ok hd] at h2
   simp only [Prod.mk.injEq] at h2
   obtain ⟨hd2, rfl, rfl⟩ := h2
   simp only [if_true]
   have hd' := hd
   simp only [isDig, Bool.and_eq_true, decide_eq_true_eq] at hd'
   rw [hd2]
   have hc : pk s i = UInt8.ofNat (65 + ((pk s i).toNat - 65)) := by
    apply UInt8.toNat_inj.1
    have := (pk s i).toNat_lt
    simp
    omega
   have how := ownF_ownI (gs := gs) (m := d) hB (x := (pk s i).toNat - 65) (by omega)
   rw [← hc] at how
   rw [how] at hJ
   by_cases ho : (ownB BS (((pk s i).toNat - 65 : Nat) : Int) d).isSome = true
   ·rw [if_pos ho]
    have h0 : 0 ≤ ownI BS (((pk s i).toNat - 65 : Nat) : Int) d := by
     unfold ownI
     obtain ⟨k, hk⟩ := Option.isSome_iff_exists.1 ho
     rw [hk]
     exact Int.natCast_nonneg k
    rw [lookX, if_pos h0] at hJ
    subst hJ
    simp only [tysB, if_true] at hT
    right
    rcases hT with ⟨_, h⟩ | ⟨h, h'⟩
    ·cases h
    ·cases h'
     exact ⟨h, rfl⟩
   ·rw [if_neg ho]
    have h0 : ¬ 0 ≤ ownI BS (((pk s i).toNat - 65 : Nat) : Int) d := by
     unfold ownI
     cases hk : ownB BS (((pk s i).toNat - 65 : Nat) : Int) d with
     | none => simp
     | some k => rw [hk] at ho; simp at ho
    rw [lookX, if_neg h0] at hJ
    subst hJ
    simp only [tysB, Bool.false_eq_true, if_false] at hT
    rcases hT with ⟨h, h'⟩ | ⟨h, h'⟩
    ·left
     rw [h']
     exact ⟨h, _, rfl, hc, by omega, by omega⟩
    ·right
     rw [h']
     exact ⟨h, rfl⟩
theorem wpList_append_btl {w : World} {ops : Array Oper} {rest : List Oper} {o : Oper} {a : Act} {Q : Exit → Act → World → Prop} (hgd : o.guard = none) (s x : Operand)
  (ho : o.op = .call { callee := .builtin .append, args := #[s, x], argTypes := #[112, 112] }) (base bx : Nat) (v xv : Value) (l m LM : List UInt8) (hLM : Hid (l ++ m = LM)) (hs : a.eval s = v) (hx : a.eval x = xv) (hown : BtB w base v l) (hxo : BtB w bx xv m) (hlen : LM.length ≤ 100000) (hbase : base ≤ w.heap.size)
  (h : ∀ ao cap w', BtB w' base (.slice ao LM.length cap) LM → But (fun k => v.ownBlock = some k) w w' → ((Value.slice ao LM.length cap).ownBlock = v.ownBlock ∨ (Value.slice ao LM.length cap).ownBlock = some w.heap.size) → wpList Tryz.prog ops Q rest (a.put o.dst (.slice ao LM.length cap)) w') : wpList Tryz.prog ops Q (o :: rest) a w := by
 have hLM := hLM.out
 subst hLM
 exact wpList_append_bts hgd s x ho base bx v xv l m hs hx hown hxo (by rw [← List.length_append]; exact hlen) hbase h
def hdOf (x : XBod) : UInt8 × Nat := (x.cls, x.meth)
theorem ownF_heads {xs ys : List XBod} (h : xs.map hdOf = ys.map hdOf) (c : UInt8) (m : Nat) : ∀ f k : Nat, ownF xs c m f k = ownF ys c m f k := by
 intro f
 induction f with
 | zero => intro k; rfl
 | succ f ih =>
  intro k
  have h1 : (xs.map hdOf)[k]? = (ys.map hdOf)[k]? := by rw [h]
  rw [List.getElem?_map, List.getElem?_map] at h1
  unfold ownF
  cases hx : xs[k]? with
  | none =>
   rw [hx] at h1
   cases hy : ys[k]? with
   | none => rfl
   | some y => rw [hy] at h1; cases h1
  | some x =>
   rw [hx] at h1
   cases hy : ys[k]? with
   | none => rw [hy] at h1; cases h1
   | some y =>
    rw [hy] at h1
    simp only [Option.map_some, Option.some.injEq, hdOf, Prod.mk.injEq] at h1
    simp only [h1.1, h1.2, ih]
theorem heads_len {xs ys : List XBod} (h : xs.map hdOf = ys.map hdOf) : xs.length = ys.length := by have := congrArg List.length h; simpa using this
theorem xhead_any (b base : Nat) (s : ByteArray) (i : Nat) (a0 : Option Addr) (nc cap0 : Nat) (v1 : Value) (v2 : RdV) (w : World) (gs : List Sig) (BS : List Bod) (xs : List XBod) (hxs : xs.map hdOf = (BS.map (toXB gs)).map hdOf) (hnc : nc ≤ 4) (hgs : gs.length ≤ 3) (hBS : BS.length ≤ 6) (hsb : ∀ b ∈ BS, (b.cls = -1) ∨ SideB b) (hs : s.size ≤ 2000)
  (hR : XrB w b s i false (.slice a0 nc cap0) v1 v2) (hM : TmV w base v1 gs) (hBd : TbV w base v2.bods xs) (hb : b < base) :
  Calls Tryz.prog 167 #[.pointer (some ⟨b, 0, none⟩)] w fun en w' => But (· = b) w w' ∧ ∃ c m r ao cap l j bad', en = .returned (hdV c m r (.slice ao (List.length l) cap) (.slice none 0 0)) ∧ XrB w' b s j bad' (.slice a0 nc cap0) v1 v2 ∧ BtB w' w.heap.size (.slice ao l.length cap) l ∧ l.length ≤ 5 ∧
   ((bad' = false ∧ ∃ x t, headP s nc gs BS i = .ok ((x, m, t), j) ∧ c = UInt8.ofNat (65 + x) ∧ x < nc ∧ m < gs.length ∧ r = (methX gs m).ret ∧ l = c :: (methX gs m).arg :: t) ∨ (bad' = true ∧ headP s nc gs BS i = .error j)) := by
 obtain ⟨a1, cap1, hv1⟩ := owns_len hM
 subst hv1
 have hbw := hR.lt
 have HM := hid (fun (w' : World) (h : But (· = b) w w') (hr : w'.cell? ⟨b, 1, none⟩ = some (.slice a1 gs.length cap1)) => (hM.but h (fun g e cur _ _ hg he => by omega)).tx hr (Nat.lt_of_lt_of_le hbw h.size))
 have HB := hid (fun (w' : World) (h : But (· = b) w w') (hr : w'.cell? ⟨b, 2, none⟩ = some v2.bods) => (hBd.but h (fun g e cur _ _ hg he => by omega)).tx hr (Nat.lt_of_lt_of_le hbw h.size))
 have hbl : xs.length ≤ 100 := by rw [heads_len hxs, List.length_map]; omega
 have HBL := hid hbl
 have HHF := hid (fun (c : UInt8) (j1 d j2 : Nat) (b1 b2 : Bool) (t : List UInt8) (j : Nat) (bad' : Bool) (J : Nat × Bool) (h1 : ltX s nc i false = (c, j1, b1)) (h2 : dgX s gs.length j1 b1 = (d, j2, b2)) (hJ : lookX (ownF xs c d xs.length 0) j1 j2 b2 = J) => head_fin (t := t) (j := j) (bad' := bad') (J := J) hsb hnc h1 h2 (by rw [← hJ, ownF_heads hxs, heads_len hxs]))
 clear hM hBd hbl hsb hBS hxs
 go_enter Tryz.func167, Tryz.ntmps167
 go_wp2_with fail
 have hB0 : But (· = b) w (w.alloc (Obj.cells #[Value.int IntKind.u8 0, Value.int IntKind.i64 0, Value.int IntKind.u8 0, Value.slice none 0 0, Value.slice none 0 0] 115)) := But.alloc _ _ _
 have hR0 : XrB (w.alloc (Obj.cells #[Value.int IntKind.u8 0, Value.int IntKind.i64 0, Value.int IntKind.u8 0, Value.slice none 0 0, Value.slice none 0 0] 115)) b s i false (.slice a0 nc cap0) (.slice a1 gs.length cap1) v2 := hR.but (But.alloc (fun _ => False) _ _) (fun h => h)
 have hg0 := heap_alloc_new w (Obj.cells #[Value.int IntKind.u8 0, Value.int IntKind.i64 0, Value.int IntKind.u8 0, Value.slice none 0 0, Value.slice none 0 0] 115)
 revert hB0 hR0 hg0
 generalize (w.alloc (Obj.cells #[Value.int IntKind.u8 0, Value.int IntKind.i64 0, Value.int IntKind.u8 0, Value.slice none 0 0, Value.slice none 0 0] 115)) = W0
 intro hB0 hR0 hg0
 have hgl := lt_of_block hg0
 have HG0 := hid hg0
 clear hg0
 refine (xclass_any b s i false _ v2 W0 nc cap0 a0 (by omega) hs hR0).mono ?_
 rintro en w1 ⟨rfl, hB1, hR1⟩
 obtain ⟨Y1, hY1⟩ : ∃ Y, ltX s nc i false = Y := ⟨_, rfl⟩
 rw [hY1] at hR1
 rw [hY1]
 have HY1 := hid hY1
 clear hY1
 obtain ⟨c, j1, b1⟩ := Y1
 dsimp only at hR1 ⊢
 have p1 := hR1.c3
 have p2 := hR1.c1
 go_wp2_with fail
 refine (xtakeDigit_any b s j1 b1 _ _ v2 w1 gs.length (by omega) hs hR1).mono ?_
 rintro en w2 ⟨rfl, hB2, hR2⟩
 obtain ⟨Y2, hY2⟩ : ∃ Y, dgX s gs.length j1 b1 = Y := ⟨_, rfl⟩
 rw [hY2] at hR2
 rw [hY2]
 have HY2 := hid hY2
 clear hY2
 obtain ⟨d, j2, b2⟩ := Y2
 dsimp only at hR2 ⊢
 clear p1 p2
 have hBw2 : But (· = b) w w2 := (hB0.trans hB1).trans hB2
 have hB02 : But (· = b) W0 w2 := hB1.trans hB2
 have HH2 := hid (fun t j bad' J => HHF.out c j1 d j2 b1 b2 t j bad' J HY1.out HY2.out)
 clear HHF HY1 HY2 hB1 hB2 hR1
 go_wp2_with fail
 refine (xownBody_any b xs c d w2 HBL.out (HB.out w2 hBw2 hR2.c2)).mono ?_
 rintro en w3 ⟨rfl, hB3⟩
 have hR3 := hR2.but hB3 (fun h => h)
 have hBw3 : But (· = b) w w3 := hBw2.next hB3 (fun _ _ h => h.elim)
 have hB03 : But (· = b) W0 w3 := hB02.next hB3 (fun _ _ h => h.elim)
 revert HH2
 generalize ownF xs c d xs.length 0 = o
 intro HH2
 clear HB hB3 hR2 hBw2 hB02
 by_cases ho : 0 ≤ o
 ·obtain ⟨J, hJ⟩ : ∃ J : Nat × Bool, (if b2 = true then j2 else j1, true) = J := ⟨_, rfl⟩
  have HH3 := hid (fun (t : List UInt8) (j : Nat) (bad' : Bool) => HH2.out t j bad' J (by rw [lookX, if_pos ho]; exact hJ))
  have HJ := hid hJ
  clear HH2 hJ
  go_wp2_with fail
  refine (xrefuse_all b s j2 b2 _ _ v2 w3 j1 hR3).mono ?_
  rintro en w4 ⟨rfl, hB4, hR4'⟩
  have hR4 : XrB w4 b s J.1 J.2 (.slice a0 nc cap0) (.slice a1 gs.length cap1) v2 := by rw [← HJ.out]; exact hR4'
  have hBw4 := hBw3.trans hB4
  have hB04 := hB03.trans hB4
  clear hBw3 hB03 hR3 hR4' HJ
  obtain ⟨j3, b3⟩ := J
  dsimp only at hR4
  go_wp2_with fail
  refine (xmethodAt_any b gs d w4 (by omega) (HM.out w4 hBw4 hR4.c1)).mono ?_
  rintro en w5 ⟨rfl, hB5⟩
  have hR5 := hR4.but hB5 (fun h => h)
  have hBw5 : But (· = b) w w5 := hBw4.next hB5 (fun _ _ h => h.elim)
  have hB05 : But (· = b) W0 w5 := hB04.next hB5 (fun _ _ h => h.elim)
  obtain ⟨mt, hmt⟩ : ∃ mt, methX gs d = mt := ⟨_, rfl⟩
  rw [hmt]
  have HMT := hid hmt
  clear hmt hR4 hB5 hBw4 hB04 HM
  obtain ⟨ma, mr⟩ := mt
  dsimp only
  have p0 := hR5.c0
  have hbl5 := hR5.lt
  go_wp2_with fail
  have hB6 : But (fun _ => False) w5 ((w5.alloc (Obj.cells #[Value.int IntKind.u8 ma.toNat, Value.int IntKind.u8 mr.toNat] 243)).alloc (Obj.cells #[Value.int IntKind.u8 c.toNat, Value.int IntKind.u8 ma.toNat] 5)) := (But.alloc _ _ _).trans (But.alloc _ _ _)
  have hm6 : ((w5.alloc (Obj.cells #[Value.int IntKind.u8 ma.toNat, Value.int IntKind.u8 mr.toNat] 243)).alloc (Obj.cells #[Value.int IntKind.u8 c.toNat, Value.int IntKind.u8 ma.toNat] 5)).heap[w5.heap.size]? = some (Obj.cells #[Value.int IntKind.u8 ma.toNat, Value.int IntKind.u8 mr.toNat] 243) := by
   rw [(But.alloc (fun _ => False) (w5.alloc (Obj.cells #[Value.int IntKind.u8 ma.toNat, Value.int IntKind.u8 mr.toNat] 243)) (Obj.cells #[Value.int IntKind.u8 c.toNat, Value.int IntKind.u8 ma.toNat] 5)).block w5.heap.size (lt_of_block (heap_alloc_new w5 _)) (fun h => h)]
   exact heap_alloc_new w5 _
  have hl6 : BtB ((w5.alloc (Obj.cells #[Value.int IntKind.u8 ma.toNat, Value.int IntKind.u8 mr.toNat] 243)).alloc (Obj.cells #[Value.int IntKind.u8 c.toNat, Value.int IntKind.u8 ma.toNat] 5)) w5.heap.size (.slice (some ⟨w5.heap.size + 1, 0, none⟩) 2 2) [c, ma] := BtB.lit2 w5 _ [c, ma] (by simp)
  have hR6 := hR5.but hB6 (fun h => h)
  have hz6 : ((w5.alloc (Obj.cells #[Value.int IntKind.u8 ma.toNat, Value.int IntKind.u8 mr.toNat] 243)).alloc (Obj.cells #[Value.int IntKind.u8 c.toNat, Value.int IntKind.u8 ma.toNat] 5)).heap.size = w5.heap.size + 2 := by simp
  have hz6' : w5.heap.size + 2 ≤ ((w5.alloc (Obj.cells #[Value.int IntKind.u8 ma.toNat, Value.int IntKind.u8 mr.toNat] 243)).alloc (Obj.cells #[Value.int IntKind.u8 c.toNat, Value.int IntKind.u8 ma.toNat] 5)).heap.size := Nat.le_of_eq hz6.symm
  clear hz6 p0
  revert hB6 hm6 hl6 hR6 hz6'
  generalize ((w5.alloc (Obj.cells #[Value.int IntKind.u8 ma.toNat, Value.int IntKind.u8 mr.toNat] 243)).alloc (Obj.cells #[Value.int IntKind.u8 c.toNat, Value.int IntKind.u8 ma.toNat] 5)) = w6
  intro hB6 hm6 hl6 hR6 hz6
  have HM6 := hid hm6
  clear hm6
  refine (xtypes_all b s j3 b3 _ _ v2 w6 3 nc 58 (by decide) (by omega) hnc hs hR6).mono ?_
  rintro en w7 ⟨hB7, ao7, cap7, l, j7, bad7, rfl, hR7, hO7, hl7, hT7⟩
  have HFN := hid (HH3.out l j7 bad7 hT7)
  have hl7' := hl6.but hB7 (fun g hg h => by have := owns_ge hl6 g hg; omega)
  have hBw7 : But (· = b) w w7 := (hBw5.next hB6 (fun _ _ h => h.elim)).trans hB7
  have hB07 : But (· = b) W0 w7 := (hB05.next hB6 (fun _ _ h => h.elim)).trans hB7
  have hm7 := (hB7.block w5.heap.size (by omega) (by omega)).trans HM6.out
  have hz7 := hB7.size
  have hz5 := hBw5.size
  have hz05 := hB05.size
  have hn7 : w5.heap.size ≤ w7.heap.size := by omega
  clear hT7 HH3 hl6 hR6 hR5 HM6
  obtain ⟨LL, hLL⟩ : ∃ LL, [c, ma] ++ l = LL := ⟨_, rfl⟩
  have hLz : LL.length ≤ 5 := by rw [← hLL]; simp; omega
  have HLL := hid hLL
  clear hLL
  go_wp2_with (at_builtin; refine wpList_append_btl rfl _ _ rfl w5.heap.size w6.heap.size _ _ [c, ma] l LL HLL rfl rfl hl7' hO7 (by omega) hn7 ?_)
  intro ao8 cap8 w8 h8 hB8 hor
  have hl7ge := owns_ge hl7'
  have hBw8 : But (· = b) w w8 := hBw7.next hB8 (fun k hk h => by have := hl7ge k h; omega)
  have hR8 := hR7.but hB8 (fun h => by have := hl7ge _ h; omega)
  have hlit : (Value.slice (some ⟨w5.heap.size + 1, 0, none⟩) 2 2).ownBlock = some (w5.heap.size + 1) := rfl
  have hm8 := (hB8.block w5.heap.size (lt_of_block hm7) (fun h => by rw [hlit] at h; injection h with h; omega)).trans hm7
  have hg8 := (hB8.block w.heap.size (by omega) (fun h => by have := hl7ge _ h; omega)).trans ((hB07.block w.heap.size hgl (by omega)).trans HG0.out)
  have k1 : w8.cell? ⟨w5.heap.size, 1, none⟩ = some (.int .u8 mr.toNat) := by rw [cell_of_row w8 w5.heap.size 1 _ _ (0, 0) hm8]; rfl
  obtain ⟨q0, q1, q2, q3, q4⟩ := row5 hg8
  have f0 : w8.frozen? ⟨w.heap.size, 0, none⟩ = false := frozen_of_row w8 w.heap.size 0 _ _ hg8
  have f1 : w8.frozen? ⟨w.heap.size, 1, none⟩ = false := frozen_of_row w8 w.heap.size 1 _ _ hg8
  have f2 : w8.frozen? ⟨w.heap.size, 2, none⟩ = false := frozen_of_row w8 w.heap.size 2 _ _ hg8
  have f3 : w8.frozen? ⟨w.heap.size, 3, none⟩ = false := frozen_of_row w8 w.heap.size 3 _ _ hg8
  have f4 : w8.frozen? ⟨w.heap.size, 4, none⟩ = false := frozen_of_row w8 w.heap.size 4 _ _ hg8
  have HG8 := hid hg8
  have h8' : BtB w8 w.heap.size (.slice ao8 LL.length cap8) LL := World.ownsRow.mono h8 (by omega)
  have H8 := hid h8'
  have H8g := hid (owns_ge h8)
  clear hg8 hm8 hm7 h8 h8' hlit
  have hpost : ∀ w9, But (· = w.heap.size) w8 w9 → But (· = b) w w9 ∧ ∃ c' m r ao cap l j bad', Ending.returned (hdV c d mr (.slice ao8 LL.length cap8) (.slice none 0 0)) = .returned (hdV c' m r (.slice ao (List.length l) cap) (.slice none 0 0)) ∧ XrB w9 b s j bad' (.slice a0 nc cap0) (.slice a1 gs.length cap1) v2 ∧ BtB w9 w.heap.size (.slice ao l.length cap) l ∧ l.length ≤ 5 ∧
    ((bad' = false ∧ ∃ x t, headP s nc gs BS i = .ok ((x, m, t), j) ∧ c' = UInt8.ofNat (65 + x) ∧ x < nc ∧ m < gs.length ∧ r = (methX gs m).ret ∧ l = c' :: (methX gs m).arg :: t) ∨ (bad' = true ∧ headP s nc gs BS i = .error j)) := by
   intro w9 h9
   refine ⟨hBw8.next h9 (fun k hk h => by omega), c, d, mr, ao8, cap8, LL, j7, bad7, rfl, hR8.but h9 (by omega), H8.out.but h9 (fun g hg h => by have := H8g.out g hg; omega), hLz, ?_⟩
   rcases HFN.out with ⟨h1, x, h2, h3, h4, h5⟩ | h
   ·exact Or.inl ⟨h1, x, l, h2, h3, h4, h5, by rw [HMT.out], by rw [HMT.out, ← HLL.out]; rfl⟩
   ·exact Or.inr h
  have HP := hid hpost
  clear hpost
  go_wp2_with fail
  have h9b := put5_heap HG8.out (.int .u8 c.toNat) (.int .i64 d) (.int .u8 mr.toNat) (.slice ao8 LL.length cap8) (.slice none 0 0)
  have h9c := HP.out _ (put5_but w8 w.heap.size (.int .u8 c.toNat) (.int .i64 d) (.int .u8 mr.toNat) (.slice ao8 LL.length cap8) (.slice none 0 0))
  unfold put5 at h9b h9c
  revert h9b h9c
  generalize ((((w8.setCell ⟨w.heap.size, 0, none⟩ (.int .u8 c.toNat)).setCell ⟨w.heap.size, 1, none⟩ (.int .i64 d)).setCell ⟨w.heap.size, 2, none⟩ (.int .u8 mr.toNat)).setCell ⟨w.heap.size, 3, none⟩ (.slice ao8 LL.length cap8)).setCell ⟨w.heap.size, 4, none⟩ (.slice none 0 0) = w9
  intro h9b h9c
  obtain ⟨r0, r1, r2, r3, r4⟩ := row5 h9b
  exact bodyPost_ret (v := hdV c d mr (.slice ao8 LL.length cap8) (.slice none 0 0)) (by simp [hdV, results, Tryz.results167, go_sem, r0, r1, r2, r3, r4]) rfl h9c
 ·obtain ⟨J, hJ⟩ : ∃ J : Nat × Bool, (j2, b2) = J := ⟨_, rfl⟩
  have HH3 := hid (fun (t : List UInt8) (j : Nat) (bad' : Bool) => HH2.out t j bad' J (by rw [lookX, if_neg ho]; exact hJ))
  have HJ := hid hJ
  clear HH2 hJ
  have hR4 : XrB w3 b s J.1 J.2 (.slice a0 nc cap0) (.slice a1 gs.length cap1) v2 := by rw [← HJ.out]; exact hR3
  have hBw4 := hBw3
  have hB04 := hB03
  clear hBw3 hB03 hR3 HJ
  obtain ⟨j3, b3⟩ := J
  dsimp only at hR4
  go_wp2_with fail
  refine (xmethodAt_any b gs d w3 (by omega) (HM.out w3 hBw4 hR4.c1)).mono ?_
  rintro en w5 ⟨rfl, hB5⟩
  have hR5 := hR4.but hB5 (fun h => h)
  have hBw5 : But (· = b) w w5 := hBw4.next hB5 (fun _ _ h => h.elim)
  have hB05 : But (· = b) W0 w5 := hB04.next hB5 (fun _ _ h => h.elim)
  obtain ⟨mt, hmt⟩ : ∃ mt, methX gs d = mt := ⟨_, rfl⟩
  rw [hmt]
  have HMT := hid hmt
  clear hmt hR4 hB5 hBw4 hB04 HM
  obtain ⟨ma, mr⟩ := mt
  dsimp only
  have p0 := hR5.c0
  have hbl5 := hR5.lt
  go_wp2_with fail
  have hB6 : But (fun _ => False) w5 ((w5.alloc (Obj.cells #[Value.int IntKind.u8 ma.toNat, Value.int IntKind.u8 mr.toNat] 243)).alloc (Obj.cells #[Value.int IntKind.u8 c.toNat, Value.int IntKind.u8 ma.toNat] 5)) := (But.alloc _ _ _).trans (But.alloc _ _ _)
  have hm6 : ((w5.alloc (Obj.cells #[Value.int IntKind.u8 ma.toNat, Value.int IntKind.u8 mr.toNat] 243)).alloc (Obj.cells #[Value.int IntKind.u8 c.toNat, Value.int IntKind.u8 ma.toNat] 5)).heap[w5.heap.size]? = some (Obj.cells #[Value.int IntKind.u8 ma.toNat, Value.int IntKind.u8 mr.toNat] 243) := by
   rw [(But.alloc (fun _ => False) (w5.alloc (Obj.cells #[Value.int IntKind.u8 ma.toNat, Value.int IntKind.u8 mr.toNat] 243)) (Obj.cells #[Value.int IntKind.u8 c.toNat, Value.int IntKind.u8 ma.toNat] 5)).block w5.heap.size (lt_of_block (heap_alloc_new w5 _)) (fun h => h)]
   exact heap_alloc_new w5 _
  have hl6 : BtB ((w5.alloc (Obj.cells #[Value.int IntKind.u8 ma.toNat, Value.int IntKind.u8 mr.toNat] 243)).alloc (Obj.cells #[Value.int IntKind.u8 c.toNat, Value.int IntKind.u8 ma.toNat] 5)) w5.heap.size (.slice (some ⟨w5.heap.size + 1, 0, none⟩) 2 2) [c, ma] := BtB.lit2 w5 _ [c, ma] (by simp)
  have hR6 := hR5.but hB6 (fun h => h)
  have hz6 : ((w5.alloc (Obj.cells #[Value.int IntKind.u8 ma.toNat, Value.int IntKind.u8 mr.toNat] 243)).alloc (Obj.cells #[Value.int IntKind.u8 c.toNat, Value.int IntKind.u8 ma.toNat] 5)).heap.size = w5.heap.size + 2 := by simp
  have hz6' : w5.heap.size + 2 ≤ ((w5.alloc (Obj.cells #[Value.int IntKind.u8 ma.toNat, Value.int IntKind.u8 mr.toNat] 243)).alloc (Obj.cells #[Value.int IntKind.u8 c.toNat, Value.int IntKind.u8 ma.toNat] 5)).heap.size := Nat.le_of_eq hz6.symm
  clear hz6 p0
  revert hB6 hm6 hl6 hR6 hz6'
  generalize ((w5.alloc (Obj.cells #[Value.int IntKind.u8 ma.toNat, Value.int IntKind.u8 mr.toNat] 243)).alloc (Obj.cells #[Value.int IntKind.u8 c.toNat, Value.int IntKind.u8 ma.toNat] 5)) = w6
  intro hB6 hm6 hl6 hR6 hz6
  have HM6 := hid hm6
  clear hm6
  refine (xtypes_all b s j3 b3 _ _ v2 w6 3 nc 58 (by decide) (by omega) hnc hs hR6).mono ?_
  rintro en w7 ⟨hB7, ao7, cap7, l, j7, bad7, rfl, hR7, hO7, hl7, hT7⟩
  have HFN := hid (HH3.out l j7 bad7 hT7)
  have hl7' := hl6.but hB7 (fun g hg h => by have := owns_ge hl6 g hg; omega)
  have hBw7 : But (· = b) w w7 := (hBw5.next hB6 (fun _ _ h => h.elim)).trans hB7
  have hB07 : But (· = b) W0 w7 := (hB05.next hB6 (fun _ _ h => h.elim)).trans hB7
  have hm7 := (hB7.block w5.heap.size (by omega) (by omega)).trans HM6.out
  have hz7 := hB7.size
  have hz5 := hBw5.size
  have hz05 := hB05.size
  have hn7 : w5.heap.size ≤ w7.heap.size := by omega
  clear hT7 HH3 hl6 hR6 hR5 HM6
  obtain ⟨LL, hLL⟩ : ∃ LL, [c, ma] ++ l = LL := ⟨_, rfl⟩
  have hLz : LL.length ≤ 5 := by rw [← hLL]; simp; omega
  have HLL := hid hLL
  clear hLL
  go_wp2_with (at_builtin; refine wpList_append_btl rfl _ _ rfl w5.heap.size w6.heap.size _ _ [c, ma] l LL HLL rfl rfl hl7' hO7 (by omega) hn7 ?_)
  intro ao8 cap8 w8 h8 hB8 hor
  have hl7ge := owns_ge hl7'
  have hBw8 : But (· = b) w w8 := hBw7.next hB8 (fun k hk h => by have := hl7ge k h; omega)
  have hR8 := hR7.but hB8 (fun h => by have := hl7ge _ h; omega)
  have hlit : (Value.slice (some ⟨w5.heap.size + 1, 0, none⟩) 2 2).ownBlock = some (w5.heap.size + 1) := rfl
  have hm8 := (hB8.block w5.heap.size (lt_of_block hm7) (fun h => by rw [hlit] at h; injection h with h; omega)).trans hm7
  have hg8 := (hB8.block w.heap.size (by omega) (fun h => by have := hl7ge _ h; omega)).trans ((hB07.block w.heap.size hgl (by omega)).trans HG0.out)
  have k1 : w8.cell? ⟨w5.heap.size, 1, none⟩ = some (.int .u8 mr.toNat) := by rw [cell_of_row w8 w5.heap.size 1 _ _ (0, 0) hm8]; rfl
  obtain ⟨q0, q1, q2, q3, q4⟩ := row5 hg8
  have f0 : w8.frozen? ⟨w.heap.size, 0, none⟩ = false := frozen_of_row w8 w.heap.size 0 _ _ hg8
  have f1 : w8.frozen? ⟨w.heap.size, 1, none⟩ = false := frozen_of_row w8 w.heap.size 1 _ _ hg8
  have f2 : w8.frozen? ⟨w.heap.size, 2, none⟩ = false := frozen_of_row w8 w.heap.size 2 _ _ hg8
  have f3 : w8.frozen? ⟨w.heap.size, 3, none⟩ = false := frozen_of_row w8 w.heap.size 3 _ _ hg8
  have f4 : w8.frozen? ⟨w.heap.size, 4, none⟩ = false := frozen_of_row w8 w.heap.size 4 _ _ hg8
  have HG8 := hid hg8
  have h8' : BtB w8 w.heap.size (.slice ao8 LL.length cap8) LL := World.ownsRow.mono h8 (by omega)
  have H8 := hid h8'
  have H8g := hid (owns_ge h8)
  clear hg8 hm8 hm7 h8 h8' hlit
  have hpost : ∀ w9, But (· = w.heap.size) w8 w9 → But (· = b) w w9 ∧ ∃ c' m r ao cap l j bad', Ending.returned (hdV c d mr (.slice ao8 LL.length cap8) (.slice none 0 0)) = .returned (hdV c' m r (.slice ao (List.length l) cap) (.slice none 0 0)) ∧ XrB w9 b s j bad' (.slice a0 nc cap0) (.slice a1 gs.length cap1) v2 ∧ BtB w9 w.heap.size (.slice ao l.length cap) l ∧ l.length ≤ 5 ∧
    ((bad' = false ∧ ∃ x t, headP s nc gs BS i = .ok ((x, m, t), j) ∧ c' = UInt8.ofNat (65 + x) ∧ x < nc ∧ m < gs.length ∧ r = (methX gs m).ret ∧ l = c' :: (methX gs m).arg :: t) ∨ (bad' = true ∧ headP s nc gs BS i = .error j)) := by
   intro w9 h9
   refine ⟨hBw8.next h9 (fun k hk h => by omega), c, d, mr, ao8, cap8, LL, j7, bad7, rfl, hR8.but h9 (by omega), H8.out.but h9 (fun g hg h => by have := H8g.out g hg; omega), hLz, ?_⟩
   rcases HFN.out with ⟨h1, x, h2, h3, h4, h5⟩ | h
   ·exact Or.inl ⟨h1, x, l, h2, h3, h4, h5, by rw [HMT.out], by rw [HMT.out, ← HLL.out]; rfl⟩
   ·exact Or.inr h
  have HP := hid hpost
  clear hpost
  go_wp2_with fail
  have h9b := put5_heap HG8.out (.int .u8 c.toNat) (.int .i64 d) (.int .u8 mr.toNat) (.slice ao8 LL.length cap8) (.slice none 0 0)
  have h9c := HP.out _ (put5_but w8 w.heap.size (.int .u8 c.toNat) (.int .i64 d) (.int .u8 mr.toNat) (.slice ao8 LL.length cap8) (.slice none 0 0))
  unfold put5 at h9b h9c
  revert h9b h9c
  generalize ((((w8.setCell ⟨w.heap.size, 0, none⟩ (.int .u8 c.toNat)).setCell ⟨w.heap.size, 1, none⟩ (.int .i64 d)).setCell ⟨w.heap.size, 2, none⟩ (.int .u8 mr.toNat)).setCell ⟨w.heap.size, 3, none⟩ (.slice ao8 LL.length cap8)).setCell ⟨w.heap.size, 4, none⟩ (.slice none 0 0) = w9
  intro h9b h9c
  obtain ⟨r0, r1, r2, r3, r4⟩ := row5 h9b
  exact bodyPost_ret (v := hdV c d mr (.slice ao8 LL.length cap8) (.slice none 0 0)) (by simp [hdV, results, Tryz.results167, go_sem, r0, r1, r2, r3, r4]) rfl h9c
def put4 (w : World) (g : Nat) (x0 x1 x2 x3 : Value) : World := (((w.setCell ⟨g, 0, none⟩ x0).setCell ⟨g, 1, none⟩ x1).setCell ⟨g, 2, none⟩ x2).setCell ⟨g, 3, none⟩ x3
theorem put4_heap {w : World} {g t : Nat} {a0 a1 a2 a3 : Value} (h : w.heap[g]? = some (.cells #[a0, a1, a2, a3] t)) (x0 x1 x2 x3 : Value) : (put4 w g x0 x1 x2 x3).heap[g]? = some (.cells #[x0, x1, x2, x3] t) := by
 have h1 := heap_setCell_same w g 0 _ _ x0 h
 have h2 := heap_setCell_same _ g 1 _ _ x1 h1
 have h3 := heap_setCell_same _ g 2 _ _ x2 h2
 exact heap_setCell_same _ g 3 _ _ x3 h3
theorem put4_but (w : World) (g : Nat) (x0 x1 x2 x3 : Value) : But (· = g) w (put4 w g x0 x1 x2 x3) :=
 (((But.setB w g 0 x0).trans (But.setB _ g 1 x1)).trans (But.setB _ g 2 x2)).trans (But.setB _ g 3 x3)
theorem row4 {w : World} {g t : Nat} {x0 x1 x2 x3 : Value} (h : w.heap[g]? = some (.cells #[x0, x1, x2, x3] t)) :
  w.cell? ⟨g, 0, none⟩ = some x0 ∧ w.cell? ⟨g, 1, none⟩ = some x1 ∧ w.cell? ⟨g, 2, none⟩ = some x2 ∧ w.cell? ⟨g, 3, none⟩ = some x3 := by
 refine ⟨?_, ?_, ?_, ?_⟩
 ·rw [cell_of_row w g 0 _ _ (0, 0) h]; rfl
 ·rw [cell_of_row w g 1 _ _ (0, 0) h]; rfl
 ·rw [cell_of_row w g 2 _ _ (0, 0) h]; rfl
 ·rw [cell_of_row w g 3 _ _ (0, 0) h]; rfl
theorem froz4 {w : World} {g t : Nat} {x0 x1 x2 x3 : Value} (h : w.heap[g]? = some (.cells #[x0, x1, x2, x3] t)) :
  w.frozen? ⟨g, 0, none⟩ = false ∧ w.frozen? ⟨g, 1, none⟩ = false ∧ w.frozen? ⟨g, 2, none⟩ = false ∧ w.frozen? ⟨g, 3, none⟩ = false :=
 ⟨frozen_of_row w g 0 _ _ h, frozen_of_row w g 1 _ _ h, frozen_of_row w g 2 _ _ h, frozen_of_row w g 3 _ _ h⟩
end Go.Proofs.YtpfkkmacakjmbaaGreatDoor
