import Derived.Test.YtpfkkmacakjmbaaGreatDoorP16
import Derived.Deep.Upon
set_option maxRecDepth 100000
set_option maxHeartbeats 6400000
namespace Go.Proofs.YtpfkkmacakjmbaaGreatDoor
open Go Go.RowKit Sp
set_option linter.unusedSimpArgs false
set_option linter.unusedVariables false
attribute [local go_sem ↓] Go.wp_at_zero Go.wp_at_succ
theorem btCells_one (l : List UInt8) : ∀ u ∈ btCells l, u.oneCell' = true := by
 intro u hu
 obtain ⟨c, _, rfl⟩ := List.mem_map.1 hu
 rfl
theorem run_append_bts (w : World) (ty : TypeId) (base bx : Nat) (v xv : Value) (l m : List UInt8) (hown : BtB w base v l) (hx : BtB w bx xv m) (hlen : l.length + m.length ≤ 100000) (hbase : base ≤ w.heap.size) :
  ∃ v' w', (Builtin.append_ #[112, 112] ty #[v, xv]).run Tryz.prog w = .ok v' w' ∧ BtB w' base v' (l ++ m) ∧ But (fun k => v.ownBlock = some k) w w' ∧ (v'.ownBlock = v.ownBlock ∨ v'.ownBlock = some w.heap.size) := by
 obtain ⟨i0, hi0, hz0, hz1, hz2⟩ := info_parts info_u8
 have hu : Tryz.prog.underlying 112 = some (.slice 5) := by kernel_rfl
 obtain ⟨ax, cx, rfl⟩ := owns_len hx
 cases ax with
 | none =>
  have hm : m.length = 0 := by
   rcases Nat.eq_zero_or_pos m.length with h | h
   ·exact h
   ·obtain ⟨g, hg, _⟩ := owns_two hx h
    cases hg
  have hm0 : m = [] := List.length_eq_zero_iff.1 hm
  subst hm0
  have hc : ∃ ao cap, v = .slice ao l.length cap ∧ l.length ≤ cap := by
   rcases hown.2 with ⟨rfl, h0⟩ | ⟨g, cap, cur, rfl, _, _, hle, _⟩
   ·exact ⟨none, 0, by rw [h0], by omega⟩
   ·exact ⟨_, cap, rfl, hle⟩
  obtain ⟨ao, cap, rfl, hle⟩ := hc
  refine ⟨_, w, run_append_nothing w _ _ ty 5 i0 hu hi0 ao l.length cap hle _ (by rw [hz1]; exact Src.ofNil w hu cx), by simpa using hown, But.refl _ _, Or.inl rfl⟩
 | some ad =>
  have hcell : ∀ j u, (btCells m)[j]? = some u → w.cell? (ad.add j) = some u := by
   intro j u hj
   obtain ⟨g, cap', hv, hc, _⟩ := owns_cell hx hj
   have h1 : ad = ⟨g, 0, none⟩ := by
    have h2 := congrArg (fun v => match v with | Value.slice a _ _ => a | _ => none) hv
    exact Option.some.inj h2
   rw [h1]
   have e : (⟨g, 0, none⟩ : Addr).add j = ⟨g, j, none⟩ := by simp [Addr.add]; exact fun h => h.symm
   rw [e]
   exact hc
  obtain ⟨v', w', hr, h2, h3, _, h5⟩ := run_append_own_at (P := Tryz.prog) w base _ ty 5 i0 _ 1 1 hu hi0 hz0 hz1 hz2 rfl (by omega) v l.length (btCells l) hown ad m.length cx (btCells m) (by simp [btCells]) hcell (btCells_one m) (by unfold maxLen; omega) (by omega) hbase
  refine ⟨v', w', hr, ?_, but_grown h3, h5⟩
  unfold BtB
  rw [List.length_append, btCells, List.map_append]
  exact h2
theorem wpList_append_bts {w : World} {ops : Array Oper} {rest : List Oper} {o : Oper} {a : Act} {Q : Exit → Act → World → Prop} (hgd : o.guard = none) (s x : Operand)
  (ho : o.op = .call { callee := .builtin .append, args := #[s, x], argTypes := #[112, 112] }) (base bx : Nat) (v xv : Value) (l m : List UInt8) (hs : a.eval s = v) (hx : a.eval x = xv) (hown : BtB w base v l) (hxo : BtB w bx xv m) (hlen : l.length + m.length ≤ 100000) (hbase : base ≤ w.heap.size)
  (h : ∀ ao cap w', BtB w' base (.slice ao (l ++ m).length cap) (l ++ m) → But (fun k => v.ownBlock = some k) w w' → ((Value.slice ao (l ++ m).length cap).ownBlock = v.ownBlock ∨ (Value.slice ao (l ++ m).length cap).ownBlock = some w.heap.size) → wpList Tryz.prog ops Q rest (a.put o.dst (.slice ao (l ++ m).length cap)) w') : wpList Tryz.prog ops Q (o :: rest) a w := by
 refine wpList_plain hgd fun K hK => ?_
 obtain ⟨v', w', hr, h1, h2, h3⟩ := run_append_bts w o.type base bx v xv l m hown hxo hlen hbase
 obtain ⟨ao, cap, rfl⟩ := owns_len h1
 unfold Oper.wp execOp
 simp only [ho, resolve, invoke, builtin, Sem.run_bind, Sem.run_pure, Result.andThen_ok, List.map_toArray, List.map_cons, List.map_nil, hs, hx, hr]
 exact hK _ _ (h ao cap w' h1 h2 h3)
structure XIt where
 place : Nat
 op : UInt8
 cls : UInt8
 num : Nat
 pa : Option Addr
 pn : Nat
 pc : Nat
structure XBod where
 cls : UInt8
 meth : Nat
 ans : UInt8
 locals : List UInt8
 items : List XIt
def itCells (l : List XIt) : List Value := l.flatMap fun x => [.int .i64 x.place, .int .u8 x.op.toNat, .int .u8 x.cls.toNat, .int .i64 x.num, .slice x.pa x.pn x.pc]
def xbCells (l : List (XBod × Value × Value)) : List Value := l.flatMap fun x => [.int .u8 x.1.cls.toNat, .int .i64 x.1.meth, .int .u8 x.1.ans.toNat, x.2.1, x.2.2]
theorem itCells_snoc (l : List XIt) (x : XIt) : itCells (l ++ [x]) = itCells l ++ [.int .i64 x.place, .int .u8 x.op.toNat, .int .u8 x.cls.toNat, .int .i64 x.num, .slice x.pa x.pn x.pc] := by simp [itCells]
theorem xbCells_snoc (l : List (XBod × Value × Value)) (x : XBod × Value × Value) : xbCells (l ++ [x]) = xbCells l ++ [.int .u8 x.1.cls.toNat, .int .i64 x.1.meth, .int .u8 x.1.ans.toNat, x.2.1, x.2.2] := by simp [xbCells]
theorem xcCells_snoc (l : List (XCls × Value)) (x : XCls × Value) : xcCells (l ++ [x]) = xcCells l ++ [.int .u8 x.1.par.toNat, x.2] := by simp [xcCells]
theorem itCells_at {l : List XIt} {j k : Nat} {x : XIt} (h : l[j]? = some x) (hk : k < 5) : (itCells l)[j * 5 + k]? = [Value.int .i64 x.place, .int .u8 x.op.toNat, .int .u8 x.cls.toNat, .int .i64 x.num, .slice x.pa x.pn x.pc][k]? :=
 flat_at (fun x : XIt => [Value.int .i64 x.place, .int .u8 x.op.toNat, .int .u8 x.cls.toNat, .int .i64 x.num, .slice x.pa x.pn x.pc]) 5 (fun _ => rfl) l j k x h hk
theorem xbCells_at {l : List (XBod × Value × Value)} {j k : Nat} {x : XBod × Value × Value} (h : l[j]? = some x) (hk : k < 5) : (xbCells l)[j * 5 + k]? = [Value.int .u8 x.1.cls.toNat, .int .i64 x.1.meth, .int .u8 x.1.ans.toNat, x.2.1, x.2.2][k]? :=
 flat_at (fun x : XBod × Value × Value => [Value.int .u8 x.1.cls.toNat, .int .i64 x.1.meth, .int .u8 x.1.ans.toNat, x.2.1, x.2.2]) 5 (fun _ => rfl) l j k x h hk
theorem itCells_len (l : List XIt) : (itCells l).length = l.length * 5 := by
 induction l with
 | nil => rfl
 | cons x l ih => simp [itCells] at ih ⊢; omega
def ItB (w : World) (base : Nat) (v : Value) (l : List XIt) : Prop := w.ownsRow base 219 5 v l.length (itCells l)
def TcV (w : World) (base : Nat) (v : Value) (cs : List XCls) : Prop :=
 ∃ l, w.ownsRow base 240 2 v l.length (xcCells l) ∧ l.map (·.1) = cs ∧ ∀ x ∈ l, BtB w base x.2 x.1.fields
def TmV (w : World) (base : Nat) (v : Value) (ms : List Sig) : Prop := w.ownsRow base 243 2 v ms.length (sigCells ms)
def TbV (w : World) (base : Nat) (v : Value) (bs : List XBod) : Prop :=
 ∃ l, w.ownsRow base 115 5 v l.length (xbCells l) ∧ l.map (·.1) = bs ∧ ∀ x ∈ l, BtB w base x.2.1 x.1.locals ∧ ItB w base x.2.2 x.1.items
theorem owns_off {F : Nat → Prop} {w w' : World} {base e size n : Nat} {v : Value} {xs : List Value} (h : w.ownsRow base e size v n xs) (hb : But F w w') (hf : ∀ g cur, w.heap[g]? = some (.cells cur e) → base ≤ g → ¬ F g) : w'.ownsRow base e size v n xs := by
 refine ⟨h.1, ?_⟩
 rcases h.2 with h2 | ⟨g, cap, cur, hv, hg, hh, r⟩
 ·exact Or.inl h2
 ·exact Or.inr ⟨g, cap, cur, hv, hg, (hb.block g (lt_of_block hh) (hf g cur hh hg)).trans hh, r⟩
theorem owns_kind {w : World} {base e size n : Nat} {v : Value} {xs : List Value} (h : w.ownsRow base e size v n xs) {g : Nat} (hg : v.ownBlock = some g) : ∃ cur, w.heap[g]? = some (.cells cur e) := by
 rcases h.2 with ⟨rfl, _⟩ | ⟨g', cap, cur, rfl, hb, hh, _⟩
 ·cases hg
 ·simp [Value.ownBlock] at hg; subst hg; exact ⟨_, hh⟩
theorem owns_apart {w : World} {base e size n : Nat} {v : Value} {xs : List Value} (h : w.ownsRow base e size v n xs) {g e' : Nat} {cur : Array Value} (hh : w.heap[g]? = some (.cells cur e')) (hne : e' ≠ e) : ¬ v.ownBlock = some g := by
 intro hg
 obtain ⟨c, hc⟩ := owns_kind h hg
 rw [hc] at hh
 injection hh with hh
 injection hh with h1 h2
 exact hne h2.symm
theorem TcV.but {F : Nat → Prop} {w w' : World} {base : Nat} {v : Value} {cs : List XCls} (h : TcV w base v cs) (hb : But F w w') (hf : ∀ g e cur, w.heap[g]? = some (.cells cur e) → (e = 240 ∨ e = 5) → base ≤ g → ¬ F g) : TcV w' base v cs := by
 obtain ⟨l, h1, h2, h3⟩ := h
 exact ⟨l, owns_off h1 hb (fun g cur hh hg => hf g _ cur hh (Or.inl rfl) hg), h2, fun x hx => owns_off (h3 x hx) hb (fun g cur hh hg => hf g _ cur hh (Or.inr rfl) hg)⟩
theorem TmV.but {F : Nat → Prop} {w w' : World} {base : Nat} {v : Value} {ms : List Sig} (h : TmV w base v ms) (hb : But F w w') (hf : ∀ g e cur, w.heap[g]? = some (.cells cur e) → (e = 243) → base ≤ g → ¬ F g) : TmV w' base v ms :=
 owns_off h hb (fun g cur hh hg => hf g _ cur hh rfl hg)
theorem TbV.but {F : Nat → Prop} {w w' : World} {base : Nat} {v : Value} {bs : List XBod} (h : TbV w base v bs) (hb : But F w w') (hf : ∀ g e cur, w.heap[g]? = some (.cells cur e) → (e = 115 ∨ e = 5 ∨ e = 219) → base ≤ g → ¬ F g) : TbV w' base v bs := by
 obtain ⟨l, h1, h2, h3⟩ := h
 exact ⟨l, owns_off h1 hb (fun g cur hh hg => hf g _ cur hh (Or.inl rfl) hg), h2, fun x hx => ⟨owns_off (h3 x hx).1 hb (fun g cur hh hg => hf g _ cur hh (Or.inr (Or.inl rfl)) hg), owns_off (h3 x hx).2 hb (fun g cur hh hg => hf g _ cur hh (Or.inr (Or.inr rfl)) hg)⟩⟩
theorem TcV.tx {w : World} {base b : Nat} {v : Value} {cs : List XCls} (h : TcV w base v cs) (hc : w.cell? ⟨b, 0, none⟩ = some v) (hb : b < w.heap.size) : TxC w b cs := by
 obtain ⟨l, h1, h2, h3⟩ := h
 exact ⟨v, l, hc, hb, h1.mono (Nat.zero_le _), h2, fun x hx => World.ownsRow.mono (h3 x hx) (Nat.zero_le _)⟩
theorem TmV.tx {w : World} {base b : Nat} {v : Value} {ms : List Sig} (h : TmV w base v ms) (hc : w.cell? ⟨b, 1, none⟩ = some v) (hb : b < w.heap.size) : TxM w b ms :=
 ⟨v, hc, hb, World.ownsRow.mono h (Nat.zero_le _)⟩
theorem TcV.len {w : World} {base : Nat} {v : Value} {cs : List XCls} (h : TcV w base v cs) : ∃ ao cap, v = .slice ao cs.length cap := by
 obtain ⟨l, h1, h2, h3⟩ := h
 obtain ⟨ao, cap, hv⟩ := owns_len h1
 exact ⟨ao, cap, by rw [hv, ← h2]; simp⟩
theorem TbV.len {w : World} {base : Nat} {v : Value} {bs : List XBod} (h : TbV w base v bs) : ∃ ao cap, v = .slice ao bs.length cap := by
 obtain ⟨l, h1, h2, h3⟩ := h
 obtain ⟨ao, cap, hv⟩ := owns_len h1
 exact ⟨ao, cap, by rw [hv, ← h2]; simp⟩
def tysB (s : ByteArray) (n : Nat) (e : UInt8) (most i : Nat) (bad : Bool) : Except Nat (List UInt8 × Nat) := if bad = true then .error i else tys s n e most [] i
theorem xtypes_all (b : Nat) (s : ByteArray) (i : Nat) (bad : Bool) (v0 v1 : Value) (v2 : RdV) (w : World) (most n : Nat) (e : UInt8) (he : 0 < e.toNat) (hm : most ≤ 10) (hn : n ≤ 4) (hs : s.size ≤ 2000) (hR : XrB w b s i bad v0 v1 v2) :
  Calls Tryz.prog 216 #[.pointer (some ⟨b, 0, none⟩), .int .i64 most, .int .i64 n, .int .u8 e.toNat] w fun en w' => But (· = b) w w' ∧ ∃ ao cap l j bad', en = .returned (.slice ao l.length cap) ∧ XrB w' b s j bad' v0 v1 v2 ∧ BtB w' w.heap.size (.slice ao l.length cap) l ∧ l.length ≤ most ∧
   ((bad' = false ∧ tysB s n e most i bad = .ok (l, j)) ∨ (bad' = true ∧ tysB s n e most i bad = .error j)) := by
 cases bad with
 | false =>
  refine (xtypes_any b s i v0 v1 v2 w most n e he hm hn hs hR).mono ?_
  rintro en w' ⟨h1, v, l, j, bad', rfl, h3, h4, h5, h6⟩
  obtain ⟨ao, cap, rfl⟩ := owns_len h4
  exact ⟨h1, ao, cap, l, j, bad', rfl, h3, h4, h5, h6⟩
 | true =>
  refine (xtypes_bad b s i v0 v1 v2 w most n e he hm hs hR).mono ?_
  rintro en w' ⟨h1, rfl, h3, h4⟩
  exact ⟨h1, _, 0, [], i, true, rfl, h3, h4, by simp, Or.inr ⟨rfl, rfl⟩⟩
def lineP (s : ByteArray) (cs : List Cls) (i : Nat) : Except Nat (Cls × Nat) :=
 match parP s cs.length i with
 | .error j => .error j
 | .ok (p, j) =>
  match tys s (cs.length + 1) 46 2 [] j with
  | .error l => .error l
  | .ok (own, l) => .ok (⟨p, inh cs p ++ own⟩, l)
theorem inh_flds {s : ByteArray} {cs : List Cls} {i j : Nat} {p : Int} (h : parP s cs.length i = .ok (p, j)) : inh cs p = fldsX (cs.map toX) (pk s i) ∧ (if p < 0 then 45 else UInt8.ofNat (65 + p.toNat)) = pk s i := by
 obtain ⟨_, h1 | h1⟩ := parP_ok h
 ·obtain ⟨rfl, h2⟩ := h1
  have h3 : isLet cs.length (pk s i) = false := by simp [isLet, h2]
  refine ⟨by simp [inh, fldsX, h3], ?_⟩
  rw [if_pos (by omega)]
  exact UInt8.toNat_inj.1 h2.symm
 ·obtain ⟨_, h2, rfl⟩ := h1
  have h2' := h2
  simp only [isLet, Bool.and_eq_true, decide_eq_true_eq] at h2'
  have hlt : (pk s i).toNat < 256 := (pk s i).toNat_lt
  refine ⟨?_, ?_⟩
  ·unfold inh fldsX
   rw [if_neg (by omega), List.length_map, if_pos h2, List.getElem?_map, Int.toNat_natCast]
   cases cs[(pk s i).toNat - 65]? <;> rfl
  ·rw [if_neg (by omega)]
   apply UInt8.toNat_inj.1
   simp
   omega
theorem line_fin {s : ByteArray} {cs : List Cls} {i : Nat} {own : List UInt8} {j : Nat} {bad' : Bool} (P : UInt8 × Nat × Bool) (hP : paX s cs.length i false = P)
  (hT : (bad' = false ∧ tysB s (cs.length + 1) 46 2 P.2.1 P.2.2 = .ok (own, j)) ∨ (bad' = true ∧ tysB s (cs.length + 1) 46 2 P.2.1 P.2.2 = .error j)) :
  (bad' = false ∧ ∃ c, lineP s cs i = .ok (c, j) ∧ toX c = ⟨P.1, fldsX (cs.map toX) P.1 ++ own⟩) ∨ (bad' = true ∧ lineP s cs i = .error j) := by
 unfold paX at hP
 by_cases hg : (pk s i).toNat = 45 ∨ isLet cs.length (pk s i) = true
 ·rw [if_pos ⟨rfl, hg⟩] at hP
  subst hP
  have hp : ∃ p, parP s cs.length i = .ok (p, i + 1) := by
   unfold parP letP
   by_cases h45 : (pk s i).toNat = 45
   ·exact ⟨-1, by rw [if_pos h45]⟩
   ·rcases hg with h | h
    ·exact absurd h h45
    ·exact ⟨_, by rw [if_neg h45, if_pos h]⟩
  obtain ⟨p, hp⟩ := hp
  obtain ⟨h1, h2⟩ := inh_flds hp
  simp only [tysB, Bool.false_eq_true, if_false] at hT
  unfold lineP
  simp only [hp]
  rcases hT with ⟨h3, h4⟩ | ⟨h3, h4⟩
  ·left
   refine ⟨h3, ?_⟩
   simp only [h4]
   exact ⟨_, rfl, by simp only [toX, h1, h2]⟩
  ·right
   refine ⟨h3, ?_⟩
   simp only [h4]
 ·rw [if_neg (fun h => hg h.2)] at hP
  subst hP
  simp only [tysB, if_true] at hT
  have hp : parP s cs.length i = .error i := by
   have hg' := not_or.1 hg
   unfold parP letP
   rw [if_neg hg'.1, if_neg hg'.2]
  right
  unfold lineP
  simp only [hp]
  rcases hT with ⟨_, h⟩ | ⟨h, h'⟩
  ·cases h
  ·cases h'
   exact ⟨h, rfl⟩
theorem flds_len {cs : List Cls} (hw : WfC cs) (hn : cs.length ≤ 4) (c : UInt8) : (fldsX (cs.map toX) c).length ≤ 2 * cs.length := by
 unfold fldsX
 split
 ·rw [List.getElem?_map]
  cases hc : cs[c.toNat - 65]? with
  | none => simp
  | some x =>
   have h1 := (List.getElem?_eq_some_iff.1 hc).1
   have h2 := (hw _ _ hc).2.2.1
   simp [toX]
   omega
 ·simp
theorem xclassLine_any (b base : Nat) (s : ByteArray) (i : Nat) (v0 v1 : Value) (v2 : RdV) (w : World) (SC : List Cls) (hw : WfC SC) (hn : SC.length ≤ 3) (hs : s.size ≤ 2000) (hR : XrB w b s i false v0 v1 v2) (hC : TcV w base v0 (SC.map toX)) (hb : b < base) (hbase : base ≤ w.heap.size) :
  Calls Tryz.prog 164 #[.pointer (some ⟨b, 0, none⟩)] w fun en w' => But (· = b) w w' ∧ ∃ par ao cap fl j bad', en = .returned (.agg #[.int .u8 (UInt8.toNat par), .slice ao (List.length fl) cap]) ∧ XrB w' b s j bad' v0 v1 v2 ∧ BtB w' w.heap.size (.slice ao fl.length cap) fl ∧ fl.length ≤ 10 ∧
   ((bad' = false ∧ ∃ c, lineP s SC i = .ok (c, j) ∧ toX c = ⟨par, fl⟩) ∨ (bad' = true ∧ lineP s SC i = .error j)) := by
 obtain ⟨i0, hi0, hz0, hz1, hz2⟩ := info_parts info_u8
 obtain ⟨ac, capc, hv0⟩ := hC.len
 subst hv0
 simp only [List.length_map] at hR hC ⊢
 have h0 := hR.c0
 have hbw := hR.lt
 have hsz3 : SC.length + 1 ≤ 4 := by omega
 have HK := hid (fun (w' : World) (h : But (· = b) w w') => hC.but h (fun g e cur _ _ hg he => by omega))
 have hTl : (SC.map toX).length = SC.length := by simp
 have HTL := hid hTl
 clear hTl hC
 obtain ⟨n, hnn⟩ : ∃ n, SC.length = n := ⟨_, rfl⟩
 have HFL := hid (fun c => flds_len hw (by omega) c)
 have HLF := hid (fun (own : List UInt8) (j : Nat) (bad' : Bool) => line_fin (s := s) (cs := SC) (i := i) (own := own) (j := j) (bad' := bad') (paX s SC.length i false) rfl)
 rw [hnn] at HLF HFL HTL
 rw [hnn] at h0 hR hsz3 HK
 simp only [hnn]
 clear hnn hw hn
 go_enter Tryz.func164, Tryz.ntmps164
 go_wp2_with fail
 have hB0 : But (· = b) w (w.alloc (Obj.cells #[Value.int IntKind.u8 0, Value.slice none 0 0] 240)) := But.alloc _ _ _
 have hR0 : XrB (w.alloc (Obj.cells #[Value.int IntKind.u8 0, Value.slice none 0 0] 240)) b s i false (.slice ac n capc) v1 v2 := hR.but (But.alloc (fun _ => False) _ _) (fun h => h)
 have hg0 := heap_alloc_new w (Obj.cells #[Value.int IntKind.u8 0, Value.slice none 0 0] 240)
 clear h0
 revert hB0 hR0 hg0
 generalize (w.alloc (Obj.cells #[Value.int IntKind.u8 0, Value.slice none 0 0] 240)) = W0
 intro hB0 hR0 hg0
 refine (xparent_any b s i false v1 v2 W0 n capc ac (by omega) hs hR0).mono ?_
 rintro en w1 ⟨rfl, hB1, hR1⟩
 revert HLF hR1
 generalize paX s n i false = Y
 intro HLF hR1
 obtain ⟨par, i1, bad1⟩ := Y
 simp only at hR1
 go_wp2_with fail
 refine (xtypes_all b s i1 bad1 _ v1 v2 w1 2 (n + 1) 46 (by decide) (by omega) hsz3 hs hR1).mono ?_
 rintro en w2 ⟨hB2, ao2, cap2, own, j2, bad2, rfl, hR2, hO2, hl2, hT2⟩
 have HFN := hid (HLF.out own j2 bad2 hT2)
 clear HLF hT2
 go_wp2_with fail
 have hB2' : But (· = b) w w2 := (hB0.trans hB1).trans hB2
 have hB3 : But (· = b) w (w2.alloc (.cells #[] 5)) := hB2'.trans (But.alloc _ _ _)
 have hE := BtB.empty w2
 have hR3 := hR2.but (But.alloc (fun _ => False) w2 (.cells #[] 5)) (fun h => h)
 have hO3 := hO2.but (But.alloc (fun _ => False) w2 (.cells #[] 5)) (fun _ _ h => h)
 have hsz2 := hB2'.size
 have hs02 := hB0.size
 have hs01 := hB1.size
 have hs12 := hB2.size
 have hOlt := fun g hg => owns_lt hO2 g hg
 have hgl := lt_of_block hg0
 have hg3 := ((But.alloc (fun _ => False) w2 (.cells #[] 5)).block w.heap.size (by omega) (fun h => h)).trans ((hB2.block w.heap.size (by omega) (by omega)).trans ((hB1.block w.heap.size (by omega) (by omega)).trans hg0))
 have HG3 := hid hg3
 clear hg3 hg0
 have hs23 : w2.heap.size ≤ (w2.alloc (.cells #[] 5)).heap.size := by simp
 clear hR2 hO2
 revert hB3 hE hR3 hO3 hs23 HG3
 generalize (w2.alloc (.cells #[] 5)) = w3
 intro hB3 hE hR3 hO3 HG3 hs23
 have HX := hid (fun (wx : World) (h : But (· = b) w wx) (h' : XrB wx b s j2 bad2 (.slice ac n capc) v1 v2) => (HK.out wx h).tx h'.c0 h'.lt)
 have hfc := xfc_any b (SC.map toX) par w3 (by rw [HTL.out]; omega) (HX.out w3 hB3 hR3)
 have hfl := HFL.out par
 obtain ⟨FX, hFX⟩ : ∃ FX, fldsX (SC.map toX) par = FX := ⟨_, rfl⟩
 rw [hFX] at hfc hfl
 have HFX := hid hFX
 have HFC := hid hfc
 clear hFX hfc
 refine HFC.out.mono ?_
 rintro en wx ⟨rfl, hwx⟩
 rw [hwx]
 clear hwx wx HFC
 go_wp2_with fail
 go_loopg [6, 8] FX.length (fun mm vs is wr => ∃ (ao : Option Addr) (cap k : Nat) (t : List UInt8), vs = .slice ao t.length cap ∧ is = .int .i64 k ∧ k ≤ FX.length ∧ k + mm ≤ FX.length ∧ FX.length ≤ k + mm ∧ w2.heap.size ≤ wr.heap.size ∧ But (· = b) w wr ∧ XrB wr b s j2 bad2 (.slice ac n capc) v1 v2 ∧ BtB wr w2.heap.size (.slice ao t.length cap) t ∧ BtB wr w1.heap.size (.slice ao2 own.length cap2) own ∧ Hid (wr.heap[w.heap.size]? = some (Obj.cells #[Value.int IntKind.u8 0, Value.slice none 0 0] 240)) ∧ t.length ≤ k ∧ Hid (FX.take k = t))
 case atStart => exact ⟨_, 0, 0, [], rfl, rfl, by omega, by omega, by omega, hs23, hB3, hR3, hE, hO3, HG3, by simp, rfl⟩
 case round =>
  obtain ⟨ao, cap, k, t, rfl, rfl, hk1, hk2, hk3, hwr2, hBr, hRr, hBt, hOr, HGr, htk, HA⟩ := hrel
  clear hk2
  by_cases hlt : k < FX.length
  ·have e1 : (k : Int) < (FX.length : Int) := by omega
   have hft := xft_any b (SC.map toX) par k wr (by rw [HTL.out]; omega) (HX.out wr hBr hRr)
   rw [HFX.out, show tatX FX k = FX.getD k 0 from by unfold tatX; rw [if_pos hlt]] at hft
   have HNX : Hid (FX.take (k + 1) = t ++ [FX.getD k 0]) := by
    show _ = _
    rw [List.take_succ_eq_append_getElem hlt, HA.out]
    simp [List.getD, hlt]
   revert hft HNX
   generalize FX.getD k 0 = z
   intro hft HNX
   have HFT := hid hft
   clear hft HA
   go_wp2_with fail
   refine HFT.out.mono ?_
   rintro en wx ⟨rfl, hwx⟩
   rw [hwx]
   clear hwx wx HFT
   have hO1 : wr.ownsRow w2.heap.size 5 1 (.slice ao t.length cap) t.length (btCells t) := hBt
   have hsz := hBr.size
   have hlr := owns_ge hO1
   go_wp2_with (at_builtin; refine wpList_append_lies _ rfl _ _ _ rfl w2.heap.size 5 i0 _ 1 1 (by kernel_rfl) hi0 hz0 hz1 hz2 rfl (by omega) _ t.length (btCells t) rfl (hO1.alloc _) ⟨wr.heap.size, 0, none⟩ 1 1 [.int .u8 z.toNat] rfl rfl (World.news_of_block (cs := #[.int .u8 z.toNat]) (t := 5) (fr := (0, 0)) (heap_alloc_new wr _)) (by simp [Value.oneCell']) (by omega) (by unfold maxLen; omega) (by omega) (by simp; omega) (wr.heap.size + 1) (by simp) ?_)
   intro gg cap3 w4 hown2 hgrow hat hlt2
   have hSW : But (fun k' => (Value.slice ao t.length cap).ownBlock = some k') wr w4 := (But.alloc _ _ _).trans (but_grown hgrow)
   have hBw4 : But (· = b) w w4 := hBr.next hSW (fun k' hk' h => absurd (owns_ge hO1 k' h) (by omega))
   have hR4 := hRr.but hSW (fun h => by have := owns_ge hO1 _ h; omega)
   have hBt4 : BtB w4 w2.heap.size (.slice (some ⟨gg, 0, none⟩) (t ++ [z]).length cap3) (t ++ [z]) := by
    unfold BtB
    rw [List.length_append, btCells, List.map_append]
    exact hown2
   have hO4 := hOr.but hSW (fun g hg h => by have := owns_ge hO1 _ h; have := hOlt g hg; omega)
   go_wp2_with fail
   go_roundg (FX.length - (k + 1))
   case measure => omega
   case rel => exact ⟨_, cap3, k + 1, t ++ [z], by simp, by simp, by omega, by omega, by omega, Nat.le_trans hwr2 hSW.size, hBw4, hR4, hBt4, hO4, (hSW.block w.heap.size (by omega) (fun h => by have := owns_ge hO1 _ h; omega)).trans HGr.out, by simp; omega, HNX.out⟩
  ·have e1 : ¬ (k : Int) < (FX.length : Int) := by omega
   have hres : FX = t := by rw [← HA.out, List.take_of_length_le (by omega)]
   have HRS := hid hres
   clear hres HA
   go_wp2_with (at_builtin; refine wpList_append_bts rfl _ _ rfl w2.heap.size w1.heap.size _ _ t own rfl rfl hBt hOr (by omega) (by omega) ?_)
   intro ao5 cap5 w5 h5 hB5 hor
   have hBw5 : But (· = b) w w5 := hBr.next hB5 (fun k' hk' h => absurd (owns_ge hBt k' h) (by omega))
   have hR5 := hRr.but hB5 (fun h => by have := owns_ge hBt _ h; omega)
   have hg5 := (hB5.block w.heap.size (by omega) (fun h => by have := owns_ge hBt _ h; omega)).trans HGr.out
   have q0 : w5.cell? ⟨w.heap.size, 0, none⟩ = some (.int .u8 0) := by rw [cell_of_row w5 w.heap.size 0 _ _ (0, 0) hg5]; rfl
   have q1 : w5.cell? ⟨w.heap.size, 1, none⟩ = some (.slice none 0 0) := by rw [cell_of_row w5 w.heap.size 1 _ _ (0, 0) hg5]; rfl
   have f0 : w5.frozen? ⟨w.heap.size, 0, none⟩ = false := frozen_of_row w5 w.heap.size 0 _ _ hg5
   have f1 : w5.frozen? ⟨w.heap.size, 1, none⟩ = false := frozen_of_row w5 w.heap.size 1 _ _ hg5
   have hlen5 := lt_of_block hg5
   have HG5 := hid hg5
   clear hg5 HGr
   have hpost : ∀ w6, But (· = w.heap.size) w5 w6 → But (· = b) w w6 ∧ ∃ par' ao cap fl j bad', Ending.returned (.agg #[.int .u8 par.toNat, .slice ao5 ((t ++ own).length : Nat) cap5]) = .returned (.agg #[.int .u8 (UInt8.toNat par'), .slice ao (List.length fl) cap]) ∧ XrB w6 b s j bad' (.slice ac n capc) v1 v2 ∧ BtB w6 w.heap.size (.slice ao fl.length cap) fl ∧ fl.length ≤ 10 ∧
     ((bad' = false ∧ ∃ c, lineP s SC i = .ok (c, j) ∧ toX c = ⟨par', fl⟩) ∨ (bad' = true ∧ lineP s SC i = .error j)) := by
    intro w6 h6
    have h5' : BtB w5 w2.heap.size (.slice ao5 (t ++ own).length cap5) (t ++ own) := by first | exact h5 | (rw [List.length_append]; exact h5)
    refine ⟨hBw5.next h6 (fun k hk h => by omega), par, ao5, cap5, t ++ own, j2, bad2, rfl, hR5.but h6 (by omega), BtB.but (World.ownsRow.mono h5' (by omega)) h6 (fun g hg h => by have := owns_ge h5' g hg; omega), by simp; omega, ?_⟩
    rw [← HRS.out, ← HFX.out]
    exact HFN.out
   have HP := hid hpost
   clear hpost
   go_wp2_with fail
   have h6a := heap_setCell_same w5 w.heap.size 0 _ _ (.int .u8 par.toNat) HG5.out
   have h6b := heap_setCell_same _ w.heap.size 1 _ _ (.slice ao5 (t.length + own.length) cap5) h6a
   have h6c := HP.out _ ((But.setB w5 w.heap.size 0 (.int .u8 par.toNat)).trans (But.setB _ w.heap.size 1 (.slice ao5 (t.length + own.length) cap5)))
   revert h6b h6c
   generalize ((w5.setCell ⟨w.heap.size, 0, none⟩ (.int .u8 par.toNat)).setCell ⟨w.heap.size, 1, none⟩ (.slice ao5 (t.length + own.length) cap5)) = w6
   intro h6b h6c
   have r0 : w6.cell? ⟨w.heap.size, 0, none⟩ = some (.int .u8 par.toNat) := by rw [cell_of_row w6 w.heap.size 0 _ _ (0, 0) h6b]; rfl
   have r1 : w6.cell? ⟨w.heap.size, 1, none⟩ = some (.slice ao5 (t.length + own.length) cap5) := by rw [cell_of_row w6 w.heap.size 1 _ _ (0, 0) h6b]; rfl
   exact bodyPost_ret (v := .agg #[.int .u8 par.toNat, .slice ao5 ((t ++ own).length : Nat) cap5]) (by simp [results, Tryz.results164, go_sem, r0, r1]) rfl h6c
theorem clsP_line {s : ByteArray} {k : Nat} {cs : List Cls} {i : Nat} (h : (pk s i).toNat ≠ 59) : clsP s (k + 1) cs i = match lineP s cs i with
  | .error j => .error j
  | .ok (c, j) => clsP s k (cs ++ [c]) j := by
 unfold lineP
 rw [clsP, if_neg h]
 cases parP s cs.length i with
 | error j => rfl
 | ok x =>
  obtain ⟨p, j⟩ := x
  simp only
  cases tys s (cs.length + 1) 46 2 [] j with
  | error l => rfl
  | ok y => rfl
theorem line_wf {s : ByteArray} {cs : List Cls} {i j : Nat} {c : Cls} (hw : WfC cs) (h : lineP s cs i = .ok (c, j)) : WfC (cs ++ [c]) := by
 unfold lineP at h
 cases hp : parP s cs.length i with
 | error j => rw [hp] at h; cases h
 | ok x =>
  obtain ⟨p, j⟩ := x
  rw [hp] at h
  simp only at h
  cases ht : tys s (cs.length + 1) 46 2 [] j with
  | error l => rw [ht] at h; cases h
  | ok y =>
   obtain ⟨own, l⟩ := y
   rw [ht] at h
   cases h
   exact wf_snoc hw hp ht
def ClsC (s : ByteArray) (R : Except Nat (List Cls × Nat)) (mm : Nat) (cs : List XCls) (j : Nat) (bad : Bool) : Prop :=
 (bad = false ∧ ∃ SC, cs = SC.map toX ∧ WfC SC ∧ SC.length + mm = 4 ∧ clsP s mm SC j = R) ∨ (bad = true ∧ mm = 0 ∧ R = .error j)
theorem tkP_ok {s : ByteArray} {c : UInt8} {j : Nat} (h : pk s j = c) : tkP s c j false = (j + 1, false) := by unfold tkP; rw [if_pos ⟨rfl, h⟩]
theorem tkP_no {s : ByteArray} {c : UInt8} {j : Nat} {bad : Bool} (h : bad = true ∨ pk s j ≠ c) : tkP s c j bad = (j, true) := by
 unfold tkP
 rw [if_neg]
 rintro ⟨h1, h2⟩
 rcases h with h | h
 ·rw [h] at h1; cases h1
 ·exact h h2
theorem u8n {c : UInt8} {n : Nat} (hn : n < 256) : c.toNat = n ↔ c = UInt8.ofNat n := by
 constructor
 ·intro h
  apply UInt8.toNat_inj.1
  rw [h]
  simp
  omega
 ·intro h
  rw [h]
  simp
  omega
theorem ClsC.fin {s : ByteArray} {R : Except Nat (List Cls × Nat)} {mm : Nat} {cs : List XCls} {j : Nat} {bad : Bool} (h : ClsC s R mm cs j bad) (hx : bad = true ∨ ¬ cs.length < 4 ∨ pk s j = 59) :
  ((tkP s 59 j bad).2 = false ∧ ∃ SC, R = .ok (SC, (tkP s 59 j bad).1) ∧ cs = SC.map toX ∧ WfC SC) ∨ ((tkP s 59 j bad).2 = true ∧ R = .error (tkP s 59 j bad).1) := by
 rcases h with ⟨rfl, SC, h1, h2, h3, h4⟩ | ⟨rfl, _, h2⟩
 ·by_cases hp : pk s j = 59
  ·left
   rw [tkP_ok hp]
   refine ⟨rfl, SC, ?_, h1, h2⟩
   rw [← h4]
   cases mm <;> simp [clsP, hp]
  ·right
   rw [tkP_no (Or.inr hp)]
   refine ⟨rfl, ?_⟩
   have hm : mm = 0 := by
    rcases hx with h | h | h
    ·cases h
    ·rw [h1, List.length_map] at h; omega
    ·exact absurd h hp
   subst hm
   rw [← h4]
   have : (pk s j).toNat ≠ 59 := fun h => hp ((u8n (by decide)).1 h)
   simp [clsP, this]
 ·right
  rw [tkP_no (Or.inl rfl)]
  exact ⟨rfl, h2⟩
theorem ClsC.next {s : ByteArray} {R : Except Nat (List Cls × Nat)} {mm : Nat} {cs : List XCls} {j : Nat} (h : ClsC s R mm cs j false) (hl : cs.length < 4) (hp : pk s j ≠ 59) :
  ∃ SC, cs = SC.map toX ∧ WfC SC ∧ SC.length ≤ 3 ∧ ∀ par fl j' bad', ((bad' = false ∧ ∃ c, lineP s SC j = .ok (c, j') ∧ toX c = ⟨par, fl⟩) ∨ (bad' = true ∧ lineP s SC j = .error j')) →
   ∃ m', m' < mm ∧ ClsC s R m' (cs ++ [⟨par, fl⟩]) j' bad' := by
 rcases h with ⟨_, SC, h1, h2, h3, h4⟩ | ⟨h, _⟩
 ·have hls : SC.length ≤ 3 := by rw [h1, List.length_map] at hl; omega
  refine ⟨SC, h1, h2, hls, ?_⟩
  intro par fl j' bad' hr
  obtain ⟨f, rfl⟩ : ∃ f, mm = f + 1 := ⟨mm - 1, by omega⟩
  have hne : (pk s j).toNat ≠ 59 := fun h => hp ((u8n (by decide)).1 h)
  rw [clsP_line hne] at h4
  rcases hr with ⟨rfl, c, e1, e2⟩ | ⟨rfl, e1⟩
  ·rw [e1] at h4
   refine ⟨f, by omega, Or.inl ⟨rfl, SC ++ [c], ?_, line_wf h2 e1, by simp; omega, h4⟩⟩
   rw [h1, List.map_append, ← e2]
   rfl
  ·rw [e1] at h4
   exact ⟨0, by omega, Or.inr ⟨rfl, rfl, h4.symm⟩⟩
 ·cases h
theorem info_xcls : (Tryz.prog.info? 240).map (fun i => (i.zero, i.size, i.bytes)) = some (some (.agg #[.int .u8 0, .slice none 0 0]), 2, 32) := by kernel_rfl
theorem xreadClasses_any (b base : Nat) (s : ByteArray) (v1 : Value) (v2 : RdV) (w : World) (hs : s.size ≤ 2000) (hR : XrB w b s 0 false (.slice none 0 0) v1 v2) (hb : b < base) (hbase : base ≤ w.heap.size) :
  Calls Tryz.prog 98 #[.pointer (some ⟨b, 0, none⟩)] w fun en w' => en = .returned (.tuple #[]) ∧ But (fun k => k = b ∨ base ≤ k) w w' ∧ ∃ v0 cs j bad', XrB w' b s j bad' v0 v1 v2 ∧ TcV w' base v0 cs ∧ cs.length ≤ 4 ∧
   ((bad' = false ∧ ∃ SC, clsP s 4 [] 0 = .ok (SC, j) ∧ cs = SC.map toX ∧ WfC SC) ∨ (bad' = true ∧ clsP s 4 [] 0 = .error j)) := by
 obtain ⟨R, hRR⟩ : ∃ R, clsP s 4 [] 0 = R := ⟨_, rfl⟩
 rw [hRR]
 have HRR := hid hRR
 clear hRR
 obtain ⟨i0, hi0, hz0, hz1, hz2⟩ := info_parts info_xcls
 have hbw := hR.lt
 go_enter Tryz.func98, Tryz.ntmps98
 go_wp2_with fail
 go_loopg [] 4 (fun mm wr => ∃ (ao : Option Addr) (cap j : Nat) (bad' : Bool) (cs : List XCls), cs.length ≤ 4 ∧ But (fun k => k = b ∨ base ≤ k) w wr ∧ XrB wr b s j bad' (.slice ao cs.length cap) v1 v2 ∧ TcV wr base (.slice ao cs.length cap) cs ∧ Hid (ClsC s R mm cs j bad'))
 case atStart => exact ⟨none, 0, 0, false, [], by simp, But.refl _ _, hR, ⟨[], owns_nil _ _ _ _, rfl, by simp⟩, Or.inl ⟨rfl, [], rfl, fun j c h => by simp at h, by simp, HRR.out⟩⟩
 case round =>
  obtain ⟨ao, cap, j, bad', cs, hcl, hBr, hRr, hCr, HC⟩ := hrel
  have h0 := hRr.c0
  have hszr := hBr.size
  have hbr := hRr.lt
  have hfin : ∀ (w1 : World), But (fun _ => False) wr w1 → (bad' = true ∨ ¬ cs.length < 4 ∨ pk s j = 59) → ∀ (w2 : World), But (· = b) w1 w2 → XrB w2 b s (tkP s 59 j bad').1 (tkP s 59 j bad').2 (.slice ao cs.length cap) v1 v2 →
    But (fun k => k = b ∨ base ≤ k) w w2 ∧ ∃ v0 cs j bad', XrB w2 b s j bad' v0 v1 v2 ∧ TcV w2 base v0 cs ∧ cs.length ≤ 4 ∧ ((bad' = false ∧ ∃ SC, R = .ok (SC, j) ∧ cs = SC.map toX ∧ WfC SC) ∨ (bad' = true ∧ R = .error j)) := by
   intro w1 h1 h2 w2 h3 h4
   have hB12 : But (· = b) wr w2 := (h1.mono (fun _ _ h => h.elim)).trans h3
   exact ⟨hBr.next hB12 (fun k _ h => Or.inl h), _, cs, _, _, h4, hCr.but hB12 (fun g e cur _ _ hg h => by omega), hcl, HC.out.fin h2⟩
  have HF := hid hfin
  clear hfin
  by_cases hlt : cs.length < 4
  ·have hlI : (cs.length : Int) < 4 := by omega
   by_cases hgo : bad' = false ∧ pk s j ≠ 59
   ·obtain ⟨rfl, hne⟩ := hgo
    have hbv : (!false && !decide (pk s j = 59)) = true := by simp [hne]
    have hbef := xbefore_any b s j false _ v1 v2 wr 59 hRr
    rw [hbv] at hbef
    have HBF := hid hbef
    obtain ⟨SC, hSC, hWf, hS3, hnx⟩ := HC.out.next hlt hne
    have HNX := hid hnx
    have HSC := hid hSC
    have HWf := hid hWf
    clear hbv hbef hne HC HF hnx hSC hWf
    go_wp2_with fail
    refine HBF.out.mono ?_
    rintro en w1 ⟨rfl, m, rfl⟩
    go_wp2_with fail
    have hcl := xclassLine_any b base s j _ v1 v2 (wr.drewN m) SC HWf.out hS3 hs (hRr.drewN m) (by rw [← HSC.out]; exact hCr.but (But.drewN (fun _ => False) _ _) (fun _ _ _ _ _ _ h => h)) hb (by show base ≤ wr.heap.size; omega)
    refine hcl.mono ?_
    rintro en w1 ⟨hB1, par, ao1, cap1, fl, j1, bad1, rfl, hR1, hO1, hl1, hT1⟩
    clear hcl
    obtain ⟨m', hm', hC'⟩ := HNX.out par fl j1 bad1 hT1
    have HC' := hid hC'
    clear hT1 hC' HNX HSC HWf
    go_wp2_with fail
    have hBwr1 : But (· = b) wr w1 := (But.drewN _ _ _).trans hB1
    have hBW : But (fun k => k = b ∨ base ≤ k) w (w1.alloc (.cells #[.int .u8 par.toNat, .slice ao1 fl.length cap1] 240)) := (hBr.next hBwr1 (fun k _ h => Or.inl h)).trans (But.alloc _ _ _)
    have hBrW : But (· = b) wr (w1.alloc (.cells #[.int .u8 par.toNat, .slice ao1 fl.length cap1] 240)) := hBwr1.trans (But.alloc _ _ _)
    have hRW := hR1.but (But.alloc (fun _ => False) w1 (.cells #[.int .u8 par.toNat, .slice ao1 fl.length cap1] 240)) (fun h => h)
    have hOW := hO1.but (But.alloc (fun _ => False) w1 (.cells #[.int .u8 par.toNat, .slice ao1 fl.length cap1] 240)) (fun _ _ h => h)
    have hgW := heap_alloc_new w1 (.cells #[.int .u8 par.toNat, .slice ao1 fl.length cap1] 240)
    have hsz1 := hBwr1.size
    have hOlt := owns_lt hO1
    have hOge := owns_ge hO1
    clear h0 hO1 hR1
    revert hBW hRW hOW hgW hBrW
    generalize (w1.alloc (.cells #[.int .u8 par.toNat, .slice ao1 fl.length cap1] 240)) = W
    intro hBW hBrW hRW hOW hgW
    have hCW := hCr.but hBrW (fun g e cur _ _ hg h => by omega)
    obtain ⟨l, hl1, hl2, hl3⟩ := hCW
    have hll : l.length = cs.length := by rw [← hl2]; simp
    rw [← hll] at hRW hl1 hlt
    have e0 := hRW.c0
    have g0 := hRW.fz 0
    have bltW := hRW.lt
    have gltW := lt_of_block hgW
    have k0 : W.cell? ⟨w1.heap.size, 0, none⟩ = some (.int .u8 par.toNat) := by rw [cell_of_row W _ 0 _ _ (0, 0) hgW]; rfl
    have k1 : W.cell? ⟨w1.heap.size, 1, none⟩ = some (.slice ao1 fl.length cap1) := by rw [cell_of_row W _ 1 _ _ (0, 0) hgW]; rfl
    have hltr : ∀ g, (Value.slice ao l.length cap).ownBlock = some g → g < wr.heap.size := by
     obtain ⟨l', h1', h2', _⟩ := hCr
     have : l'.length = cs.length := by rw [← h2']; simp
     rw [hll, ← this]
     rw [← this] at h1'
     exact owns_lt h1'
    have ab : (Value.slice ao l.length cap).ownBlock ≠ some b := fun h => by have := owns_ge hl1 _ h; omega
    have agk : (Value.slice ao l.length cap).ownBlock ≠ some w1.heap.size := fun h => by have := hltr _ h; omega
    have hS0 : But (fun k => (Value.slice ao l.length cap).ownBlock = some k) W W.drew := But.drew _ _
    have hbW : base ≤ W.heap.size := by have := hBW.size; omega
    have HLL := hid hll
    have HGW := hid hgW
    clear hll hgW
    refine wpTx_begin (But (fun k => (Value.slice ao l.length cap).ownBlock = some k) W) 9 (by kernel_rfl) ?_
    have fSA := hid (fun wS (h : (But (fun k => (Value.slice ao l.length cap).ownBlock = some k) W) wS) => (And.intro ((h.cell (p := ⟨b, 0, none⟩) bltW ab).trans e0) (And.intro ((h.cell (p := ⟨w1.heap.size, 0, none⟩) gltW agk).trans k0) ((h.cell (p := ⟨w1.heap.size, 1, none⟩) gltW agk).trans k1))))
    iterate 7 (refine wpTx_take (v := ?_) rfl (by kernel_rfl) (fun _ _ _ h => h) rfl hS0 ?_ ?_; rotate_left; (focus (intro wS h; obtain ⟨q0, q1, q2⟩ := fSA.out wS h; clear h; go_simp; try rfl)); dsimp only [Act.put]; try simp only [puts])
    try clear fSA
    refine wpTx_step rfl (by kernel_rfl) ?_
    intro KS hKS
    go_simp
    refine hKS.out _ _ (fun _ => (But.alloc _ _ _).trans (But.drew _ _)) ?_
    clear hKS KS
    refine wpTx_step rfl (by kernel_rfl) ?_
    intro KS hKS
    refine step_append_lies _ (by rfl) _ _ _ (by rfl) base 240 i0 _ 2 32 (by kernel_rfl) hi0 hz0 hz1 hz2 rfl (by omega) _ l.length (xcCells l) (by first | rfl | (rw [HLL.out]; rfl)) ((hl1.alloc _).drew)
       ⟨W.heap.size, 0, none⟩ 1 1 [.int .u8 par.toNat, .slice ao1 fl.length cap1] (by rfl) (by rfl) (World.news_of_block (cs := #[.int .u8 par.toNat, .slice ao1 fl.length cap1]) (t := 240) (fr := (0, 0)) (heap_alloc_new W _)) (by simp [Value.oneCell'])
       (by omega) (by unfold maxLen; omega) (by omega) (by simp; omega) (W.heap.size + 1) (by simp) ?_
    intro gg cap2 w2 hown2 hgrow hat hlt2
    have hSW : But (fun k => (Value.slice ao l.length cap).ownBlock = some k) W w2 := ((But.alloc _ _ _).trans (But.drew _ _)).trans (but_grown hgrow)
    refine hKS.out _ _ (fun _ => hSW) ?_
    clear hKS KS
    have y0 := (hSW.cell (p := ⟨b, 0, none⟩) bltW ab).trans e0
    have y1 := (hSW.frozen (p := ⟨b, 0, none⟩) bltW ab).trans g0
    refine wpTx_step rfl (by kernel_rfl) ?_
    intro KS hKS
    go_simp
    refine hKS.out _ _ (fun h => absurd h (by decide)) ?_
    clear hKS KS
    refine wpTx_step rfl (by kernel_rfl) ?_
    intro KS hKS
    go_simp
    refine hKS.out _ _ (fun h => absurd h (by decide)) ?_
    clear hKS KS
    refine wpTx_step rfl (by kernel_rfl) ?_
    intro KS hKS
    go_simp
    refine hKS.out _ _ (fun h => absurd h (by decide)) ?_
    clear hKS KS
    refine wpTx_step rfl (by kernel_rfl) ?_
    intro KS hKS
    go_simp
    refine hKS.out _ _ (fun h => absurd h (by decide)) ?_
    clear hKS KS
    refine wpTx_done rfl (by kernel_rfl) ?_
    have hgg := owns_ge hown2 gg rfl
    have hR3 := (hRW.but hSW ab).set0 (.slice (some ⟨gg, 0, none⟩) (l.length + 1) cap2)
    have hB3 : But (fun k => k = b ∨ base ≤ k) w (w2.setCell ⟨b, 0, none⟩ (.slice (some ⟨gg, 0, none⟩) (l.length + 1) cap2)) :=
     (hBW.next hSW (fun k _ h => Or.inr (owns_ge hl1 k h))).next (But.setB _ _ _ _) (fun _ _ h => Or.inl h)
    have hO3 := owns_but hown2 (But.setB w2 b 0 (.slice (some ⟨gg, 0, none⟩) (l.length + 1) cap2)) (fun g hg h => by have := owns_ge hown2 g hg; omega)
    have hBW3 : But (fun k => k = b ∨ (Value.slice ao l.length cap).ownBlock = some k) W (w2.setCell ⟨b, 0, none⟩ (.slice (some ⟨gg, 0, none⟩) (l.length + 1) cap2)) := (hSW.mono (fun _ _ h => Or.inr h)).next (But.setB _ _ _ _) (fun _ _ h => Or.inl h)
    have hF3 : ∀ x ∈ l ++ [(⟨par, fl⟩, .slice ao1 fl.length cap1)], BtB (w2.setCell ⟨b, 0, none⟩ (.slice (some ⟨gg, 0, none⟩) (l.length + 1) cap2)) base x.2 x.1.fields := by
     intro x hx
     rcases List.mem_append.1 hx with hx | hx
     ·refine owns_off (hl3 x hx) hBW3 (fun g cur hh hg h => ?_)
      rcases h with h | h
      ·omega
      ·exact owns_apart hl1 hh (by decide) h
     ·simp at hx
      subst hx
      refine owns_off (World.ownsRow.mono hOW (by show base ≤ wr.heap.size; omega)) hBW3 (fun g cur hh hg h => ?_)
      rcases h with h | h
      ·omega
      ·exact owns_apart hl1 hh (by decide) h
    have hC3 : TcV (w2.setCell ⟨b, 0, none⟩ (.slice (some ⟨gg, 0, none⟩) (l.length + 1) cap2)) base (.slice (some ⟨gg, 0, none⟩) (l.length + 1) cap2) (cs ++ [⟨par, fl⟩]) :=
     ⟨l ++ [(⟨par, fl⟩, .slice ao1 fl.length cap1)], by rw [xcCells_snoc, List.length_append]; exact hO3, by rw [List.map_append, hl2]; rfl, hF3⟩
    clear hF3 hBW3 hO3
    generalize (w2.setCell ⟨b, 0, none⟩ (.slice (some ⟨gg, 0, none⟩) (l.length + 1) cap2)) = W3 at *
    rw [HLL.out] at hR3 hC3 hlt
    clear y0 y1 e0 g0 k0 k1 hSW hgrow
    go_wp2_with fail
    go_roundg m'
    case measure => omega
    case rel => exact ⟨_, cap2, j1, bad1, cs ++ [XCls.mk par fl], by simp; omega, hB3, by simpa using hR3, by simpa using hC3, HC'.out⟩
   ·have hbv : (!bad' && !decide (pk s j = 59)) = false := by
     cases bad' with
     | true => rfl
     | false =>
      by_cases h : pk s j = 59
      ·simp [h]
      ·exact absurd ⟨rfl, h⟩ hgo
    have hx : bad' = true ∨ ¬ cs.length < 4 ∨ pk s j = 59 := by
     cases bad' with
     | true => exact Or.inl rfl
     | false =>
      right; right
      by_cases h : pk s j = 59
      ·exact h
      ·exact absurd ⟨rfl, h⟩ hgo
    have HX := hid hx
    have hbef := xbefore_any b s j bad' _ v1 v2 wr 59 hRr
    rw [hbv] at hbef
    have HBF := hid hbef
    clear hbv hbef hx hgo HC
    go_wp2_with fail
    refine HBF.out.mono ?_
    rintro en w1 ⟨rfl, m, rfl⟩
    go_wp2_with fail
    refine (xtake_any b s j bad' _ v1 v2 _ 59 (by decide) hs (hRr.drewN m)).mono ?_
    rintro en w2 ⟨rfl, hB2, hR2⟩
    go_wp2_with fail
    go_end0
    exact ⟨rfl, HF.out _ (But.drewN _ _ _) HX.out w2 hB2 hR2⟩
  ·have hlI : ¬ (cs.length : Int) < 4 := by omega
   go_wp2_with fail
   refine (xtake_any b s j bad' _ v1 v2 _ 59 (by decide) hs hRr).mono ?_
   rintro en w2 ⟨rfl, hB2, hR2⟩
   go_wp2_with fail
   go_end0
   exact ⟨rfl, HF.out _ (But.refl _ _) (Or.inr (Or.inl hlt)) w2 hB2 hR2⟩
end Go.Proofs.YtpfkkmacakjmbaaGreatDoor
