import Derived.Test.YtpfkkmacakjmbaaGreatDoorP29
import Derived.Test.YtpfkkmacakjmbaaGreatDoorP00
import Derived.Test.YtpfkkmacakjmbaaGreatDoorP14
set_option maxRecDepth 100000
set_option maxHeartbeats 6400000
namespace Go.Proofs.YtpfkkmacakjmbaaGreatDoor
open Go Go.RowKit Sp
set_option linter.unusedSimpArgs false
set_option linter.unusedVariables false
attribute [local go_sem ↓] Go.wp_at_zero Go.wp_at_succ
theorem retT {fn : Func} {Rr : Ending → World → Prop} {a : Act} {w : World} {c f : Nat} {u v : Value} (hf : fn.results = #[.tmp c, .tmp f]) (hd : a.defers = []) (hc : a.tmps.getD c undef = u) (he : a.tmps.getD f undef = v) (hR : Rr (.returned (.tuple #[u, v])) w) : bodyPost Tryz.prog fn Rr .ret a w := by
 refine bodyPost_ret (v := .tuple #[u, v]) ?_ hd hR
 have hc' : a.tmps[c]?.getD undef = u := by simpa using hc
 have he' : a.tmps[f]?.getD undef = v := by simpa using he
 simp [results, hf, hc', he', go_sem]
section
variable {P : Nat → Prop} {w0 w : World} {be bw tx bl : Nat} {inp : ByteArray} {s : Ev} {lv vo vb : Value} {l : List V} {gs : List Nat} {fv : List Value}
theorem callee_z (h : StQ P w0 w be bw tx inp s bl lv l vo vb gs fv) (h4 : s.heap.length ≤ 4000) (m d : Nat) :
  Calls Tryz.prog 193 #[.pointer (some ⟨bw, 0, none⟩), .agg #[.int .i32 0, .int .i64 0], .int .i64 m, .int .i64 d] w fun en w' => But (fun _ => False) w w' ∧ en = .returned (.tuple #[.int .i64 (-1), .int .i64 2]) := by
 have HO := hid (fun X (hX : But (fun _ => False) w X) => class_z (h.new hX) h4)
 clear h
 go_enter Tryz.func193, Tryz.ntmps193
 go_wp2_with fail
 refine (HO.out _ (But.alloc _ _ _)).mono ?_
 rintro en w1 ⟨hB1, rfl⟩
 go_wp2_with fail
 exact retT Tryz.results193 rfl rfl rfl ⟨(But.alloc _ _ _).trans hB1, rfl⟩
theorem callee_o (h : StQ P w0 w be bw tx inp s bl lv l vo vb gs fv) (h4 : s.heap.length ≤ 4000) {k : Nat} {o : Ob} (hk : s.heap[k]? = some o) (cs : List XCls) (bs : List XBod) (hn : cs.length ≤ 100) (hnb : bs.length ≤ 100) (hT : TxC w0 tx cs) (hTb : TxB w0 tx bs) (a : UInt8) (ha : a.toNat = 65 + o.cls) (m d : Nat) :
  Calls Tryz.prog 193 #[.pointer (some ⟨bw, 0, none⟩), .agg #[.int .i32 0, .int .i64 ((k : Int) + 1)], .int .i64 m, .int .i64 d] w fun en w' => But (fun _ => False) w w' ∧ en = .returned (if 12 ≤ d then .tuple #[.int .i64 (-1), .int .i64 6] else .tuple #[.int .i64 (bodyF cs bs m cs.length a), .int .i64 0]) := by
 have HO := hid (fun X (hX : But (fun _ => False) w X) => class_o (h.new hX) h4 hk)
 rw [← ha] at HO
 have HB := hid (fun X (hX : But (fun _ => False) w X) => xbodyOf_any tx cs bs a m X hn hnb (hT.but (h.old.trans hX)) (hTb.but (h.old.trans hX)))
 have c0 := h.wd.c0
 have hbl := h.wd.lt
 have h45 : (a.toNat : Int) ≠ 45 := by omega
 obtain ⟨r, hr⟩ : ∃ r, bodyF cs bs m cs.length a = r := ⟨_, rfl⟩
 rw [hr] at HB ⊢
 clear h hk ha hr
 by_cases hd : 12 ≤ d
 ·rw [if_pos hd]
  have hdI : 12 ≤ (d : Int) := by omega
  go_enter Tryz.func193, Tryz.ntmps193
  go_wp2_with fail
  refine (HO.out _ (But.alloc _ _ _)).mono ?_
  rintro en w1 ⟨hB1, rfl⟩
  go_wp2_with fail
  exact retT Tryz.results193 rfl rfl rfl ⟨(But.alloc _ _ _).trans hB1, rfl⟩
 ·rw [if_neg hd]
  have hdI : ¬ 12 ≤ (d : Int) := by omega
  clear hd
  go_enter Tryz.func193, Tryz.ntmps193
  go_wp2_with fail
  refine (HO.out _ (But.alloc _ _ _)).mono ?_
  rintro en w1 ⟨hB1, rfl⟩
  have hBw : But (fun _ => False) w w1 := (But.alloc _ _ _).trans hB1
  have d0 := (hBw.cell (p := ⟨bw, 0, none⟩) hbl (fun h => h)).trans c0
  have hb1 := Nat.lt_of_lt_of_le hbl hBw.size
  clear HO hB1 c0
  go_wp2_with fail
  refine (HB.out _ hBw).mono ?_
  rintro en w2 ⟨rfl, hB2⟩
  go_wp2_with fail
  exact retT Tryz.results193 rfl rfl rfl ⟨hBw.trans hB2, rfl⟩
end
theorem retI {fn : Func} {Rr : Ending → World → Prop} {a : Act} {w : World} {c r : Nat} {v0 v1 v2 v3 v4 : Value} (hf : fn.results = #[.cell c 219]) (hd : a.defers = []) (hc : a.tmps.getD c undef = .pointer (some ⟨r, 0, none⟩))
  (h0 : w.heap[r]? = some (.cells #[v0, v1, v2, v3, v4] 219)) (hR : Rr (.returned (.agg #[v0, v1, v2, v3, v4])) w) : bodyPost Tryz.prog fn Rr .ret a w := by
 have r0 : w.cell? ⟨r, 0, none⟩ = some v0 := by rw [cell_of_row w r 0 _ _ (0, 0) h0]; rfl
 have r1 : w.cell? ⟨r, 1, none⟩ = some v1 := by rw [cell_of_row w r 1 _ _ (0, 0) h0]; rfl
 have r2 : w.cell? ⟨r, 2, none⟩ = some v2 := by rw [cell_of_row w r 2 _ _ (0, 0) h0]; rfl
 have r3 : w.cell? ⟨r, 3, none⟩ = some v3 := by rw [cell_of_row w r 3 _ _ (0, 0) h0]; rfl
 have r4 : w.cell? ⟨r, 4, none⟩ = some v4 := by rw [cell_of_row w r 4 _ _ (0, 0) h0]; rfl
 refine bodyPost_ret (v := .agg #[v0, v1, v2, v3, v4]) ?_ hd hR
 have hc' : a.tmps[c]?.getD undef = .pointer (some ⟨r, 0, none⟩) := by simpa using hc
 simp [results, hf, hc', go_sem, r0, r1, r2, r3, r4]
def itAgg (x : XIt) : Value := .agg #[.int .i64 x.place, .int .u8 x.op.toNat, .int .u8 x.cls.toNat, .int .i64 x.num, .slice x.pa x.pn x.pc]
theorem itemAt_any (c : UInt8) (m : Nat) (an : UInt8) (vl vi : Value) (its : List XIt) (i : Nat) (x : XIt) (w : World) (hI : ItB w 0 vi its) (hx : its[i]? = some x) (hl : its.length ≤ 1000) :
  Calls Tryz.prog 152 #[.agg #[.int .u8 c.toNat, .int .i64 m, .int .u8 an.toNat, vl, vi], .int .i64 i] w fun en w' => en = .returned (itAgg x) ∧ NB w w' := by
 have hil := (List.getElem?_eq_some_iff.1 hx).1
 unfold ItB at hI
 obtain ⟨ai, ci, rfl⟩ := owns_len hI
 obtain ⟨g, rfl, hg1, hg2, hcell⟩ := owns_two hI (by omega)
 have q0 : w.cell? ⟨g, i * 5, none⟩ = some _ := hcell _ _ (itCells_at (k := 0) hx (by omega))
 have q1 : w.cell? ⟨g, i * 5 + 1, none⟩ = some _ := hcell _ _ (itCells_at (k := 1) hx (by omega))
 have q2 : w.cell? ⟨g, i * 5 + 2, none⟩ = some _ := hcell _ _ (itCells_at (k := 2) hx (by omega))
 have q3 : w.cell? ⟨g, i * 5 + 3, none⟩ = some _ := hcell _ _ (itCells_at (k := 3) hx (by omega))
 have q4 : w.cell? ⟨g, i * 5 + 4, none⟩ = some _ := hcell _ _ (itCells_at (k := 4) hx (by omega))
 have hi0 : ¬ ((i : Int) < 0) := by omega
 have hiI : ¬ ((its.length : Int) ≤ (i : Int)) := by omega
 have hiJ : (i : Int) < (its.length : Int) := by omega
 unfold itAgg
 clear hcell hx hI
 generalize its.length = ni at *
 go_enter Tryz.func152, Tryz.ntmps152
 go_wp2_with fail
 exact retI Tryz.results152 rfl rfl (heap_alloc_at (by simp) _) ⟨rfl, ((NB.refl w).alloc (by decide)).alloc (by decide)⟩
def FrB (w : World) (bf d : Nat) (X : XBod) (vl vi : Value) (bl : Nat) : Prop :=
 w.heap[bf]? = some (.cells #[.int .i64 d, .int .u8 X.cls.toNat, .int .i64 X.meth, .int .u8 X.ans.toNat, vl, vi, .pointer (some ⟨bl, 0, none⟩)] 234)
theorem FrB.but {F : Nat → Prop} {w w' : World} {bf d bl : Nat} {X : XBod} {vl vi : Value} (h : FrB w bf d X vl vi bl) (hb : But F w w') (hf : ¬ F bf) : FrB w' bf d X vl vi bl := (hb.block bf (lt_of_block h) hf).trans h
structure BodF (w : World) (gs : List Sig) (b : Bod) (X : XBod) (vl vi : Value) : Prop where
 bt : BtB w 0 vl X.locals
 it : ItB w 0 vi X.items
 bd : BdN w 0 gs X b
section
variable {P : Nat → Prop} {w0 w w' : World} {be bw tx bl : Nat} {inp : ByteArray} {s : Ev} {lv vo vb : Value} {l : List V} {gs : List Nat} {fv : List Value}
theorem newFrame_base {fu : Int} (he : XeB w be tx bw fu) (h0 : But (fun _ => False) w0 w) (im : Img) (hT : TextN w0 tx im) (q d : Nat) (b : Bod) (hq : im.bodies[q]? = some b) (hlo : b.locals.length ≤ 5) (hnb : im.bodies.length ≤ 100) :
  Calls Tryz.prog 92 #[.pointer (some ⟨be, 0, none⟩), .int .i64 q, .int .i64 d] w fun en w' => ∃ (bf bl' : Nat) (lv' : Value) (X : XBod) (vl vi : Value), en = .returned (.pointer (some ⟨bf, 0, none⟩)) ∧ But (fun _ => False) w w' ∧ FrB w' bf d X vl vi bl' ∧ BodF w0 im.sigs b X vl vi ∧ w'.heap[bl']? = some (.cells #[lv'] 280) ∧ w'.ownsRow w.heap.size 168 2 lv' b.locals.length (xvalCells (b.locals.map plainV)) ∧ w.heap.size ≤ bl' ∧ w.heap.size ≤ bf := by
 obtain ⟨bs, ⟨v2, t2, htl, lb, hO, hm, hf⟩, hbl2, hbd⟩ := hT.bod
 have hql := (List.getElem?_eq_some_iff.1 hq).1
 have hlen : lb.length = im.bodies.length := by rw [← hbl2, ← hm]; simp
 obtain ⟨⟨X, vl, vi⟩, hX⟩ : ∃ x, lb[q]? = some x := ⟨_, List.getElem?_eq_getElem (by omega)⟩
 have hXb : bs[q]? = some X := by rw [← hm]; simp [hX]
 have hB := hbd q X b hXb hq
 obtain ⟨f1, f2⟩ := hf _ (List.mem_of_getElem? hX)
 simp only at f1 f2
 have HBF : Hid (BodF w0 im.sigs b X vl vi) := ⟨f1, f2, hB⟩
 obtain ⟨al, capl, rfl⟩ := owns_len f1
 obtain ⟨ai, capi, rfl⟩ := owns_len f2
 obtain ⟨ao, capo, rfl⟩ := owns_len hO
 obtain ⟨g, rfl, hg1, hg2, hcell⟩ := owns_two hO (by omega)
 have q0 := hcell _ _ (xbCells_at (k := 0) hX (by omega))
 have q1 := hcell _ _ (xbCells_at (k := 1) hX (by omega))
 have q2 := hcell _ _ (xbCells_at (k := 2) hX (by omega))
 have q3 := hcell _ _ (xbCells_at (k := 3) hX (by omega))
 have q4 := hcell _ _ (xbCells_at (k := 4) hX (by omega))
 simp only [Nat.add_zero, List.getElem?_cons_zero, List.getElem?_cons_succ] at q0 q1 q2 q3 q4
 have hll : X.locals.length = b.locals.length := by rw [hB.loc]
 rw [hll] at HBF
 have HNL := hid (fun Y => newLocals_any X.cls (X.meth : Int) X.ans X.locals al capl ai X.items.length capi Y (by omega))
 have HLL := hid hB.loc
 have e0 := he.c0
 have hel := he.lt
 have hqI : (0 : Int) ≤ (q : Int) := by omega
 have hqJ : (q : Int) < (lb.length : Int) := by omega
 replace q0 := (h0.cell hg1 (fun h => h)).trans q0
 replace q1 := (h0.cell hg1 (fun h => h)).trans q1
 replace q2 := (h0.cell hg1 (fun h => h)).trans q2
 replace q3 := (h0.cell hg1 (fun h => h)).trans q3
 replace q4 := (h0.cell hg1 (fun h => h)).trans q4
 replace t2 := (h0.cell htl (fun h => h)).trans t2
 replace hg1 := Nat.lt_of_lt_of_le hg1 h0.size
 replace htl := Nat.lt_of_lt_of_le htl h0.size
 clear hbl2 hbd hlen hX hXb hB f1 f2 hcell hf hO hm hq hql hT he
 generalize lb.length = nb at *
 go_enter Tryz.func92, Tryz.ntmps92
 go_wp2_with fail
 have hgW := heap_alloc_new w (.cells #[.int .u8 X.cls.toNat, .int .i64 X.meth, .int .u8 X.ans.toNat, .slice al b.locals.length capl, .slice ai X.items.length capi] 115)
 have hBW : But (fun _ => False) w (w.alloc (.cells #[.int .u8 X.cls.toNat, .int .i64 X.meth, .int .u8 X.ans.toNat, .slice al b.locals.length capl, .slice ai X.items.length capi] 115)) := But.alloc _ _ _
 revert hgW hBW
 generalize (w.alloc (.cells #[.int .u8 X.cls.toNat, .int .i64 X.meth, .int .u8 X.ans.toNat, .slice al b.locals.length capl, .slice ai X.items.length capi] 115)) = W
 intro hgW hBW
 obtain ⟨k0, k1, k2, k3, k4⟩ := row5 hgW
 have gltW := lt_of_block hgW
 clear q0 q1 q2 q3 q4 t2 e0 hgW
 have hS0 : But (fun _ => False) W W.drew := But.drew _ _
 rw [hll] at HNL
 refine wpTx_begin (But (fun _ => False) W) 6 (by kernel_rfl) ?_
 have fSA := hid (fun wS (h : (But (fun _ => False) W) wS) => (And.intro ((h.cell (p := ⟨w.heap.size, 0, none⟩) gltW (fun h => h)).trans k0) (And.intro ((h.cell (p := ⟨w.heap.size, 1, none⟩) gltW (fun h => h)).trans k1) (And.intro ((h.cell (p := ⟨w.heap.size, 2, none⟩) gltW (fun h => h)).trans k2) (And.intro ((h.cell (p := ⟨w.heap.size, 3, none⟩) gltW (fun h => h)).trans k3) ((h.cell (p := ⟨w.heap.size, 4, none⟩) gltW (fun h => h)).trans k4))))))
 iterate 3 (refine wpTx_take (v := ?_) rfl (by kernel_rfl) (fun _ _ _ h => h) rfl hS0 ?_ ?_; rotate_left; (focus (intro wS h; obtain ⟨q0, q1, q2, q3, q4⟩ := fSA.out wS h; clear h; go_simp; try rfl)); dsimp only [Act.put]; try simp only [puts])
 try clear fSA
 refine wpTx_step rfl (by kernel_rfl) ?_
 intro KS hKS
 go_simp
 refine (HNL.out _).mono ?_
 rintro en w1 ⟨bl', lv', rfl, hB1, hlb, hlr, hbl'⟩
 have hB1W := hS0.trans hB1
 refine hKS.out _ _ (fun _ => hB1W) ?_
 clear hKS KS
 refine wpTx_step rfl (by kernel_rfl) ?_
 intro KS hKS
 go_simp
 refine hKS.out _ _ (fun _ => hB1W) ?_
 clear hKS KS
 refine wpTx_step rfl (by kernel_rfl) ?_
 intro KS hKS
 go_simp
 refine hKS.out _ _ (fun _ => hB1W.trans (But.alloc _ _ _)) ?_
 clear hKS KS
 refine wpTx_step rfl (by kernel_rfl) ?_
 intro KS hKS
 go_simp
 refine hKS.out _ _ (fun h => absurd h (by decide)) ?_
 clear hKS KS
 refine wpTx_done rfl (by kernel_rfl) ?_
 go_wp2_with fail
 go_ret
 have hBW1 := hBW.trans hB1W
 refine ⟨_, bl', lv', X, _, _, rfl, hBW1.trans (But.alloc _ _ _), heap_alloc_new _ _, HBF.out, ((But.alloc (fun _ => False) _ _).block bl' (lt_of_block hlb) (fun h => h)).trans hlb, ?_, Nat.le_trans hBW.size hbl', hBW1.size⟩
 rw [HLL.out] at hlr
 exact World.ownsRow.mono (owns_but hlr (But.alloc (fun _ => False) _ _) (fun _ _ h => h)) hBW.size
theorem newFrame_any (h : StQ P w0 w be bw tx inp s bl lv l vo vb gs fv) (im : Img) (hT : TextN w0 tx im) (q d : Nat) (b : Bod) (hq : im.bodies[q]? = some b) (hlo : b.locals.length ≤ 5) (hnb : im.bodies.length ≤ 100) :
  Calls Tryz.prog 92 #[.pointer (some ⟨be, 0, none⟩), .int .i64 q, .int .i64 d] w fun en w' => ∃ (bf bl' : Nat) (lv' : Value) (X : XBod) (vl vi : Value), en = .returned (.pointer (some ⟨bf, 0, none⟩)) ∧ But (fun _ => False) w w' ∧ FrB w' bf d X vl vi bl' ∧ BodF w0 im.sigs b X vl vi ∧ w'.heap[bl']? = some (.cells #[lv'] 280) ∧ w'.ownsRow w.heap.size 168 2 lv' b.locals.length (xvalCells (b.locals.map plainV)) ∧ w.heap.size ≤ bl' ∧ w.heap.size ≤ bf := newFrame_base h.ev h.old im hT q d b hq hlo hnb
abbrev LocP (bl : Nat) (lv : Value) (k : Nat) : Prop := k = bl ∨ lv.ownBlock = some k
theorem StQ.enter {bl' : Nat} {lv' : Value} {l' : List V} (h : StQ P w0 w be bw tx inp s bl lv l vo vb gs fv) (hB : But (fun _ => False) w w') (hb : w'.heap[bl']? = some (.cells #[lv'] 280)) (hr : w'.ownsRow w.heap.size 168 2 lv' l'.length (xvalCells l')) (hbl : w.heap.size ≤ bl') :
  StQ (fun k => P k ∨ LocP bl lv k) w0 w' be bw tx inp s bl' lv' l' vo vb gs fv := by
 have h1 := h.new hB
 have h0 := h.old.size
 have hnl : ∀ k, lv'.ownBlock = some k → w.heap.size ≤ k := fun k hk => owns_ge hr k hk
 have old : ∀ {k}, OwnQ be bw bl vo vb lv gs fv k → ¬ LocP bl lv k → (w0.heap.size ≤ k ∧ ¬ (P k ∨ LocP bl lv k)) := fun hk hn => ⟨(h.own _ hk).1, fun hp => hp.elim (h.own _ hk).2 hn⟩
 have nl : ∀ {k}, ∀ {c : Array Value} {t : Nat} {fz : Nat × Nat}, w.heap[k]? = some (.cells c t fz) → t ≠ 280 → t ≠ 168 → ¬ LocP bl lv k := fun hk h1 h2 hl => by
  rcases hl with rfl | hl
  ·rw [h.lb] at hk; cases hk; exact h1 rfl
  ·obtain ⟨cur, hc⟩ := owns_type h.lo hl; rw [hc] at hk; cases hk; exact h2 rfl
 have nr : ∀ {v : Value} {t z n : Nat} {xs : List Value} {k : Nat}, w.ownsRow w0.heap.size t z v n xs → v.ownBlock = some k → t ≠ 280 → t ≠ 168 → ¬ LocP bl lv k := fun hr hk a b => by
  obtain ⟨cur, hc⟩ := owns_type hr hk
  exact nl hc a b
 refine ⟨h1.old, h1.ev, h1.wd, h1.out, h1.ob, h1.lg, h1.lf, h1.obs, h1.nd, hb, World.ownsRow.mono hr h0, ?_, ?_, ?_, h1.sf⟩
 ·intro k hk
  have new : w.heap.size ≤ k → (w0.heap.size ≤ k ∧ ¬ (P k ∨ LocP bl lv k)) := fun hw => ⟨by omega, fun hp => by
   rcases hp with hp | rfl | hp
   ·have := (h.pl k hp).1; omega
   ·have := lt_of_block h.lb; omega
   ·have := owns_lt h.lo k hp; omega⟩
  rcases hk with rfl | rfl | rfl | hk | hk | hk | hk | ⟨v, hv, hk⟩
  ·exact old (Or.inl rfl) (nl h.ev (by decide) (by decide))
  ·exact old (Or.inr (Or.inl rfl)) (nl h.wd (by decide) (by decide))
  ·exact new hbl
  ·exact old (Or.inr (Or.inr (Or.inr (Or.inl hk)))) (nr h.out hk (by decide) (by decide))
  ·exact old (Or.inr (Or.inr (Or.inr (Or.inr (Or.inl hk))))) (nr h.ob hk (by decide) (by decide))
  ·exact new (hnl k hk)
  ·obtain ⟨c, v, ho⟩ := h.mg hk
   exact old (Or.inr (Or.inr (Or.inr (Or.inr (Or.inr (Or.inr (Or.inl hk))))))) (nl ho (by decide) (by decide))
  ·refine old (Or.inr (Or.inr (Or.inr (Or.inr (Or.inr (Or.inr (Or.inr ⟨v, hv, hk⟩))))))) (fun hl => ?_)
   rcases hl with rfl | hl
   ·obtain ⟨n, xs, ho⟩ := h.mv hv
    obtain ⟨cur, hc⟩ := owns_type ho hk
    rw [h.lb] at hc
    injection hc with hc
    injection hc with _ h2
    exact absurd h2 (by decide)
   ·exact h.sl v hv k hk hl
 ·intro k hk
  rcases hk with hk | hk
  ·exact h1.pl k hk
  ·rcases hk with rfl | hk
   ·exact ⟨lt_of_block h1.lb, fun c fz e => by rw [h1.lb] at e; injection e with e; injection e with _ h2; exact absurd h2 (by decide)⟩
   ·refine ⟨owns_lt h1.lo k hk, fun c fz e => ?_⟩
    obtain ⟨cur, hc⟩ := owns_type h1.lo hk
    rw [hc] at e; injection e with e; injection e with _ h2; exact absurd h2 (by decide)
 ·intro v hv g hg hl
  obtain ⟨n, xs, ho⟩ := h.mv hv
  have := owns_lt ho g hg
  have := hnl g hl
  omega
theorem StQ.leave {Q : Nat → Prop} {bl' : Nat} {lv' vo' vb' : Value} {l' : List V} {gs' : List Nat} {fv' : List Value} {s' : Ev} (h : StQ P w0 w be bw tx inp s bl lv l vo vb gs fv) (h' : StQ Q w0 w' be bw tx inp s' bl' lv' l' vo' vb' gs' fv') (hB : But (FrQ Q w0) w w') (hQ : ∀ k, P k ∨ LocP bl lv k → Q k) : StQ P w0 w' be bw tx inp s' bl lv l vo' vb' gs' fv' := by
 have hQl : ∀ k, LocP bl lv k → ¬ FrQ Q w0 k := fun k hk hf => hf.2 (hQ k (Or.inr hk))
 refine ⟨h'.old, h'.ev, h'.wd, h'.out, h'.ob, h'.lg, h'.lf, h'.obs, h'.nd, (hB.block bl (lt_of_block h.lb) (hQl bl (Or.inl rfl))).trans h.lb, owns_but h.lo hB (fun g hg => hQl g (Or.inr hg)), ?_, fun k hk => h'.pl k (hQ k (Or.inl hk)), ?_, h'.sf⟩
 ·intro k hk
  have new : ∀ {k}, OwnQ be bw bl' vo' vb' lv' gs' fv' k → (w0.heap.size ≤ k ∧ ¬ P k) := fun hk => ⟨(h'.own _ hk).1, fun hp => (h'.own _ hk).2 (hQ _ (Or.inl hp))⟩
  rcases hk with rfl | rfl | rfl | hk | hk | hk | hk | hk
  ·exact new (Or.inl rfl)
  ·exact new (Or.inr (Or.inl rfl))
  ·exact h.k3
  ·exact new (Or.inr (Or.inr (Or.inr (Or.inl hk))))
  ·exact new (Or.inr (Or.inr (Or.inr (Or.inr (Or.inl hk)))))
  ·exact h.k6 hk
  ·exact new (Or.inr (Or.inr (Or.inr (Or.inr (Or.inr (Or.inr (Or.inl hk)))))))
  ·exact new (Or.inr (Or.inr (Or.inr (Or.inr (Or.inr (Or.inr (Or.inr hk)))))))
 ·intro v hv g hg hl
  exact (h'.k8 hv hg).2 (hQ g (Or.inr (Or.inr hl)))
end
end Go.Proofs.YtpfkkmacakjmbaaGreatDoor
namespace Go.Proofs.YtpfkkmacakjmbaaGreatDoor
open Go
section
variable {P : Program} {ops : Array Oper} {Q : Exit → Act → World → Prop} {S : World → Prop} {p : Nat}
theorem wpTL_firstT {i : Nat} {oi : Oper} {v : Value} (T : Nat → Prop) (hi : ops[i]? = some oi) (hip : i < p) (hsel : ∀ (j : Nat) (o : Oper) cs b, ops[j]? = some o → o.op ≠ .select cs b)
  (hT1 : ∀ j oj, ops[j]? = some oj → p ≤ j → T j) (hT2 : ∀ j oj, ops[j]? = some oj → T j → ∃ e ∈ oj.after, Region.binds .any e = true ∧ (e.on = i ∨ T e.on))
  (hQ : ∀ c a w, Q (.panic c) (a.put oi.dst v) w → Q (.panic c) a w) :
  ∀ (fuel : Nat) (listed : Array Bool) (a : Act) (w : World), (∀ j, T j → listed.getD j false = false) →
   (∀ j oj, ops[j]? = some oj → j ≠ i → listed.getD j true = false → (∀ e ∈ oj.after, Region.binds .any e = true → e.on ≠ i) → oi.apart ops oj = true) →
   i ∈ Region.ready .any ops listed → YieldsIf P ops S oi v a → S w →
   wpTL P ops Q S p fuel (listed.setIfInBounds i true) (a.put oi.dst v) w → wpTL P ops Q S p (fuel + 1) listed a w := by
 intro fuel
 induction fuel with
 | zero =>
  intro listed a w _ _ hr hy hS H
  refine ⟨fun h => (by rw [h] at hr; cases hr), fun j hj => ?_⟩
  by_cases hji : j = i
  ·subst hji; exact hy.wpOp hi hS ⟨fun _ => hS, H⟩
  ·have := ready_mono hj hji
   rw [H.1] at this
   cases this
 | succ fuel ih =>
  intro listed a w hTl hfree hr hy hS H
  refine ⟨fun h => (by rw [h] at hr; cases hr), fun j hj => ?_⟩
  by_cases hji : j = i
  ·subst hji; exact hy.wpOp hi hS ⟨fun _ => hS, H⟩
  ·have h1 := H.2 j (ready_mono hj hji)
   obtain ⟨hjun, oj, hoj, hall⟩ := mem_ready.1 hj
   have hnot : ∀ e ∈ oj.after, Region.binds .any e = true → e.on ≠ i := fun e he hb heq => by
    have h1 := hall e he hb
    have h0 := (mem_ready.1 hr).1
    rw [heq] at h1
    rcases Nat.lt_or_ge i listed.size with h' | h'
    ·simp [h'] at h0 h1; rw [h0] at h1; cases h1
    ·simp [Array.getElem?_eq_none h'] at h1
   have hnT : ¬ T j := fun hT => by
    obtain ⟨e, he, hb, ho⟩ := hT2 j oj hoj hT
    rcases ho with ho | ho
    ·exact hnot e he hb ho
    ·have h1 := hall e he hb
     have h2 := hTl e.on ho
     rw [h2] at h1
     cases h1
   have hjp : j < p := by
    rcases Nat.lt_or_ge j p with h | h
    ·exact h
    ·exact absurd (hT1 j oj hoj h) hnT
   have h2 := wpOp_putIf hoj (hfree j oj hoj hji hjun hnot) (fun cs b => hsel i oi cs b hi) (fun cs b => hsel j oj cs b hoj) hQ hy h1
   have hfree' : ∀ k ok, ops[k]? = some ok → k ≠ i → (listed.setIfInBounds j true).getD k true = false →
     (∀ e ∈ ok.after, Region.binds .any e = true → e.on ≠ i) → oi.apart ops ok = true := fun k ok hk hki hun hno => by
    refine hfree k ok hk hki ?_ hno
    by_cases hjk : j = k
    ·subst hjk; exact hjun
    ·rw [getD_set_ne true hjk] at hun; exact hun
   have hTl' : ∀ k, T k → (listed.setIfInBounds j true).getD k false = false := fun k hk => by
    have hjk : j ≠ k := fun e => hnT (e ▸ hk)
    have := hTl k hk
    simpa [Array.getElem?_setIfInBounds_ne hjk] using this
   refine wpOp_mono (fun a' w' h3 => ⟨h3.2.1, ih (listed.setIfInBounds j true) a' w' hTl' hfree' (ready_mono hr (Ne.symm hji)) h3.1 (h3.2.1 hjp) ?_⟩) h2
   rw [Array.setIfInBounds_comm _ _ hji]
   exact h3.2.2
def waits (ops : Array Oper) (k : Nat) : List Nat := (List.range ops.size).foldl (fun L j => match ops[j]? with
 | some oj => if oj.after.any (fun e => Region.binds .any e && (e.on == k || L.contains e.on)) then j :: L else L
 | none => L) []
def takeOkT (ops : Array Oper) (p k : Nat) : Bool :=
 decide (k < p) && Region.noSelect ops && Region.free .any ops (upTo ops.size k) k && (Region.ready .any ops (upTo ops.size k)).contains k &&
 ((List.range ops.size).all fun j => decide (j < p) || (waits ops k).contains j) &&
 (waits ops k).all fun j => decide (k ≤ j) && match ops[j]? with
  | some oj => oj.after.any fun e => Region.binds .any e && (e.on == k || (waits ops k).contains e.on)
  | none => false
theorem wpTx_takeT {k : Nat} {o : Oper} {rest : List Oper} {v : Value} {a : Act} {w : World} (hod : ops.toList.drop k = o :: rest) (hc : takeOkT ops p k = true)
  (hQ : ∀ c a w, Q (.panic c) (a.put o.dst v) w → Q (.panic c) a w)
  (hw : Region.wanted o (yielded ops a.tmps) = true) (hS : S w) (hy : ∀ w, S w → (execOp a.eval o).run P w = .ok (.value v) w) (h : wpTx P ops Q S p (k + 1) (a.put o.dst v) w) : wpTx P ops Q S p k a w := by
 have ho := at_of_drop hod
 unfold takeOkT at hc
 generalize waits ops k = L at hc
 simp only [Bool.and_eq_true, decide_eq_true_eq, List.all_eq_true, List.mem_range] at hc
 obtain ⟨⟨⟨⟨⟨hkp, hns⟩, hfr⟩, hrd⟩, hwt⟩, hL⟩ := hc
 have hk : k < ops.size := (Array.getElem?_eq_some_iff.1 ho).1
 unfold wpTx at *
 rw [show ops.size - k = (ops.size - (k + 1)) + 1 from by omega]
 refine wpTL_firstT (fun j => j ∈ L) ho hkp (Region.noSelect_spec hns) ?_ ?_ hQ _ _ a w ?_ (Region.free_spec ho hfr) (by simpa using hrd) (Or.inl ⟨hw, hy⟩) hS (by rw [upTo_set]; exact h)
 ·intro j oj hj hpj
  have hjs : j < ops.size := (Array.getElem?_eq_some_iff.1 hj).1
  have := hwt j hjs
  simp only [Bool.or_eq_true, decide_eq_true_eq] at this
  rcases this with h1 | h1
  ·omega
  ·simpa using h1
 ·intro j oj hj hT
  have := (hL j hT).2
  rw [hj] at this
  simp only [Array.any_eq_true, Bool.and_eq_true, Bool.or_eq_true, beq_iff_eq] at this
  obtain ⟨i, hi, h1, h2⟩ := this
  exact ⟨oj.after[i], Array.getElem_mem hi, h1, h2.imp_right (fun h => by simpa using h)⟩
 ·intro j hT
  have := (hL j hT).1
  rcases Nat.lt_or_ge j ops.size with hj | hj
  ·simp [upTo, hj]; omega
  ·simp [upTo, hj]
theorem wpTL_firstW {i : Nat} {oi : Oper} {v : Value} (hi : ops[i]? = some oi) (hpi : p ≤ i) (hsel : ∀ (j : Nat) (o : Oper) cs b, ops[j]? = some o → o.op ≠ .select cs b)
  (hQ : ∀ c a w, Q (.panic c) (a.put oi.dst v) w → Q (.panic c) a w) :
  ∀ (fuel : Nat) (listed : Array Bool) (a : Act) (w : World),
   (∀ j oj, ops[j]? = some oj → j ≠ i → listed.getD j true = false → (∀ e ∈ oj.after, Region.binds .any e = true → e.on ≠ i) → oi.apart ops oj = true) →
   i ∈ Region.ready .any ops listed → YieldsIf P ops (fun _ => True) oi v a →
   wpTL P ops Q S p fuel (listed.setIfInBounds i true) (a.put oi.dst v) w → wpTL P ops Q S p (fuel + 1) listed a w := by
 intro fuel
 induction fuel with
 | zero =>
  intro listed a w _ hr hy H
  refine ⟨fun h => (by rw [h] at hr; cases hr), fun j hj => ?_⟩
  by_cases hji : j = i
  ·subst hji; exact hy.wpOp hi trivial ⟨fun h => by omega, H⟩
  ·have := ready_mono hj hji
   rw [H.1] at this
   cases this
 | succ fuel ih =>
  intro listed a w hfree hr hy H
  refine ⟨fun h => (by rw [h] at hr; cases hr), fun j hj => ?_⟩
  by_cases hji : j = i
  ·subst hji; exact hy.wpOp hi trivial ⟨fun h => by omega, H⟩
  ·have h1 := H.2 j (ready_mono hj hji)
   obtain ⟨hjun, oj, hoj, hall⟩ := mem_ready.1 hj
   have hnot : ∀ e ∈ oj.after, Region.binds .any e = true → e.on ≠ i := fun e he hb heq => by
    have h1 := hall e he hb
    have h0 := (mem_ready.1 hr).1
    rw [heq] at h1
    rcases Nat.lt_or_ge i listed.size with h' | h'
    ·simp [h'] at h0 h1; rw [h0] at h1; cases h1
    ·simp [Array.getElem?_eq_none h'] at h1
   have h2 := wpOp_putIf hoj (hfree j oj hoj hji hjun hnot) (fun cs b => hsel i oi cs b hi) (fun cs b => hsel j oj cs b hoj) hQ hy h1
   have hfree' : ∀ k ok, ops[k]? = some ok → k ≠ i → (listed.setIfInBounds j true).getD k true = false →
     (∀ e ∈ ok.after, Region.binds .any e = true → e.on ≠ i) → oi.apart ops ok = true := fun k ok hk hki hun hno => by
    refine hfree k ok hk hki ?_ hno
    by_cases hjk : j = k
    ·subst hjk; exact hjun
    ·rw [getD_set_ne true hjk] at hun; exact hun
   refine wpOp_mono (fun a' w' h3 => ⟨h3.2.1, ih (listed.setIfInBounds j true) a' w' hfree' (ready_mono hr (Ne.symm hji)) h3.1 ?_⟩) h2
   rw [Array.setIfInBounds_comm _ _ hji]
   exact h3.2.2
def takeOkW (ops : Array Oper) (p k : Nat) : Bool :=
 decide (p ≤ k) && decide (k < ops.size) && Region.noSelect ops && Region.free .any ops (upTo ops.size k) k && (Region.ready .any ops (upTo ops.size k)).contains k
theorem wpTx_takeW {k : Nat} {o : Oper} {rest : List Oper} {v : Value} {a : Act} {w : World} (hod : ops.toList.drop k = o :: rest) (hc : takeOkW ops p k = true)
  (hQ : ∀ c a w, Q (.panic c) (a.put o.dst v) w → Q (.panic c) a w)
  (hw : Region.wanted o (yielded ops a.tmps) = true) (hy : ∀ w, (execOp a.eval o).run P w = .ok (.value v) w) (h : wpTx P ops Q S p (k + 1) (a.put o.dst v) w) : wpTx P ops Q S p k a w := by
 have ho := at_of_drop hod
 unfold takeOkW at hc
 simp only [Bool.and_eq_true, decide_eq_true_eq] at hc
 obtain ⟨⟨⟨⟨hkp, hk⟩, hns⟩, hfr⟩, hrd⟩ := hc
 unfold wpTx at *
 rw [show ops.size - k = (ops.size - (k + 1)) + 1 from by omega]
 exact wpTL_firstW ho hkp (Region.noSelect_spec hns) hQ _ _ a w (Region.free_spec ho hfr) (by simpa using hrd) (Or.inl ⟨hw, fun w _ => hy w⟩) (by rw [upTo_set]; exact h)
end
end Go.Proofs.YtpfkkmacakjmbaaGreatDoor
namespace Go.Proofs.YtpfkkmacakjmbaaGreatDoor
open Go Go.RowKit Sp
set_option linter.unusedSimpArgs false
set_option linter.unusedVariables false
attribute [local go_sem ↓] Go.wp_at_zero Go.wp_at_succ
def ResD (P : Nat → Prop) (w0 : World) (bw bi : Nat) (inp : ByteArray) (d : Nat) (lv : Value) (r : R) (en : Ending) (w' : World) : Prop := match r with
 | .bad e o => (∃ a b : Int, en = .returned (.agg #[.int .u8 a, .int .i64 b])) ∧ bw < w'.heap.size ∧ ∃ (hv : Value) (r l : Int), WkB w' bw bi hv inp r l d o e
 | .ok v l s => en = .returned (vAgg v) ∧ ∃ hv fv, StX P w0 w' bw bi inp d s lv l hv fv
abbrev FrD (P : Nat → Prop) (w0 : World) (k : Nat) : Prop := w0.heap.size ≤ k ∧ ¬ P k
theorem but_w {P : Nat → Prop} {w0 w w' : World} {bw bi d : Nat} {inp : ByteArray} {s : Ev} {lv hv : Value} {l : List V} {fv : List Value} (hst : StX P w0 w bw bi inp d s lv l hv fv) (h : But (· = bw) w w') : But (FrD P w0) w w' := h.mono (fun k _ e => by subst e; exact ⟨hst.ge, hst.pw⟩)
theorem but_n {F : Nat → Prop} {w w' : World} (h : But (fun _ => False) w w') : But F w w' := h.mono (fun _ _ h => h.elim)
theorem arith_any (P : Nat → Prop) (w0 w : World) (bw bi d : Nat) (inp : ByteArray) (s : Ev) (lv hv : Value) (l : List V) (fv : List Value) (hst : StX P w0 w bw bi inp d s lv l hv fv) (op : Nat) (hop : op = 43 ∨ op = 45 ∨ op = 42 ∨ op = 60 ∨ op = 61 ∨ op = 47) (a b : Int) (a1 : -2147483648 ≤ a) (a2 : a < 2147483648) (b1 : -2147483648 ≤ b) (b2 : b < 2147483648) :
  Calls Tryz.prog 188 #[.pointer (some ⟨bw, 0, none⟩), .int .u8 op, .int .i64 a, .int .i64 b] w fun en w' => But (FrD P w0) w w' ∧ ResD P w0 bw bi inp d lv (arithV op a b l s) en w' := by
 have hbl := hst.blt
 have hfr : FrD P w0 bw := ⟨hst.ge, hst.pw⟩
 by_cases h47 : op = 47
 ·subst h47
  by_cases h0 : b = 0
  ·subst h0
   rw [show arithV 47 a 0 l s = .bad 7 s.out from by simp [arithV]]
   have fz := hst.wk.fz 7
   have c7 := hst.wk.c7
   have HK := hid hst.wk
   go_enter Tryz.func188, Tryz.ntmps188
   go_wp2_with fail
   exact bodyPost_ret (v := .agg #[.int .u8 0, .int .i64 0]) (by simp [results, Tryz.results188, go_sem]) rfl ⟨but_w hst ((But.setB _ _ _ _).trans (But.alloc _ _ _)), ⟨⟨0, 0, rfl⟩, by simp [World.setCell]; omega, hv, _, _, (HK.out.set7 7).but (But.alloc (fun _ => False) _ _) (fun h => h)⟩⟩
  ·rw [show arithV 47 a b l s = .ok (.i (w32 (Int.tdiv a b))) l s from by simp [arithV, h0]]
   have h0' : (b == 0) = false := by simpa using h0
   obtain ⟨q, hq⟩ : ∃ q, Int.tdiv a b = q := ⟨_, rfl⟩
   have hqa : q.natAbs ≤ a.natAbs := by rw [← hq, Int.natAbs_tdiv]; exact Nat.div_le_self _ _
   rw [hq]
   have hwq : wrap64 q = q := IntWalk.wrap64_in q ⟨by omega, by omega⟩
   go_enter Tryz.func188, Tryz.ntmps188
   go_wp2_with fail
   refine (wrap_any _ (by omega) (by omega) _).mono ?_
   rintro en wx ⟨rfl, hwx⟩
   rw [hwx]
   clear hwx wx
   go_wp2_with fail
   exact bodyPost_ret (v := vAgg (.i (w32 q))) (by simp [results, Tryz.results188, go_sem, vAgg, V.K, V.N]) rfl ⟨but_n (But.alloc _ _ _), rfl, hv, fv, hst.new (But.alloc _ _ _)⟩
 ·rw [show arithV op a b l s = .ok (.i (aluV op a b)) l s from by simp [arithV, h47]]
  have hop' : op = 43 ∨ op = 45 ∨ op = 42 ∨ op = 60 ∨ op = 61 := by omega
  have ht : ((op : Int) == 47) = false := by rw [beq_eq_false_iff_ne]; omega
  have HA := hid (fun w => alu_any op hop' a b a1 a2 b1 b2 w)
  clear hop hop' h47
  go_enter Tryz.func188, Tryz.ntmps188
  go_wp2_with fail
  refine (HA.out _).mono ?_
  rintro en wx ⟨rfl, hwx⟩
  rw [hwx]
  clear hwx wx
  go_wp2_with fail
  exact bodyPost_ret (v := vAgg (.i (aluV op a b))) (by simp [results, Tryz.results188, go_sem, vAgg, V.K, V.N]) rfl ⟨but_n (But.alloc _ _ _), rfl, hv, fv, hst.new (But.alloc _ _ _)⟩
section
variable {fn : Func} {a : Act} {w0 w X : World} {c r bw bi d : Nat} {P P1 : Nat → Prop} {inp : ByteArray} {s : Ev} {lv hv : Value} {l : List V} {fv : List Value}
theorem end_ok (hf : fn.results = #[.cell c 135]) (hd : a.defers = []) (hc : a.tmps.getD c undef = .pointer (some ⟨r, 0, none⟩)) (hs : StX P1 w0 X bw bi inp d s lv l hv fv) (hr : ResB X r) (hr1 : P1 r) (hr2 : w.heap.size ≤ r) (h0 : w0.heap.size ≤ w.heap.size) (hPP : ∀ k, P k → P1 k) (hB : But (FrD P w0) w X) {v : V} {K N : Int} (hK : K = v.K) (hN : N = v.N) :
  bodyPost Tryz.prog fn (fun en w' => But (FrD P w0) w w' ∧ ResD P w0 bw bi inp d lv (.ok v l s) en w') .ret a ((X.setCell ⟨r, 0, none⟩ (.int .u8 K)).setCell ⟨r, 1, none⟩ (.int .i64 N)) := by
 subst hK hN
 refine ret_val hf hd hc (hr.put _ _) ⟨hB.next (but_put _ _ _ _) (fun k hk e => by omega), rfl, hv, fv, (hs.tmp (but_put _ _ _ _) (fun k e => ?_)).less hPP⟩
 subst e
 exact ⟨hr1, by omega⟩
theorem end_same (hf : fn.results = #[.cell c 135]) (hd : a.defers = []) (hc : a.tmps.getD c undef = .pointer (some ⟨r, 0, none⟩)) (hs : StX P w0 w bw bi inp d s lv l hv fv) (hB : But (fun _ => False) w X) {v : V} {K N : Int} (hr : X.heap[r]? = some (.cells #[.int .u8 K, .int .i64 N] 135)) (hK : K = v.K) (hN : N = v.N) :
  bodyPost Tryz.prog fn (fun en w' => But (FrD P w0) w w' ∧ ResD P w0 bw bi inp d lv (.ok v l s) en w') .ret a X := by
 subst hK hN
 exact ret_val hf hd hc hr ⟨but_n hB, rfl, hv, fv, hs.new hB⟩
theorem end_to {X0 : World} (hf : fn.results = #[.cell c 135]) (hd : a.defers = []) (hc : a.tmps.getD c undef = .pointer (some ⟨r, 0, none⟩)) (hs : StX P w0 X0 bw bi inp d s lv l hv fv) (hB0 : But (FrD P w0) w X0) (hB : But (fun _ => False) X0 X) {v : V} {K N : Int} (hr : X.heap[r]? = some (.cells #[.int .u8 K, .int .i64 N] 135)) (hK : K = v.K) (hN : N = v.N) :
  bodyPost Tryz.prog fn (fun en w' => But (FrD P w0) w w' ∧ ResD P w0 bw bi inp d lv (.ok v l s) en w') .ret a X := by
 subst hK hN
 exact ret_val hf hd hc hr ⟨hB0.trans (but_n hB), rfl, hv, fv, hs.new hB⟩
theorem end_no {X0 : World} (hf : fn.results = #[.cell c 135]) (hd : a.defers = []) (hc : a.tmps.getD c undef = .pointer (some ⟨r, 0, none⟩)) {rd lf e : Int} {E : Nat} {o : List UInt8} (hs : WkB X0 bw bi hv inp rd lf d o e) (he : e = E) (hB0 : But (FrD P w0) w X0) (hB : But (fun _ => False) X0 X) {K N : Int} (hr : X.heap[r]? = some (.cells #[.int .u8 K, .int .i64 N] 135)) :
  bodyPost Tryz.prog fn (fun en w' => But (FrD P w0) w w' ∧ ResD P w0 bw bi inp d lv (.bad E o) en w') .ret a X := by
 subst he
 have hk := hs.but hB (fun h => h)
 exact ret_val hf hd hc hr ⟨hB0.trans (but_n hB), ⟨_, _, rfl⟩, hk.lt, hv, _, _, hk⟩
theorem end_bad (hf : fn.results = #[.cell c 135]) (hd : a.defers = []) (hc : a.tmps.getD c undef = .pointer (some ⟨r, 0, none⟩)) {rd lf e : Int} {E : Nat} {o : List UInt8} (hs : WkB X bw bi hv inp rd lf d o e) (he : e = E) (hne : bw ≠ r) (hr : ResB X r) (hr2 : w.heap.size ≤ r) (hB : But (FrD P w0) w X) {K N : Int} :
  bodyPost Tryz.prog fn (fun en w' => But (FrD P w0) w w' ∧ ResD P w0 bw bi inp d lv (.bad E o) en w') .ret a ((X.setCell ⟨r, 0, none⟩ (.int .u8 K)).setCell ⟨r, 1, none⟩ (.int .i64 N)) := by
 subst he
 have hk := hs.but (but_put X r (.int .u8 K) (.int .i64 N)) (fun h => hne h)
 exact ret_val hf hd hc (hr.put _ _) ⟨hB.next (but_put _ _ _ _) (fun k hk e => by omega), ⟨_, _, rfl⟩, hk.lt, hv, _, _, hk⟩
theorem end_okA (hf : fn.results = #[.cell c 135]) (hd : a.defers = []) (hc : a.tmps.getD c undef = .pointer (some ⟨r, 0, none⟩)) (hs : StX P1 w0 X bw bi inp d s lv l hv fv) (hr : ResB X r) (hr1 : P1 r) (hr2 : w.heap.size ≤ r) (h0 : w0.heap.size ≤ w.heap.size) (hPP : ∀ k, P k → P1 k) (hB : But (FrD P w0) w X) {v : V} {K N : Int} {o : Obj} (hK : K = v.K) (hN : N = v.N) :
  bodyPost Tryz.prog fn (fun en w' => But (FrD P w0) w w' ∧ ResD P w0 bw bi inp d lv (.ok v l s) en w') .ret a (((X.setCell ⟨r, 0, none⟩ (.int .u8 K)).setCell ⟨r, 1, none⟩ (.int .i64 N)).alloc o) := by
 subst hK hN
 have hp := hr.put v.K v.N
 refine ret_val hf hd hc (((But.alloc (fun _ => False) _ o).block r (lt_of_block hp) (fun h => h)).trans hp) ⟨(hB.next (but_put _ _ _ _) (fun k hk e => by omega)).trans (But.alloc _ _ _), rfl, hv, fv, ((hs.tmp (but_put _ _ _ _) (fun k e => ?_)).less hPP).new (But.alloc _ _ _)⟩
 subst e
 exact ⟨hr1, by omega⟩
theorem end_badA (hf : fn.results = #[.cell c 135]) (hd : a.defers = []) (hc : a.tmps.getD c undef = .pointer (some ⟨r, 0, none⟩)) {rd lf e : Int} {E : Nat} {o : List UInt8} (hs : WkB X bw bi hv inp rd lf d o e) (he : e = E) (hne : bw ≠ r) (hr : ResB X r) (hr2 : w.heap.size ≤ r) (hB : But (FrD P w0) w X) {K N : Int} {ob : Obj} :
  bodyPost Tryz.prog fn (fun en w' => But (FrD P w0) w w' ∧ ResD P w0 bw bi inp d lv (.bad E o) en w') .ret a (((X.setCell ⟨r, 0, none⟩ (.int .u8 K)).setCell ⟨r, 1, none⟩ (.int .i64 N)).alloc ob) := by
 subst he
 have hk := (hs.but (but_put X r (.int .u8 K) (.int .i64 N)) (fun h => hne h)).but (But.alloc (fun _ => False) _ ob) (fun h => h)
 have hp := hr.put K N
 exact ret_val hf hd hc (((But.alloc (fun _ => False) _ ob).block r (lt_of_block hp) (fun h => h)).trans hp) ⟨(hB.next (but_put _ _ _ _) (fun k hk e => by omega)).trans (But.alloc _ _ _), ⟨_, _, rfl⟩, hk.lt, hv, _, _, hk⟩
theorem ResD.val {rr : R} {en : Ending} (h : ResD P w0 bw bi inp d lv rr en X) : ∃ K N : Int, en = .returned (.agg #[.int .u8 K, .int .i64 N]) := by
 cases rr with
 | bad e o => exact h.1
 | ok v l s => exact ⟨_, _, h.1⟩
theorem pass_on {W w1 : World} {rr : R} {K N : Int} (hf : fn.results = #[.cell c 135]) (hd : a.defers = []) (hc : a.tmps.getD c undef = .pointer (some ⟨r, 0, none⟩)) (hB0 : But (FrD P w0) w W) (hB : But (FrD P1 w0) W w1) (hq : ResD P1 w0 bw bi inp d lv rr (.returned (.agg #[.int .u8 K, .int .i64 N])) w1) (hr : ResB w1 r) (hr1 : P1 r) (hr2 : w.heap.size ≤ r) (h0 : w0.heap.size ≤ w.heap.size) (hPP : ∀ k, P k → P1 k) (hbr : bw ≠ r) :
  bodyPost Tryz.prog fn (fun en w' => But (FrD P w0) w w' ∧ ResD P w0 bw bi inp d lv rr en w') .ret a ((w1.setCell ⟨r, 0, none⟩ (.int .u8 K)).setCell ⟨r, 1, none⟩ (.int .i64 N)) := by
 have hB1 : But (FrD P w0) w w1 := hB0.trans (hB.mono (fun k _ h => ⟨h.1, fun hp => h.2 (hPP k hp)⟩))
 cases rr with
 | bad e o =>
  obtain ⟨_, _, hv, rd, lf, hk⟩ := hq
  exact end_bad hf hd hc hk rfl hbr hr hr2 hB1
 | ok v l s =>
  obtain ⟨he, hv, fv, hs⟩ := hq
  injection he with he
  injection he with he
  simp only [Array.mk.injEq, List.cons.injEq, Value.int.injEq, true_and, and_true] at he
  exact end_ok hf hd hc hs hr hr1 hr2 h0 hPP hB1 he.1 he.2
end
end Go.Proofs.YtpfkkmacakjmbaaGreatDoor
