import Derived.Test.YtpfkkmacakjmbaaGreatDoorP14
import Derived.Test.YtpfkkmacakjmbaaGreatDoorP24
set_option maxRecDepth 100000
set_option maxHeartbeats 6400000
namespace Go.Proofs.YtpfkkmacakjmbaaGreatDoor
open Go Go.RowKit Sp
set_option linter.unusedSimpArgs false
set_option linter.unusedVariables false
attribute [local go_sem ↓] Go.wp_at_zero Go.wp_at_succ
def vCells (v : V) : List Value := [.int .u8 v.K, .int .i64 v.N]
def vAgg (v : V) : Value := .agg #[.int .u8 v.K, .int .i64 v.N]
def valCells (l : List V) : List Value := l.flatMap vCells
theorem valCells_len (l : List V) : (valCells l).length = l.length * 2 := by
 induction l with
 | nil => rfl
 | cons v l ih => simp [valCells, vCells] at ih ⊢; omega
theorem valCells_snoc (l : List V) (v : V) : valCells (l ++ [v]) = valCells l ++ [.int .u8 v.K, .int .i64 v.N] := by simp [valCells, vCells]
theorem valCells_at {l : List V} {j k : Nat} {v : V} (h : l[j]? = some v) (hk : k < 2) : (valCells l)[j * 2 + k]? = (vCells v)[k]? := flat_at vCells 2 (fun _ => rfl) l j k v h hk
theorem plain_any (t : UInt8) (w : World) :
  Calls Tryz.prog 108 #[.int .u8 t.toNat] w fun en w' => en = .returned (vAgg (plainV t)) ∧ But (fun _ => False) w w' := by
 by_cases h : t.toNat = 105
 ·have hb : ((t.toNat : Int) == 105) = true := by rw [beq_iff_eq]; omega
  rw [show plainV t = .i 0 from by unfold plainV; rw [if_pos h]]
  clear h
  go_enter Tryz.func108, Tryz.ntmps108
  go_wp2_with fail
  exact bodyPost_ret (v := vAgg (.i 0)) (by simp [results, Tryz.results108, go_sem, vAgg, V.K, V.N]) rfl ⟨rfl, But.alloc _ _ _⟩
 ·have hb : ((t.toNat : Int) == 105) = false := by rw [beq_eq_false_iff_ne]; omega
  rw [show plainV t = .z from by unfold plainV; rw [if_neg h]]
  clear h
  go_enter Tryz.func108, Tryz.ntmps108
  go_wp2_with fail
  exact bodyPost_ret (v := vAgg .z) (by simp [results, Tryz.results108, go_sem, vAgg, V.K, V.N]) rfl ⟨rfl, But.alloc _ _ _⟩
theorem truth_any (b : Bool) (w : World) :
  Calls Tryz.prog 182 #[.bool b] w fun en w' => en = .returned (vAgg (if b = true then .i 1 else .i 0)) ∧ But (fun _ => False) w w' := by
 cases b
 ·go_enter Tryz.func182, Tryz.ntmps182
  go_wp2_with fail
  exact bodyPost_ret (v := vAgg (.i 0)) (by simp [results, Tryz.results182, go_sem, vAgg, V.K, V.N]) rfl ⟨rfl, But.alloc _ _ _⟩
 ·go_enter Tryz.func182, Tryz.ntmps182
  go_wp2_with fail
  exact bodyPost_ret (v := vAgg (.i 1)) (by simp [results, Tryz.results182, go_sem, vAgg, V.K, V.N]) rfl ⟨rfl, But.alloc _ _ _⟩
theorem nextIn_any (s : ByteArray) (i : Nat) (hi : i ≤ 5000) (w : World) :
  Calls Tryz.prog 180 #[.string s, .int .i64 i] w fun en w' => en = .returned (.int .i64 (nextV s i)) ∧ w' = w := by
 by_cases h : i < s.size
 ·have hI : ¬ ((s.size : Int) ≤ (i : Int)) := by omega
  have hI2 : (i : Int) < (s.size : Int) := by omega
  rw [show nextV s i = (s[i].toNat : Int) from by unfold nextV; rw [dif_pos h]]
  have hw := wrapI (s[i].toNat : Int) (by omega) (by have := s[i].toNat_lt; omega)
  rw [IntWalk.i64_left] at hw
  go_enter Tryz.func180, Tryz.ntmps180
  go_wp2_with fail
  go_ret
  exact ⟨rfl, rfl⟩
 ·have hI : ((s.size : Int) ≤ (i : Int)) := by omega
  rw [show nextV s i = -1 from by unfold nextV; rw [dif_neg h]]
  go_enter Tryz.func180, Tryz.ntmps180
  go_wp2_with fail
  go_ret
  exact ⟨rfl, rfl⟩
theorem tmod32 (n : Int) : (0 ≤ n → n.tmod 4294967296 = n % 4294967296) ∧ (n < 0 → n.tmod 4294967296 = -((-n) % 4294967296)) := by
 refine ⟨fun h => Int.tmod_eq_emod_of_nonneg h, fun h => ?_⟩
 have : n = -(-n) := by omega
 rw [this, Int.neg_tmod, Int.tmod_eq_emod_of_nonneg (by omega)]
 simp
theorem wrap_any (n : Int) (h1 : -9223372036854775808 ≤ n) (h2 : n ≤ 9223372036854775807) (w : World) :
  Calls Tryz.prog 184 #[.int .i64 n] w fun en w' => en = .returned (.int .i64 (w32 n)) ∧ w' = w := by
 have ht := hid (tmod32 n)
 go_enter Tryz.func184, Tryz.ntmps184
 go_wp2_with fail
 all_goals go_ret
 all_goals refine ⟨ret_int ?_, rfl⟩
 all_goals
  have ht := ht.out
  unfold w32 wrap32
  have hw : ∀ m : Int, -9223372036854775808 ≤ m → m ≤ 9223372036854775807 → wrap64 m = m := fun m h1 h2 => IntWalk.wrap64_in m ⟨h1, h2⟩
  have hr : -4294967296 < n.tmod 4294967296 ∧ n.tmod 4294967296 < 4294967296 := by omega
  try rw [hw (n.tmod 4294967296 + 4294967296) (by omega) (by omega)] at *
  try rw [hw (n.tmod 4294967296 - 4294967296) (by omega) (by omega)]
  try rw [hw (n.tmod 4294967296 + 4294967296 - 4294967296) (by omega) (by omega)]
  omega
theorem w32_in {n : Int} (h1 : -2147483648 ≤ n) (h2 : n ≤ 2147483647) : w32 n = n := by unfold w32 wrap32; omega
theorem mul_bound {a b : Int} (a1 : -2147483648 ≤ a) (a2 : a < 2147483648) (b1 : -2147483648 ≤ b) (b2 : b < 2147483648) : -4611686018427387904 ≤ a * b ∧ a * b ≤ 4611686018427387904 := by
 have h := Nat.mul_le_mul (show a.natAbs ≤ 2147483648 by omega) (show b.natAbs ≤ 2147483648 by omega)
 rw [← Int.natAbs_mul] at h
 omega
theorem alu_any (op : Nat) (hop : op = 43 ∨ op = 45 ∨ op = 42 ∨ op = 60 ∨ op = 61) (a b : Int) (a1 : -2147483648 ≤ a) (a2 : a < 2147483648) (b1 : -2147483648 ≤ b) (b2 : b < 2147483648) (w : World) :
  Calls Tryz.prog 183 #[.int .u8 op, .int .i64 a, .int .i64 b] w fun en w' => en = .returned (.int .i64 (aluV op a b)) ∧ w' = w := by
 have hm := mul_bound a1 a2 b1 b2
 obtain ⟨p, hp⟩ : ∃ p, a * b = p := ⟨_, rfl⟩
 have HP := hid hp
 rw [hp] at hm
 rcases hop with rfl | rfl | rfl | rfl | rfl
 ·clear hp
  go_enter Tryz.func183, Tryz.ntmps183
  go_wp2_with fail
  refine (wrap_any _ (by omega) (by omega) _).mono ?_
  rintro en wx ⟨rfl, rfl⟩
  go_wp2_with fail
  go_ret
  exact ⟨rfl, rfl⟩
 ·clear hp
  go_enter Tryz.func183, Tryz.ntmps183
  go_wp2_with fail
  refine (wrap_any _ (by omega) (by omega) _).mono ?_
  rintro en wx ⟨rfl, rfl⟩
  go_wp2_with fail
  go_ret
  exact ⟨rfl, rfl⟩
 ·go_enter Tryz.func183, Tryz.ntmps183
  go_wp2_with fail
  refine (wrap_any _ (by omega) (by omega) _).mono ?_
  rintro en wx ⟨rfl, rfl⟩
  go_wp2_with fail
  go_ret
  exact ⟨by rw [← HP.out]; rfl, rfl⟩
 ·clear hp
  go_enter Tryz.func183, Tryz.ntmps183
  go_wp2_with fail
  all_goals refine (wrap_any _ (by omega) (by omega) _).mono ?_
  all_goals rintro en wx ⟨rfl, rfl⟩
  all_goals go_wp2_with fail
  all_goals go_ret
  all_goals exact ⟨ret_int (by rw [w32_in (by omega) (by omega)]; unfold aluV; simp; omega), rfl⟩
 ·clear hp
  go_enter Tryz.func183, Tryz.ntmps183
  go_wp2_with fail
  all_goals refine (wrap_any _ (by omega) (by omega) _).mono ?_
  all_goals rintro en wx ⟨rfl, rfl⟩
  all_goals go_wp2_with fail
  all_goals go_ret
  all_goals exact ⟨ret_int (by rw [w32_in (by omega) (by omega)]; unfold aluV; simp_all), rfl⟩
theorem valInfo : (Tryz.prog.info? 135).map (fun i => (i.zero, i.size, i.bytes)) = some (some (.agg #[.int .u8 0, .int .i64 0]), 2, 16) := by kernel_rfl
theorem owns_mono {w : World} {base base' e size n : Nat} {v : Value} {xs : List Value} (h : w.ownsRow base e size v n xs) (hb : base' ≤ base) : w.ownsRow base' e size v n xs :=
 ⟨h.1, h.2.imp id fun ⟨g, cap, cur, a, b, c⟩ => ⟨g, cap, cur, a, Nat.le_trans hb b, c⟩⟩
theorem wpList_append_val {ops : Array Oper} {rest : List Oper} {o : Oper} {a : Act} {Q : Exit → Act → World → Prop} (hgd : o.guard = none) (s x : Operand)
  (ho : o.op = .call { callee := .builtin .append, args := #[s, x], argTypes := #[118, 118] })
  (W : World) (base : Nat) (v : Value) (l : List V) (n : Nat) (hn : l.length = n) (K N : Int) (u : V) (hK : K = u.K) (hN : N = u.N) (hs : a.eval s = v) (H : Nat) (hH : W.heap.size = H) (hx : a.eval x = .slice (some ⟨H, 0, none⟩) 1 1) (hown : W.ownsRow base 135 2 v n (valCells l)) (hl : n ≤ 5000) (hbase : base ≤ W.heap.size)
  (h : ∀ g cap w', w'.ownsRow base 135 2 (.slice (some ⟨g, 0, none⟩) (n + 1) cap) (n + 1) (valCells (l ++ [u])) → But (fun k => v.ownBlock = some k) W w' → (v.ownBlock = some g ∨ W.heap.size ≤ g) → wpList Tryz.prog ops Q rest (a.put o.dst (.slice (some ⟨g, 0, none⟩) (n + 1) cap)) w') :
  wpList Tryz.prog ops Q (o :: rest) a (W.alloc (.cells #[.int .u8 K, .int .i64 N] 135)) := by
 obtain ⟨i0, hi0, hz0, hz1, hz2⟩ := info_parts valInfo
 subst hK hN hH hn
 refine wpList_append_lies _ hgd s x _ ho base 135 i0 _ 2 16 (by kernel_rfl) hi0 hz0 hz1 hz2 rfl (by omega) v l.length (valCells l) hs (owns_but hown (But.alloc (fun _ => False) _ _) (fun _ _ h => h)) ⟨W.heap.size, 0, none⟩ 1 1 [.int .u8 u.K, .int .i64 u.N] hx rfl
  (World.news_of_block (cs := #[.int .u8 u.K, .int .i64 u.N]) (t := 135) (fr := (0, 0)) (heap_alloc_new W _)) (by simp [Value.oneCell']) (by omega) (by unfold maxLen; omega) (by omega) (by simp; omega) (W.heap.size + 1) (by simp) ?_
 intro g cap w' h1 h2 h3 h4
 refine h g cap w' ?_ ((But.alloc _ _ _).trans (but_grown h2)) ?_
 ·rw [valCells_snoc]; exact h1
 ·rcases h3 with h3 | h3
  ·exact Or.inl h3
  ·right; omega
theorem fresh_any (bi : Nat) (im : Img) (x : Nat) (w : World) (hI : ClsAt w bi im.classes) (hx : x < im.classes.length) (hf8 : nFields im.classes x ≤ 100) :
  Calls Tryz.prog 178 #[.pointer (some ⟨bi, 0, none⟩), .int .i64 x] w fun en w' => ∃ v, en = .returned v ∧ w'.ownsRow w.heap.size 135 2 v (freshV im.classes x).length (valCells (freshV im.classes x)) ∧ But (fun _ => False) w w' := by
 obtain ⟨v0, v1, v2, hIm, hO⟩ := hI
 obtain ⟨a0, cap0, rfl⟩ := owns_len hO
 have hgl := List.getElem?_eq_getElem hx
 obtain ⟨g, rfl, hg1, hg2, hcell⟩ := owns_two hO (by omega)
 obtain ⟨fl, hfl⟩ : ∃ fl, im.classes[x].fields = fl := ⟨_, rfl⟩
 have c0 : w.cell? ⟨bi, 0, none⟩ = some (.slice (some ⟨g, 0, none⟩) im.classes.length cap0) := hIm.c0
 have c1 : w.cell? ⟨g, x * 2 + 1, none⟩ = some (.string ⟨fl.toArray⟩) := by rw [← hfl]; exact hcell _ _ (clsCells_at1 hgl)
 have hbl := hIm.lt
 have hF : Hid (freshV im.classes x = fl.map plainV) := by show _ = _; simp [freshV, fieldsOf, hgl, hfl]
 have hn8 : fl.length ≤ 100 := by simpa [nFields, hgl, hfl] using hf8
 clear hcell hgl hfl hIm hO hf8
 have hxI : (x : Int) < (im.classes.length : Int) := by omega
 generalize im.classes.length = nc at *
 go_enter Tryz.func178, Tryz.ntmps178
 go_wp2_with fail
 go_loopg [5, 6] fl.length (fun mm ls ks wr => ∃ (ao : Option Addr) (cap k : Nat) (L : List V), ls = .slice ao k cap ∧ ks = .int .i64 k ∧ k + mm ≤ fl.length ∧ fl.length ≤ k + mm ∧ wr.ownsRow w.heap.size 135 2 (.slice ao k cap) k (valCells L) ∧ But (fun _ => False) w wr ∧ Hid (L = (fl.take k).map plainV))
 case atStart => exact ⟨none, 0, 0, [], rfl, rfl, by omega, by omega, owns_nil _ _ _ _, But.refl _ _, rfl⟩
 case round =>
  obtain ⟨ao, cap, k, L, rfl, rfl, hk1, hk2, hOr, hBr, HL⟩ := hrel
  have d0 := (hBr.cell (p := ⟨bi, 0, none⟩) hbl (fun h => h)).trans c0
  have d1 := (hBr.cell (p := ⟨g, x * 2 + 1, none⟩) hg1 (fun h => h)).trans c1
  have hlenI : ((⟨fl.toArray⟩ : ByteArray).size : Int) = (fl.length : Int) := rfl
  by_cases hlt : k < fl.length
  ·have hkI : (k : Int) < (fl.length : Int) := by omega
   obtain ⟨C, hC⟩ : ∃ C, fl[k] = C := ⟨_, rfl⟩
   have kC : ∀ h, (⟨fl.toArray⟩ : ByteArray)[k]'h = C := fun h => by rw [← hC]; exact lget fl _ hlt _
   have hsz : k < (⟨fl.toArray⟩ : ByteArray).size := hlt
   have hlk : L.length = k := by rw [HL.out]; simp; omega
   have HLK := hid hlk
   obtain ⟨u, hu⟩ : ∃ u, plainV C = u := ⟨_, rfl⟩
   have HT : Hid (L ++ [u] = (fl.take (k + 1)).map plainV) := by show _ = _; rw [List.take_succ_eq_append_getElem hlt, hC, HL.out, ← hu]; simp
   have hp := plain_any C wr
   rw [hu] at hp
   have HP := hid hp
   clear hC hu hlk hp
   go_wp2_with fail
   refine HP.out.mono ?_
   rintro en w1 ⟨rfl, hB1⟩
   simp only [vAgg]
   have hBw1 := hBr.trans hB1
   have hsz1 := hBw1.size
   have hO1 := owns_but hOr hB1 (fun _ _ h => h)
   go_wp2_with (at_builtin; refine wpList_append_val rfl _ _ rfl (w1.alloc (.cells #[.int .u8 u.K, .int .i64 u.N] 135)) w.heap.size _ L k HLK.out _ _ u rfl rfl rfl (w1.heap.size + 1) (by simp) rfl (owns_but hO1 (But.alloc (fun _ => False) _ _) (fun _ _ h => h)) (by omega) (by simp; omega) ?_)
   intro gg cap3 w2 hown2 hSW hat
   have hB2 : But (fun _ => False) w w2 := (hBw1.trans (But.alloc _ _ _)).next hSW (fun k' hk' h => by have := owns_ge hO1 k' h; omega)
   clear hSW hat hO1 hBw1 hB1 d0 d1
   go_wp2_with fail
   go_roundg (fl.length - (k + 1))
   case measure => omega
   case rel => exact ⟨_, cap3, k + 1, L ++ [u], by simp, by simp, by omega, by omega, hown2, hB2, HT⟩
  ·have hkI : ¬ (k : Int) < (fl.length : Int) := by omega
   go_wp2_with fail
   go_ret
   refine ⟨_, rfl, ?_, hBr⟩
   rw [hF.out, List.length_map]
   have : k = fl.length := by omega
   subst this
   rw [HL.out, List.take_length] at hOr
   exact hOr
theorem locals_any (bd : Bod) (vc vt : Value) (hvt : ∃ ak n capk, vt = .slice ak n capk) (vs : List V) (ao : Option Addr) (cap : Nat) (w : World) (hl : bd.locals.length ≤ 5) (hv : vs.length ≤ bd.locals.length) (base : Nat) (hs : w.ownsRow base 135 2 (.slice ao vs.length cap) vs.length (valCells vs)) :
  Calls Tryz.prog 66 #[.agg #[.int .i64 bd.cls, .int .i64 bd.meth, .string ⟨bd.locals.toArray⟩, .slice none 0 0, vt], .slice ao vs.length cap] w fun en w' => ∃ v, en = .returned v ∧ w'.ownsRow w.heap.size 135 2 v (localsV bd vs).length (valCells (localsV bd vs)) ∧ But (fun _ => False) w w' := by
 obtain ⟨ak, n, capk, rfl⟩ := hvt
 obtain ⟨lo, hlo⟩ : ∃ lo, bd.locals = lo := ⟨_, rfl⟩
 have HL : Hid (localsV bd vs = vs ++ (lo.drop vs.length).map plainV) := by show _ = _; unfold localsV; rw [hlo]
 obtain ⟨nv, hnv⟩ : ∃ nv, vs.length = nv := ⟨_, rfl⟩
 have HNV := hid hnv
 rw [hlo] at hl hv ⊢
 rw [hnv] at hs hv ⊢
 clear hlo hnv
 go_enter Tryz.func66, Tryz.ntmps66
 go_wp2_with fail
 obtain ⟨W0, hW0⟩ : ∃ W0, w.alloc (.cells #[.int .i64 bd.cls, .int .i64 bd.meth, .string ⟨lo.toArray⟩, .slice none 0 0, .slice ak n capk] 52) = W0 := ⟨_, rfl⟩
 have hg0 : W0.heap[w.heap.size]? = some (.cells #[.int .i64 bd.cls, .int .i64 bd.meth, .string ⟨lo.toArray⟩, .slice none 0 0, .slice ak n capk] 52) := by rw [← hW0]; exact heap_alloc_new _ _
 have hB0 : But (fun _ => False) w W0 := by rw [← hW0]; exact But.alloc _ _ _
 rw [hW0]
 clear hW0
 have hO0 := owns_but hs hB0 (fun _ _ h => h)
 go_loopg [5, 6] nv (fun mm ls ks wr => ∃ (ap : Option Addr) (cp k : Nat) (L : List V), ls = .slice ap k cp ∧ ks = .int .i64 k ∧ k + mm ≤ nv ∧ nv ≤ k + mm ∧ wr.ownsRow W0.heap.size 135 2 (.slice ap k cp) k (valCells L) ∧ But (fun _ => False) W0 wr ∧ Hid (L = vs.take k))
 case atStart => exact ⟨none, 0, 0, [], rfl, rfl, by omega, by omega, owns_nil _ _ _ _, But.refl _ _, rfl⟩
 case round =>
  obtain ⟨ap, cp, k, L, rfl, rfl, hk1, hk2, hOr, hBr, HLL⟩ := hrel
  have hsz0 := hBr.size
  by_cases hlt : k < nv
  ·have hkI : (k : Int) < (nv : Int) := by omega
   have hlt' : k < vs.length := by rw [HNV.out]; exact hlt
   have hlk : L.length = k := by rw [HLL.out]; simp; omega
   have HLK := hid hlk
   obtain ⟨u, hu⟩ : ∃ u, vs[k] = u := ⟨_, rfl⟩
   have HT : Hid (L ++ [u] = vs.take (k + 1)) := by show _ = _; rw [List.take_succ_eq_append_getElem hlt', hu, HLL.out]
   obtain ⟨g, rfl, hg1, hg2, hcell⟩ := owns_two (owns_but hO0 hBr (fun _ _ h => h)) (by omega)
   have hx : vs[k]? = some u := by rw [List.getElem?_eq_getElem hlt', hu]
   have q0 : wr.cell? ⟨g, k * 2, none⟩ = some (.int .u8 u.K) := hcell _ _ (valCells_at (k := 0) hx (by omega))
   have q1 : wr.cell? ⟨g, k * 2 + 1, none⟩ = some (.int .i64 u.N) := hcell _ _ (valCells_at (k := 1) hx (by omega))
   clear hu hlk hlt' hx hcell
   go_wp2_with (at_builtin; refine wpList_append_val rfl _ _ rfl wr W0.heap.size _ L k HLK.out _ _ u rfl rfl rfl wr.heap.size rfl rfl (by exact hOr) (by omega) (by omega) ?_)
   intro gg cap3 w2 hown2 hSW hat
   have hB2 : But (fun _ => False) W0 w2 := hBr.next hSW (fun k' hk' h => by have := owns_lt hOr k' h; have := owns_ge hOr k' h; omega)
   clear hSW hat q0 q1
   go_wp2_with fail
   go_roundg (nv - (k + 1))
   case measure => omega
   case rel => exact ⟨_, cap3, k + 1, L ++ [u], by simp, by simp, by omega, by omega, hown2, hB2, HT⟩
  ·have hkI : ¬ (k : Int) < (nv : Int) := by omega
   have hkn : nv = k := by omega
   subst hkn
   have hLv : L = vs := by rw [HLL.out]; exact List.take_of_length_le (by rw [HNV.out]; omega)
   rw [hLv] at hOr
   clear hLv HLL L
   go_wp2_with fail
   go_loopg [5, 7] (lo.length - nv) (fun mm ls ks wr => ∃ (ap : Option Addr) (cp k : Nat) (L : List V), ls = .slice ap k cp ∧ ks = .int .i64 k ∧ k + mm ≤ lo.length ∧ lo.length ≤ k + mm ∧ nv ≤ k ∧ wr.ownsRow W0.heap.size 135 2 (.slice ap k cp) k (valCells L) ∧ But (fun _ => False) W0 wr ∧ Hid (L = vs ++ ((lo.take k).drop nv).map plainV))
   case atStart => exact ⟨_, _, nv, vs, rfl, rfl, by omega, by omega, by omega, hOr, hBr, by show _ = _; rw [List.drop_eq_nil_of_le (by simp; omega)]; simp⟩
   case round =>
    clear hOr hBr hsz0
    obtain ⟨ap, cp, k, L, rfl, rfl, hk1, hk2, hk3, hOr, hBr, HLL⟩ := hrel
    have hsz0 := hBr.size
    have hgr := (hBr.block _ (lt_of_block hg0) (fun h => h)).trans hg0
    have g2 : wr.cell? ⟨w.heap.size, 2, none⟩ = some (.string ⟨lo.toArray⟩) := by rw [cell_of_row wr _ 2 _ _ (0, 0) hgr]; rfl
    have hgl := lt_of_block hgr
    have hlenI : ((⟨lo.toArray⟩ : ByteArray).size : Int) = (lo.length : Int) := rfl
    by_cases hlt : k < lo.length
    ·have hkI : (k : Int) < (lo.length : Int) := by omega
     obtain ⟨C, hC⟩ : ∃ C, lo[k] = C := ⟨_, rfl⟩
     have kC : ∀ h, (⟨lo.toArray⟩ : ByteArray)[k]'h = C := fun h => by rw [← hC]; exact lget lo _ hlt _
     have hsz : k < (⟨lo.toArray⟩ : ByteArray).size := hlt
     have hlk : L.length = k := by rw [HLL.out]; have := HNV.out; simp; omega
     have HLK := hid hlk
     obtain ⟨u, hu⟩ : ∃ u, plainV C = u := ⟨_, rfl⟩
     have HT : Hid (L ++ [u] = vs ++ ((lo.take (k + 1)).drop nv).map plainV) := by
      show _ = _
      rw [List.take_succ_eq_append_getElem hlt, hC, HLL.out, ← hu, List.drop_append_of_le_length (by simp; omega)]
      simp
     have hp := plain_any C wr
     rw [hu] at hp
     have HP := hid hp
     clear hC hu hlk hp
     go_wp2_with fail
     refine HP.out.mono ?_
     rintro en w1 ⟨rfl, hB1⟩
     simp only [vAgg]
     have hBw1 := hBr.trans hB1
     have hsz1 := hBw1.size
     have hO1 := owns_but hOr hB1 (fun _ _ h => h)
     go_wp2_with (at_builtin; refine wpList_append_val rfl _ _ rfl (w1.alloc (.cells #[.int .u8 u.K, .int .i64 u.N] 135)) W0.heap.size _ L k HLK.out _ _ u rfl rfl rfl (w1.heap.size + 1) (by simp) rfl (owns_but hO1 (But.alloc (fun _ => False) _ _) (fun _ _ h => h)) (by omega) (by simp; omega) ?_)
     intro gg cap3 w2 hown2 hSW hat
     have hB2 : But (fun _ => False) W0 w2 := (hBw1.trans (But.alloc _ _ _)).next hSW (fun k' hk' h => by have := owns_ge hO1 k' h; omega)
     clear hSW hat hO1 hBw1 hB1 g2
     go_wp2_with fail
     go_roundg (lo.length - (k + 1))
     case measure => omega
     case rel => exact ⟨_, cap3, k + 1, L ++ [u], by simp, by simp, by omega, by omega, by omega, hown2, hB2, HT⟩
    ·have hkI : ¬ (k : Int) < (lo.length : Int) := by omega
     go_wp2_with fail
     go_ret
     refine ⟨_, rfl, ?_, hB0.trans hBr⟩
     have hkl : k = lo.length := by omega
     have e : localsV bd vs = L := by rw [HL.out, HLL.out, hkl, List.take_length, HNV.out]
     rw [e, show L.length = k from by rw [HLL.out]; have := HNV.out; simp; omega]
     exact owns_mono hOr hB0.size
end Go.Proofs.YtpfkkmacakjmbaaGreatDoor
namespace Go.Proofs.YtpfkkmacakjmbaaGreatDoor
open Go Go.RowKit Sp
set_option linter.unusedSimpArgs false
set_option linter.unusedVariables false
def WkB (w : World) (b bi : Nat) (hv : Value) (inp : ByteArray) (r l d : Int) (o : List UInt8) (e : Int) : Prop :=
 w.heap[b]? = some (.cells #[.pointer (some ⟨bi, 0, none⟩), hv, .string inp, .int .i64 r, .int .i64 l, .int .i64 d, .string ⟨o.toArray⟩, .int .i64 e] 133)
section
variable {w : World} {b bi : Nat} {hv : Value} {inp : ByteArray} {r l d : Int} {o : List UInt8} {e : Int}
theorem WkB.lt (h : WkB w b bi hv inp r l d o e) : b < w.heap.size := lt_of_block h
theorem WkB.c0 (h : WkB w b bi hv inp r l d o e) : w.cell? ⟨b, 0, none⟩ = some (.pointer (some ⟨bi, 0, none⟩)) := by rw [cell_of_row w b 0 _ _ (0, 0) h]; rfl
theorem WkB.c1 (h : WkB w b bi hv inp r l d o e) : w.cell? ⟨b, 1, none⟩ = some hv := by rw [cell_of_row w b 1 _ _ (0, 0) h]; rfl
theorem WkB.c2 (h : WkB w b bi hv inp r l d o e) : w.cell? ⟨b, 2, none⟩ = some (.string inp) := by rw [cell_of_row w b 2 _ _ (0, 0) h]; rfl
theorem WkB.c3 (h : WkB w b bi hv inp r l d o e) : w.cell? ⟨b, 3, none⟩ = some (.int .i64 r) := by rw [cell_of_row w b 3 _ _ (0, 0) h]; rfl
theorem WkB.c4 (h : WkB w b bi hv inp r l d o e) : w.cell? ⟨b, 4, none⟩ = some (.int .i64 l) := by rw [cell_of_row w b 4 _ _ (0, 0) h]; rfl
theorem WkB.c5 (h : WkB w b bi hv inp r l d o e) : w.cell? ⟨b, 5, none⟩ = some (.int .i64 d) := by rw [cell_of_row w b 5 _ _ (0, 0) h]; rfl
theorem WkB.c6 (h : WkB w b bi hv inp r l d o e) : w.cell? ⟨b, 6, none⟩ = some (.string ⟨o.toArray⟩) := by rw [cell_of_row w b 6 _ _ (0, 0) h]; rfl
theorem WkB.c7 (h : WkB w b bi hv inp r l d o e) : w.cell? ⟨b, 7, none⟩ = some (.int .i64 e) := by rw [cell_of_row w b 7 _ _ (0, 0) h]; rfl
theorem WkB.fz (h : WkB w b bi hv inp r l d o e) (j : Nat) : w.frozen? ⟨b, j, none⟩ = false := frozen_of_row w b j _ _ h
theorem WkB.but {F : Nat → Prop} {w' : World} (h : WkB w b bi hv inp r l d o e) (hb : But F w w') (hf : ¬ F b) : WkB w' b bi hv inp r l d o e := (hb.block b h.lt hf).trans h
theorem WkB.set1 (h : WkB w b bi hv inp r l d o e) (v : Value) : WkB (w.setCell ⟨b, 1, none⟩ v) b bi v inp r l d o e := heap_setCell_same w b 1 _ _ _ h
theorem WkB.set3 (h : WkB w b bi hv inp r l d o e) (n : Int) : WkB (w.setCell ⟨b, 3, none⟩ (.int .i64 n)) b bi hv inp n l d o e := heap_setCell_same w b 3 _ _ _ h
theorem WkB.set4 (h : WkB w b bi hv inp r l d o e) (n : Int) : WkB (w.setCell ⟨b, 4, none⟩ (.int .i64 n)) b bi hv inp r n d o e := heap_setCell_same w b 4 _ _ _ h
theorem WkB.set5 (h : WkB w b bi hv inp r l d o e) (n : Int) : WkB (w.setCell ⟨b, 5, none⟩ (.int .i64 n)) b bi hv inp r l n o e := heap_setCell_same w b 5 _ _ _ h
theorem WkB.set6 (h : WkB w b bi hv inp r l d o e) (n : List UInt8) : WkB (w.setCell ⟨b, 6, none⟩ (.string ⟨n.toArray⟩)) b bi hv inp r l d n e := heap_setCell_same w b 6 _ _ _ h
theorem WkB.set7 (h : WkB w b bi hv inp r l d o e) (n : Int) : WkB (w.setCell ⟨b, 7, none⟩ (.int .i64 n)) b bi hv inp r l d o n := heap_setCell_same w b 7 _ _ _ h
end
def obCells (hp : List Ob) (fv : List Value) : List Value := (hp.zip fv).flatMap fun x => [.int .i64 x.1.cls, x.2]
theorem obCells_at {hp : List Ob} {fv : List Value} {k j : Nat} {ob : Ob} {v : Value} (h1 : hp[k]? = some ob) (h2 : fv[k]? = some v) (hj : j < 2) : (obCells hp fv)[k * 2 + j]? = [Value.int .i64 ob.cls, v][j]? := by
 have : (hp.zip fv)[k]? = some (ob, v) := by rw [List.getElem?_zip_eq_some]; exact ⟨h1, h2⟩
 exact flat_at (fun x : Ob × Value => [Value.int .i64 x.1.cls, x.2]) 2 (fun _ => rfl) _ k j _ this hj
theorem obCells_snoc {hp : List Ob} {fv : List Value} (h : fv.length = hp.length) (ob : Ob) (v : Value) : obCells (hp ++ [ob]) (fv ++ [v]) = obCells hp fv ++ [.int .i64 ob.cls, v] := by
 unfold obCells
 rw [List.zip_append h.symm]
 simp
theorem obCells_set {hp : List Ob} {fv : List Value} {k : Nat} {ob : Ob} (h : hp[k]? = some ob) (fs : List V) : obCells (hp.set k ⟨ob.cls, fs⟩) fv = obCells hp fv := by
 unfold obCells
 have : ((hp.set k ⟨ob.cls, fs⟩).zip fv).map (fun x => (x.1.cls, x.2)) = (hp.zip fv).map (fun x => (x.1.cls, x.2)) := by
  apply List.ext_getElem?
  intro i
  simp only [List.getElem?_map, List.zip, List.getElem?_zipWith, List.getElem?_set]
  by_cases hi : k = i
  ·subst hi
   have hk := (List.getElem?_eq_some_iff.1 h).1
   simp only [if_true, hk, h]
   cases fv[k]? <;> rfl
  ·simp only [hi, if_false]
 have h2 : ∀ l : List (Ob × Value), (l.flatMap fun x => [Value.int .i64 x.1.cls, x.2]) = (l.map (fun x => (x.1.cls, x.2))).flatMap fun x => [Value.int .i64 x.1, x.2] := fun l => by
  induction l with
  | nil => rfl
  | cons a l ih => simp [ih]
 rw [h2, h2, this]
theorem owns_type {w : World} {base e size n : Nat} {v : Value} {xs : List Value} (h : w.ownsRow base e size v n xs) {g : Nat} (hg : v.ownBlock = some g) : ∃ cur, w.heap[g]? = some (.cells cur e (0, 0)) := by
 rcases h.2 with ⟨rfl, _⟩ | ⟨g', cap, cur, rfl, _, hh, _⟩
 ·cases hg
 ·simp [Value.ownBlock] at hg; subst hg; exact ⟨cur, hh⟩
theorem owns_apartE {w : World} {base base' e e' size size' n n' : Nat} {v v' : Value} {xs xs' : List Value} (h : w.ownsRow base e size v n xs) (h' : w.ownsRow base' e' size' v' n' xs') (he : e ≠ e') {g : Nat} (hg : v.ownBlock = some g) : v'.ownBlock ≠ some g := fun hg' => by
 obtain ⟨c, hc⟩ := owns_type h hg
 obtain ⟨c', hc'⟩ := owns_type h' hg'
 rw [hc] at hc'
 injection hc' with hc'
 injection hc' with h1 h2
 exact he h2
theorem owns_offE {w : World} {base e size n b : Nat} {v : Value} {xs : List Value} (h : w.ownsRow base e size v n xs) {cs : Array Value} {t : TypeId} {fr : Nat × Nat} (hb : w.heap[b]? = some (.cells cs t fr)) (he : e ≠ t) : v.ownBlock ≠ some b := fun hg => by
 obtain ⟨c, hc⟩ := owns_type h hg
 rw [hb] at hc
 injection hc with hc
 injection hc with h1 h2
 exact he h2.symm
structure StX (P : Nat → Prop) (w0 w : World) (bw bi : Nat) (inp : ByteArray) (d : Nat) (s : Ev) (lv : Value) (l : List V) (hv : Value) (fv : List Value) : Prop where
 old : But (fun _ => False) w0 w
 wk : WkB w bw bi hv inp s.read s.left d s.out 12
 len : fv.length = s.heap.length
 hp : w.ownsRow w0.heap.size 265 2 hv s.heap.length (obCells s.heap fv)
 fl : ∀ (k : Nat) ob v, s.heap[k]? = some ob → fv[k]? = some v → w.ownsRow w0.heap.size 135 2 v ob.fs.length (valCells ob.fs)
 lo : w.ownsRow w0.heap.size 135 2 lv l.length (valCells l)
 ge : w0.heap.size ≤ bw
 pl : ∀ k, P k → k < w.heap.size
 pw : ¬ P bw
 ph : ∀ g, hv.ownBlock = some g → ¬ P g
 pf : ∀ v ∈ fv, ∀ g, v.ownBlock = some g → ¬ P g
 po : ∀ g, lv.ownBlock = some g → ¬ P g
 sl : ∀ v ∈ fv, ∀ g, v.ownBlock = some g → lv.ownBlock ≠ some g
 sf : ∀ (j k : Nat) v v' g, fv[j]? = some v → fv[k]? = some v' → v.ownBlock = some g → v'.ownBlock = some g → j = k
end Go.Proofs.YtpfkkmacakjmbaaGreatDoor
namespace Go.Proofs.YtpfkkmacakjmbaaGreatDoor
open Go Go.RowKit Sp
attribute [local go_sem ↓] Go.wp_at_zero Go.wp_at_succ
set_option linter.unusedSimpArgs false
set_option linter.unusedVariables false
theorem valCells_set (l : List V) (j : Nat) (u : V) : valCells (l.set j u) = ((valCells l).set (j * 2) (.int .u8 u.K)).set (j * 2 + 1) (.int .i64 u.N) := by
 induction l generalizing j with
 | nil => simp [valCells]
 | cons v l ih =>
  cases j with
  | zero => simp [valCells, vCells]
  | succ j =>
   have := ih j
   simp only [valCells] at this
   simp [valCells, vCells, Nat.succ_mul, this]
theorem owns_put {w : World} {base n g j : Nat} {v : Value} {l : List V} (u : V) (h : w.ownsRow base 135 2 v n (valCells l)) (hg : v.ownBlock = some g) :
  ((w.setCell ⟨g, j * 2, none⟩ (.int .u8 u.K)).setCell ⟨g, j * 2 + 1, none⟩ (.int .i64 u.N)).ownsRow base 135 2 v n (valCells (l.set j u)) := by
 have hlen := h.1
 rcases h.2 with ⟨rfl, _⟩ | ⟨g', cap, cur, rfl, hb, hh, hc1, hc2, hc3, hc4⟩
 ·cases hg
 ·simp [Value.ownBlock] at hg
  subst hg
  refine ⟨by rw [← hlen, valCells_len, valCells_len]; simp, Or.inr ⟨g', cap, (cur.setIfInBounds (j * 2) (.int .u8 u.K)).setIfInBounds (j * 2 + 1) (.int .i64 u.N), rfl, hb, ?_, hc1, hc2, by simpa using hc3, ?_⟩⟩
  ·exact heap_setCell_same _ g' _ _ _ _ (heap_setCell_same _ g' _ _ _ _ hh)
  ·rw [valCells_set, ← hc4]
   simp [List.take_set]
section
variable {P : Nat → Prop} {w0 w w' : World} {bw bi d : Nat} {inp : ByteArray} {s : Ev} {lv hv : Value} {l : List V} {fv : List Value}
theorem StX.hw (h : StX P w0 w bw bi inp d s lv l hv fv) : hv.ownBlock ≠ some bw := owns_offE h.hp h.wk (by decide)
theorem StX.lw (h : StX P w0 w bw bi inp d s lv l hv fv) : lv.ownBlock ≠ some bw := owns_offE h.lo h.wk (by decide)
theorem StX.fo (h : StX P w0 w bw bi inp d s lv l hv fv) {v : Value} (hv' : v ∈ fv) : ∃ (k : Nat) (ob : Ob), fv[k]? = some v ∧ s.heap[k]? = some ob ∧ w.ownsRow w0.heap.size 135 2 v ob.fs.length (valCells ob.fs) := by
 obtain ⟨k, hk, rfl⟩ := List.getElem_of_mem hv'
 have hk' : k < s.heap.length := by rw [← h.len]; exact hk
 exact ⟨k, s.heap[k], List.getElem?_eq_getElem hk, List.getElem?_eq_getElem hk', h.fl k _ _ (List.getElem?_eq_getElem hk') (List.getElem?_eq_getElem hk)⟩
theorem StX.fw (h : StX P w0 w bw bi inp d s lv l hv fv) {v : Value} (hv' : v ∈ fv) : v.ownBlock ≠ some bw := by
 obtain ⟨k, ob, _, _, h1⟩ := h.fo hv'
 exact owns_offE h1 h.wk (by decide)
theorem StX.fh (h : StX P w0 w bw bi inp d s lv l hv fv) {v : Value} (hv' : v ∈ fv) {g : Nat} (hg : v.ownBlock = some g) : hv.ownBlock ≠ some g := by
 obtain ⟨k, ob, _, _, h1⟩ := h.fo hv'
 exact owns_apartE h1 h.hp (by decide) hg
theorem StX.lh (h : StX P w0 w bw bi inp d s lv l hv fv) {g : Nat} (hg : lv.ownBlock = some g) : hv.ownBlock ≠ some g := owns_apartE h.lo h.hp (by decide) hg
theorem StX.blt (h : StX P w0 w bw bi inp d s lv l hv fv) : bw < w.heap.size := h.wk.lt
theorem StX.but {F : Nat → Prop} (h : StX P w0 w bw bi inp d s lv l hv fv) (hB : But F w w') (h0 : ∀ k, F k → w0.heap.size ≤ k) (h1 : ¬ F bw) (h2 : ∀ g, hv.ownBlock = some g → ¬ F g) (h3 : ∀ v ∈ fv, ∀ g, v.ownBlock = some g → ¬ F g) (h4 : ∀ g, lv.ownBlock = some g → ¬ F g) : StX P w0 w' bw bi inp d s lv l hv fv :=
 ⟨h.old.next hB (fun k hk hf => by have := h0 k hf; omega), h.wk.but hB h1, h.len, owns_but h.hp hB h2, fun k ob v hk hv => owns_but (h.fl k ob v hk hv) hB (h3 v (List.mem_of_getElem? hv)), owns_but h.lo hB h4, h.ge, fun k hk => by have := h.pl k hk; have := hB.size; omega, h.pw, h.ph, h.pf, h.po, h.sl, h.sf⟩
theorem StX.new (h : StX P w0 w bw bi inp d s lv l hv fv) (hB : But (fun _ => False) w w') : StX P w0 w' bw bi inp d s lv l hv fv := h.but hB (fun _ h => h.elim) (fun h => h) (fun _ _ h => h) (fun _ _ _ _ h => h) (fun _ _ h => h)
theorem StX.work {s' : Ev} {d' : Nat} (h : StX P w0 w bw bi inp d s lv l hv fv) (hB : But (· = bw) w w') (hs : s'.heap = s.heap) (hk : WkB w' bw bi hv inp s'.read s'.left d' s'.out 12) : StX P w0 w' bw bi inp d' s' lv l hv fv := by
 have hl : ∀ g, lv.ownBlock = some g → ¬ g = bw := fun g hg e => h.lw (e ▸ hg)
 have hh : ∀ g, hv.ownBlock = some g → ¬ g = bw := fun g hg e => h.hw (e ▸ hg)
 have hf : ∀ v ∈ fv, ∀ g, v.ownBlock = some g → ¬ g = bw := fun v hv g hg e => h.fw hv (e ▸ hg)
 exact ⟨h.old.next hB (fun k hk hf => by have := h.ge; omega), hk, by rw [hs]; exact h.len, by rw [hs]; exact owns_but h.hp hB hh, fun k ob v hk hv => by rw [hs] at hk; exact owns_but (h.fl k ob v hk hv) hB (hf v (List.mem_of_getElem? hv)), owns_but h.lo hB hl, h.ge, fun k hk => by have := h.pl k hk; have := hB.size; omega, h.pw, h.ph, h.pf, h.po, h.sl, h.sf⟩
theorem StX.setL (h : StX P w0 w bw bi inp d s lv l hv fv) {g : Nat} (hg : lv.ownBlock = some g) (j : Nat) (u : V) : StX P w0 ((w.setCell ⟨g, j * 2, none⟩ (.int .u8 u.K)).setCell ⟨g, j * 2 + 1, none⟩ (.int .i64 u.N)) bw bi inp d s lv (l.set j u) hv fv := by
 have hB : But (· = g) w ((w.setCell ⟨g, j * 2, none⟩ (.int .u8 u.K)).setCell ⟨g, j * 2 + 1, none⟩ (.int .i64 u.N)) := (But.setB _ _ _ _).trans (But.setB _ _ _ _)
 have hge := owns_ge h.lo g hg
 refine ⟨h.old.next hB (fun k hk hf => by omega), h.wk.but hB (fun e => h.lw (e ▸ hg)), h.len, owns_but h.hp hB (fun g' hg' e => h.lh hg (e ▸ hg')), fun k ob v hk hv => owns_but (h.fl k ob v hk hv) hB (fun g' hg' e => h.sl v (List.mem_of_getElem? hv) g' hg' (e ▸ hg)), ?_, h.ge, fun k hk => by have := h.pl k hk; have := hB.size; omega, h.pw, h.ph, h.pf, h.po, h.sl, h.sf⟩
 rw [List.length_set]
 exact owns_put u h.lo hg
theorem StX.setF (h : StX P w0 w bw bi inp d s lv l hv fv) {k g : Nat} {ob : Ob} {v : Value} (hk : s.heap[k]? = some ob) (hv' : fv[k]? = some v) (hg : v.ownBlock = some g) (j : Nat) (u : V) : StX P w0 ((w.setCell ⟨g, j * 2, none⟩ (.int .u8 u.K)).setCell ⟨g, j * 2 + 1, none⟩ (.int .i64 u.N)) bw bi inp d (s.put k j u) lv l hv fv := by
 have hB : But (· = g) w ((w.setCell ⟨g, j * 2, none⟩ (.int .u8 u.K)).setCell ⟨g, j * 2 + 1, none⟩ (.int .i64 u.N)) := (But.setB _ _ _ _).trans (But.setB _ _ _ _)
 have hm := List.mem_of_getElem? hv'
 have hr := h.fl k ob v hk hv'
 have hge := owns_ge hr g hg
 have e1 : (s.put k j u).heap = s.heap.set k ⟨ob.cls, ob.fs.set j u⟩ := by simp [Ev.put, (Ev.at hk).1, (Ev.at hk).2]
 refine ⟨h.old.next hB (fun k hk hf => by omega), h.wk.but hB (fun e => h.fw hm (e ▸ hg)), by rw [e1]; simpa using h.len, ?_, ?_, owns_but h.lo hB (fun g' hg' e => h.sl v hm g hg (e ▸ hg')), h.ge, fun k hk => by have := h.pl k hk; have := hB.size; omega, h.pw, h.ph, h.pf, h.po, h.sl, h.sf⟩
 ·rw [e1, obCells_set hk, List.length_set]
  exact owns_but h.hp hB (fun g' hg' e => h.fh hm hg (e ▸ hg'))
 ·intro i ob' v' hi hvi
  rw [e1, List.getElem?_set] at hi
  split at hi
  ·rename_i he
   subst he
   rw [hv'] at hvi
   cases hvi
   split at hi
   ·cases hi
    simp only [List.length_set]
    exact owns_put u hr hg
   ·cases hi
  ·rename_i he
   exact owns_but (h.fl i ob' v' hi hvi) hB (fun g' hg' e => he (h.sf k i v v' g hv' hvi hg (e ▸ hg')))
theorem StX.grow (h : StX P w0 w bw bi inp d s lv l hv fv) (hB : But (fun _ => False) w w') : StX (fun k => P k ∨ (w.heap.size ≤ k ∧ k < w'.heap.size)) w0 w' bw bi inp d s lv l hv fv := by
 have h1 := h.new hB
 have hlt := h.blt
 refine ⟨h1.old, h1.wk, h1.len, h1.hp, h1.fl, h1.lo, h1.ge, fun k hk => ?_, fun hk => ?_, fun g hg hk => ?_, fun v hv' g hg hk => ?_, fun g hg hk => ?_, h1.sl, h1.sf⟩
 ·rcases hk with hk | hk
  ·exact h1.pl k hk
  ·exact hk.2
 ·rcases hk with hk | hk
  ·exact h1.pw hk
  ·omega
 ·rcases hk with hk | hk
  ·exact h1.ph g hg hk
  ·have := owns_lt h.hp g hg; omega
 ·rcases hk with hk | hk
  ·exact h1.pf v hv' g hg hk
  ·obtain ⟨k, ob, _, _, ho⟩ := h.fo hv'
   have := owns_lt ho g hg
   omega
 ·rcases hk with hk | hk
  ·exact h1.po g hg hk
  ·have := owns_lt h.lo g hg; omega
theorem StX.tmp {F : Nat → Prop} (h : StX P w0 w bw bi inp d s lv l hv fv) (hB : But F w w') (hF : ∀ k, F k → P k ∧ w0.heap.size ≤ k) : StX P w0 w' bw bi inp d s lv l hv fv :=
 h.but hB (fun k hk => (hF k hk).2) (fun hk => h.pw (hF _ hk).1) (fun g hg hk => h.ph g hg (hF _ hk).1) (fun v hv g hg hk => h.pf v hv g hg (hF _ hk).1) (fun g hg hk => h.po g hg (hF _ hk).1)
theorem StX.less {Q : Nat → Prop} (h : StX P w0 w bw bi inp d s lv l hv fv) (hs : ∀ k, Q k → P k) : StX Q w0 w bw bi inp d s lv l hv fv :=
 ⟨h.old, h.wk, h.len, h.hp, h.fl, h.lo, h.ge, fun k hk => h.pl k (hs k hk), fun hk => h.pw (hs _ hk), fun g hg hk => h.ph g hg (hs _ hk), fun v hv g hg hk => h.pf v hv g hg (hs _ hk), fun g hg hk => h.po g hg (hs _ hk), h.sl, h.sf⟩
end
theorem StX.newOb {P : Nat → Prop} {w0 w w2 : World} {bw bi d base : Nat} {inp : ByteArray} {s : Ev} {lv hv hv' vf : Value} {l : List V} {fv : List Value} {ob : Ob} (h : StX P w0 w bw bi inp d s lv l hv fv) (hf : w.ownsRow base 135 2 vf ob.fs.length (valCells ob.fs)) (hb : w0.heap.size ≤ base)
  (hfn : ∀ g, vf.ownBlock = some g → ¬ P g ∧ lv.ownBlock ≠ some g ∧ ∀ v ∈ fv, v.ownBlock ≠ some g) (hB : But (fun k => hv.ownBlock = some k) w w2) (hown : w2.ownsRow w0.heap.size 265 2 hv' (s.heap.length + 1) (obCells s.heap fv ++ [.int .i64 ob.cls, vf])) (hP : ∀ g, hv'.ownBlock = some g → ¬ P g) :
  StX P w0 (w2.setCell ⟨bw, 1, none⟩ hv') bw bi inp d { s with heap := s.heap ++ [ob] } lv l hv' (fv ++ [vf]) := by
 have hk2 := h.wk.but hB h.hw
 have hS : But (· = bw) w2 (w2.setCell ⟨bw, 1, none⟩ hv') := But.setB _ _ _ _
 have hfw : vf.ownBlock ≠ some bw := owns_offE hf h.wk (by decide)
 have row : ∀ {v : Value} {b n : Nat} {xs : List Value}, w.ownsRow b 135 2 v n xs → (w2.setCell ⟨bw, 1, none⟩ hv').ownsRow b 135 2 v n xs := fun ho => owns_but (owns_but ho hB (fun g hg => owns_apartE ho h.hp (by decide) hg)) hS (fun g hg e => owns_offE ho h.wk (by decide) (e ▸ hg))
 refine ⟨(h.old.next hB (fun k hk hf => by have := owns_ge h.hp k hf; omega)).next hS (fun k hk e => by have := h.ge; omega), hk2.set1 hv', by simp [h.len], ?_, ?_, row h.lo, h.ge, fun k hk => by have := h.pl k hk; have := hB.size; rw [size_setCell]; omega, h.pw, hP, ?_, h.po, ?_, ?_⟩
 ·rw [List.length_append, obCells_snoc h.len]
  exact owns_but hown hS (fun g hg e => owns_offE hown hk2 (by decide) (e ▸ hg))
 ·intro k ob' v hk hv
  rcases Nat.lt_or_ge k s.heap.length with hl | hl
  ·rw [List.getElem?_append_left hl] at hk
   rw [List.getElem?_append_left (by rw [h.len]; exact hl)] at hv
   exact row (h.fl k ob' v hk hv)
  ·rw [List.getElem?_append_right hl] at hk
   rw [List.getElem?_append_right (by rw [h.len]; exact hl), h.len] at hv
   cases hq : k - s.heap.length with
   | zero =>
    rw [hq] at hk hv
    cases hk
    cases hv
    exact owns_mono (row hf) hb
   | succ q => rw [hq] at hk; simp at hk
 ·intro v hv g hg
  rcases List.mem_append.1 hv with hv | hv
  ·exact h.pf v hv g hg
  ·rw [List.mem_singleton] at hv; subst hv; exact (hfn g hg).1
 ·intro v hv g hg
  rcases List.mem_append.1 hv with hv | hv
  ·exact h.sl v hv g hg
  ·rw [List.mem_singleton] at hv; subst hv; exact (hfn g hg).2.1
 ·intro j k v v' g hj hk hg hg'
  have key : ∀ (i : Nat) u, (fv ++ [vf])[i]? = some u → (i < fv.length ∧ fv[i]? = some u) ∨ (i = fv.length ∧ u = vf) := fun i u hi => by
   rcases Nat.lt_or_ge i fv.length with hl | hl
   ·rw [List.getElem?_append_left hl] at hi; exact Or.inl ⟨hl, hi⟩
   ·rw [List.getElem?_append_right hl] at hi
    cases hq : i - fv.length with
    | zero => rw [hq] at hi; cases hi; exact Or.inr ⟨by omega, rfl⟩
    | succ q => rw [hq] at hi; simp at hi
  rcases key j v hj with ⟨h1, h2⟩ | ⟨h1, rfl⟩
  ·rcases key k v' hk with ⟨h3, h4⟩ | ⟨h3, rfl⟩
   ·exact h.sf j k v v' g h2 h4 hg hg'
   ·exact absurd hg ((hfn g hg').2.2 v (List.mem_of_getElem? h2))
  ·rcases key k v' hk with ⟨h3, h4⟩ | ⟨h3, rfl⟩
   ·exact absurd hg' ((hfn g hg).2.2 v' (List.mem_of_getElem? h4))
   ·omega
theorem StX.enter {P : Nat → Prop} {w0 w : World} {bw bi d base : Nat} {inp : ByteArray} {s : Ev} {lv hv vl : Value} {l l' : List V} {fv : List Value} (h : StX P w0 w bw bi inp d s lv l hv fv) (ho : w.ownsRow base 135 2 vl l'.length (valCells l')) (hb : w0.heap.size ≤ base) (hfn : ∀ g, vl.ownBlock = some g → ¬ P g ∧ lv.ownBlock ≠ some g ∧ ∀ v ∈ fv, v.ownBlock ≠ some g) :
  StX (fun k => P k ∨ lv.ownBlock = some k) w0 w bw bi inp d s vl l' hv fv := by
 refine ⟨h.old, h.wk, h.len, h.hp, h.fl, owns_mono ho hb, h.ge, fun k hk => ?_, fun hk => ?_, fun g hg hk => ?_, fun v hv' g hg hk => ?_, fun g hg hk => ?_, fun v hv' g hg hk => (hfn g hk).2.2 v hv' hg, h.sf⟩
 ·rcases hk with hk | hk
  ·exact h.pl k hk
  ·exact owns_lt h.lo k hk
 ·rcases hk with hk | hk
  ·exact h.pw hk
  ·exact h.lw hk
 ·rcases hk with hk | hk
  ·exact h.ph g hg hk
  ·exact h.lh hk hg
 ·rcases hk with hk | hk
  ·exact h.pf v hv' g hg hk
  ·exact h.sl v hv' g hg hk
 ·rcases hk with hk | hk
  ·exact (hfn g hg).1 hk
  ·exact (hfn g hg).2.1 hk
theorem StX.leave {P Q : Nat → Prop} {w0 w : World} {bw bi d : Nat} {inp : ByteArray} {s : Ev} {lv hv vl : Value} {l l' : List V} {fv : List Value} (h : StX Q w0 w bw bi inp d s vl l' hv fv) (hPQ : ∀ k, P k ∨ lv.ownBlock = some k → Q k) (ho : w.ownsRow w0.heap.size 135 2 lv l.length (valCells l)) (hp : ∀ g, lv.ownBlock = some g → ¬ P g) : StX P w0 w bw bi inp d s lv l hv fv :=
 ⟨h.old, h.wk, h.len, h.hp, h.fl, ho, h.ge, fun k hk => h.pl k (hPQ k (Or.inl hk)), fun hk => h.pw (hPQ _ (Or.inl hk)), fun g hg hk => h.ph g hg (hPQ _ (Or.inl hk)), fun v hv' g hg hk => h.pf v hv' g hg (hPQ _ (Or.inl hk)), hp, fun v hv' g hg hk => h.pf v hv' g hg (hPQ _ (Or.inr hk)), h.sf⟩
def ResB (w : World) (r : Nat) : Prop := ∃ K N : Int, w.heap[r]? = some (.cells #[.int .u8 K, .int .i64 N] 135)
theorem ResB.but {F : Nat → Prop} {w w' : World} {r : Nat} (h : ResB w r) (hb : But F w w') (hf : ¬ F r) : ResB w' r := by
 obtain ⟨K, N, h⟩ := h
 exact ⟨K, N, (hb.block r (lt_of_block h) hf).trans h⟩
theorem ResB.parts {w : World} {r : Nat} (h : ResB w r) : ∃ K N : Int, w.cell? ⟨r, 0, none⟩ = some (.int .u8 K) ∧ w.cell? ⟨r, 1, none⟩ = some (.int .i64 N) ∧ w.frozen? ⟨r, 0, none⟩ = false ∧ w.frozen? ⟨r, 1, none⟩ = false ∧ r < w.heap.size := by
 obtain ⟨K, N, h⟩ := h
 exact ⟨K, N, by rw [cell_of_row w r 0 _ _ (0, 0) h]; rfl, by rw [cell_of_row w r 1 _ _ (0, 0) h]; rfl, frozen_of_row w r 0 _ _ h, frozen_of_row w r 1 _ _ h, lt_of_block h⟩
theorem ResB.put {w : World} {r : Nat} (h : ResB w r) (K N : Int) : ((w.setCell ⟨r, 0, none⟩ (.int .u8 K)).setCell ⟨r, 1, none⟩ (.int .i64 N)).heap[r]? = some (.cells #[.int .u8 K, .int .i64 N] 135) := by
 obtain ⟨K', N', h⟩ := h
 exact heap_setCell_same _ r 1 _ _ _ (heap_setCell_same _ r 0 _ _ _ h)
theorem but_put (w : World) (r : Nat) (a b : Value) : But (· = r) w ((w.setCell ⟨r, 0, none⟩ a).setCell ⟨r, 1, none⟩ b) := (But.setB _ _ _ _).trans (But.setB _ _ _ _)
theorem ret_val {fn : Func} {Rr : Ending → World → Prop} {a : Act} {w : World} {c r : Nat} {K N : Int} (hf : fn.results = #[.cell c 135]) (hd : a.defers = []) (hc : a.tmps.getD c undef = .pointer (some ⟨r, 0, none⟩))
  (h0 : w.heap[r]? = some (.cells #[.int .u8 K, .int .i64 N] 135)) (hR : Rr (.returned (.agg #[.int .u8 K, .int .i64 N])) w) : bodyPost Tryz.prog fn Rr .ret a w := by
 have r0 : w.cell? ⟨r, 0, none⟩ = some (.int .u8 K) := by rw [cell_of_row w r 0 _ _ (0, 0) h0]; rfl
 have r1 : w.cell? ⟨r, 1, none⟩ = some (.int .i64 N) := by rw [cell_of_row w r 1 _ _ (0, 0) h0]; rfl
 refine bodyPost_ret (v := .agg #[.int .u8 K, .int .i64 N]) ?_ hd hR
 have hc' : a.tmps[c]?.getD undef = .pointer (some ⟨r, 0, none⟩) := by simpa using hc
 simp [results, hf, hc', go_sem, r0, r1]
end Go.Proofs.YtpfkkmacakjmbaaGreatDoor
