import Derived.Test.YtpfkkmacakjmbaaGreatDoorP07
import Derived.Test.YtpfkkmacakjmbaaGreatDoorP02
set_option maxRecDepth 100000
set_option maxHeartbeats 6400000
namespace Go.Proofs.YtpfkkmacakjmbaaGreatDoor
open Go Go.RowKit Sp
set_option linter.unusedSimpArgs false
set_option linter.unusedVariables false
attribute [local go_sem ↓] Go.wp_at_zero Go.wp_at_succ
theorem ownsApart {w : World} {base e size n : Nat} {v : Value} {xs : List Value} (h : w.ownsRow base e size v n xs) {g e' : Nat} {cur : Array Value} (hh : w.heap[g]? = some (.cells cur e')) (hne : e' ≠ e) : ¬ v.ownBlock = some g := by
 intro hg
 rcases h.2 with ⟨rfl, _⟩ | ⟨g', cap, c, rfl, hb, hk, _⟩
 ·cases hg
 ·simp [Value.ownBlock] at hg
  subst hg
  rw [hk] at hh
  injection hh with hh
  injection hh with h1 h2
  exact hne h2.symm
theorem owns_set {w : World} {base e size g n cap : Nat} {xs : List Value} (h : w.ownsRow base e size (.slice (some ⟨g, 0, none⟩) n cap) n xs) (k : Nat) (v : Value) : (w.setCell ⟨g, k, none⟩ v).ownsRow base e size (.slice (some ⟨g, 0, none⟩) n cap) n (xs.set k v) := by
 rcases h.2 with ⟨h1, _⟩ | ⟨g', cap', cur, h1, h2, h3, h4, h5, h6, h7⟩
 ·cases h1
 ·have e1 : cap = cap' := congrArg (fun v => match v with | Value.slice _ _ c => c | _ => 0) h1
  have e2 : g = g' := congrArg (fun v => match v with | Value.slice (some a) _ _ => a.block | _ => 0) h1
  subst e1 e2
  refine ⟨by rw [List.length_set]; exact h.1, Or.inr ⟨g, cap, cur.setIfInBounds k v, rfl, h2, heap_setCell_same w g k _ _ _ h3, h4, h5, by simpa using h6, ?_⟩⟩
  rw [Array.toList_setIfInBounds, List.take_set, h7]
theorem owns_fz {w : World} {base e size g n cap : Nat} {xs : List Value} (h : w.ownsRow base e size (.slice (some ⟨g, 0, none⟩) n cap) n xs) (j : Nat) : w.frozen? ⟨g, j, none⟩ = false := by
 rcases h.2 with ⟨h1, _⟩ | ⟨g', cap', cur, h1, h2, h3, _⟩
 ·cases h1
 ·have e2 : g = g' := congrArg (fun v => match v with | Value.slice (some a) _ _ => a.block | _ => 0) h1
  subst e2
  exact frozen_of_row w g j _ _ h3
theorem among_list (L : List UInt8) (c : Nat) (w : World) (hl : L.length ≤ 100) :
  Calls Tryz.prog 186 #[.int .u8 c, .string ⟨L.toArray⟩] w fun en w' => en = .returned (.bool ((L.map (fun x => x.toNat)).contains c)) ∧ w' = w := by
 have e : (L.any fun x => x.toNat == c) = (L.map (fun x => x.toNat)).contains c := by
  rw [List.contains_eq_any_beq, List.any_map]
  congr 1
  funext x
  exact Bool.beq_comm
 rw [← e]
 exact among_any ⟨L.toArray⟩ c w (by show L.toArray.size ≤ 2000; simp; omega)
theorem parts_any (c : UInt8) (w : World) :
  Calls Tryz.prog 117 #[.int .u8 c.toNat] w fun en w' => en = .returned (.int .i64 (arity c)) ∧ w' = w := by
 by_cases h3 : c.toNat = 105
 ·have e3 : ((c.toNat : Int) == 105) = true := by rw [beq_iff_eq]; omega
  rw [show arity c = 3 from by unfold arity; rw [if_pos h3]]
  clear h3
  go_enter Tryz.func117, Tryz.ntmps117
  go_wp2_with fail
  go_ret
  exact ⟨rfl, rfl⟩
 ·have e3 : ((c.toNat : Int) == 105) = false := by rw [beq_eq_false_iff_ne]; omega
  have HA := hid (among_list [43, 45, 42, 47, 60, 61, 101, 112, 99, 44, 111] c.toNat w (by simp))
  have HB := hid (among_list [115, 103, 120, 119] c.toNat w (by simp))
  rw [show ([43, 45, 42, 47, 60, 61, 101, 112, 99, 44, 111] : List UInt8).map (fun x => x.toNat) = [43, 45, 42, 47, 60, 61, 101, 112, 99, 44, 111] from rfl] at HA
  rw [show ([115, 103, 120, 119] : List UInt8).map (fun x => x.toNat) = [115, 103, 120, 119] from rfl] at HB
  have hc : arity c = if [43, 45, 42, 47, 60, 61, 101, 112, 99, 44, 111].contains c.toNat = true then 2 else if [115, 103, 120, 119].contains c.toNat = true then 1 else 0 := by unfold arity; rw [if_neg h3]
  rw [hc]
  clear hc h3
  revert HA HB
  generalize [43, 45, 42, 47, 60, 61, 101, 112, 99, 44, 111].contains c.toNat = t2
  generalize [115, 103, 120, 119].contains c.toNat = t1
  intro HA HB
  cases t2 with
  | true =>
   go_enter Tryz.func117, Tryz.ntmps117
   go_wp2_with fail
   refine HA.out.mono ?_
   rintro en w1 ⟨rfl, rfl⟩
   go_wp2_with fail
   go_ret
   exact ⟨rfl, rfl⟩
  | false =>
   cases t1 with
   | true =>
    go_enter Tryz.func117, Tryz.ntmps117
    go_wp2_with fail
    refine HA.out.mono ?_
    rintro en w1 ⟨rfl, rfl⟩
    go_wp2_with fail
    refine HB.out.mono ?_
    rintro en w1 ⟨rfl, rfl⟩
    go_wp2_with fail
    go_ret
    exact ⟨rfl, rfl⟩
   | false =>
    go_enter Tryz.func117, Tryz.ntmps117
    go_wp2_with fail
    refine HA.out.mono ?_
    rintro en w1 ⟨rfl, rfl⟩
    go_wp2_with fail
    refine HB.out.mono ?_
    rintro en w1 ⟨rfl, rfl⟩
    go_wp2_with fail
    go_ret
    exact ⟨rfl, rfl⟩
theorem info_nod : (Tryz.prog.info? 147).map (fun i => (i.zero, i.size, i.bytes)) = some (some (.agg #[.int .u8 0, .int .i64 0, .int .i64 0, .int .i64 0, .int .i64 0]), 5, 40) := by kernel_rfl
def ndC (x : Ins × Nat) : List Value := [.int .u8 x.1.op.toNat, .int .i64 x.1.a, .int .i64 x.1.b, .int .i64 x.1.pos, .int .i64 x.2]
def ndCells (l : List (Ins × Nat)) : List Value := l.flatMap ndC
theorem ndCells_snoc (l : List (Ins × Nat)) (x : Ins × Nat) : ndCells (l ++ [x]) = ndCells l ++ ndC x := by simp [ndCells]
theorem ndCells_at {l : List (Ins × Nat)} {j k : Nat} {x : Ins × Nat} (h : l[j]? = some x) (hk : k < 5) : (ndCells l)[j * 5 + k]? = (ndC x)[k]? := flat_at ndC 5 (fun _ => rfl) l j k x h hk
theorem ndCells_set : ∀ {l : List (Ins × Nat)} {j : Nat} {x : Ins × Nat} {e : Nat}, l[j]? = some x → (ndCells l).set (j * 5 + 4) (.int .i64 e) = ndCells (l.set j (x.1, e)) := by
 intro l
 induction l with
 | nil => intro j x e h; simp at h
 | cons y l ih =>
  intro j x e h
  cases j with
  | zero =>
   simp at h
   subst h
   simp [ndCells, ndC]
  | succ j =>
   have := ih (j := j) (e := e) (by simpa using h)
   simp only [ndCells, List.flatMap_cons, List.set_cons_succ] at this ⊢
   rw [← this, show (j + 1) * 5 + 4 = j * 5 + 4 + 5 from by omega]
   simp [ndC, List.set_append]
def TrB (w : World) (base : Nat) (v : Value) (l : List (Ins × Nat)) : Prop := w.ownsRow base 147 5 v l.length (ndCells l)
def endsN (o : Nat) : List Ins → List (Ins × Nat)
 | [] => []
 | x :: u => (x, o + 1 + sk (arity x.op) u) :: endsN (o + 1) u
theorem endsN_fst : ∀ {u : List Ins} {o : Nat}, (endsN o u).map (·.1) = u := by
 intro u
 induction u with
 | nil => intro o; rfl
 | cons x u ih => intro o; simp [endsN, ih]
theorem endsN_len {u : List Ins} {o : Nat} : (endsN o u).length = u.length := by
 have := congrArg List.length (endsN_fst (u := u) (o := o))
 simpa using this
theorem full_split : ∀ {u : List Ins} {a m : Nat}, full (a + m) u → ∃ p q, u = p ++ q ∧ full a p ∧ full m q := by
 intro u
 induction u with
 | nil =>
  intro a m h
  cases a with
  | zero => exact ⟨[], [], rfl, trivial, by simpa using h⟩
  | succ a => rw [show a + 1 + m = (a + m) + 1 from by omega] at h; cases h
 | cons x u ih =>
  intro a m h
  cases a with
  | zero => exact ⟨[], x :: u, rfl, trivial, by simpa using h⟩
  | succ a =>
   rw [show a + 1 + m = (a + m) + 1 from by omega] at h
   have h' : full ((a + arity x.op) + m) u := by rw [show a + arity x.op + m = a + m + arity x.op from by omega]; exact h
   obtain ⟨p, q, h1, h2, h3⟩ := ih h'
   exact ⟨x :: p, q, by rw [h1]; rfl, h2, h3⟩
theorem endsN_append : ∀ {u : List Ins} {m o : Nat} {v : List Ins}, full m u → endsN o (u ++ v) = endsN o u ++ endsN (o + u.length) v := by
 intro u
 induction u with
 | nil => intro m o v _; simp [endsN]
 | cons x u ih =>
  intro m o v h
  cases m with
  | zero => cases h
  | succ m =>
   have h' : full (arity x.op + m) u := by rw [Nat.add_comm]; exact h
   obtain ⟨p, q, h1, h2, h3⟩ := full_split h'
   have e1 : sk (arity x.op) (u ++ v) = sk (arity x.op) u := by rw [h1, List.append_assoc, full_sk h2, full_sk h2]
   simp only [List.cons_append, endsN, e1, List.length_cons]
   rw [ih h, show o + (u.length + 1) = o + 1 + u.length from by omega]
def NodQ (s : ByteArray) (cs : List Cls) (ns nl f i : Nat) (src : Bool) (bi : Nat) (vc vt : Value) (l : List (Ins × Nat)) (b tb : Nat) (w w' : World) : Prop :=
 ∃ j bad ao n cap cells, RdB w' b s j bad src bi vc (.slice ao n cap) ∧ w'.ownsRow tb 147 5 (.slice ao n cap) n cells ∧ (∀ g, (Value.slice ao n cap).ownBlock = some g → vt.ownBlock = some g ∨ w.heap.size ≤ g) ∧ l.length ≤ n ∧ n ≤ 24 ∧
  ((bad = false ∧ ∃ u, nodesP s cs ns nl f (l.map (·.1)) 1 i = .ok (l.map (·.1) ++ u, j) ∧ full 1 u ∧ n = l.length + u.length ∧ cells = ndCells (l ++ endsN l.length u)) ∨ (bad = true ∧ nodesP s cs ns nl f (l.map (·.1)) 1 i = .error j))
def NodI (s : ByteArray) (cs : List Cls) (ns nl F i : Nat) (l : List (Ins × Nat)) (R : Except Nat (List Ins × Nat)) (ar jj n : Nat) (cells : List Value) (i' : Nat) (bad : Bool) : Prop :=
 (bad = false ∧ ∃ X u, X.op = pk s i ∧ jj ≤ ar ∧ full jj u ∧ n = l.length + 1 + u.length ∧ cells = ndCells (l ++ [(X, 0)] ++ endsN (l.length + 1) u) ∧ nodesP s cs ns nl (F - u.length) (l.map (·.1) ++ [X] ++ u) (ar - jj) i' = R) ∨ (bad = true ∧ R = .error i')
section
variable {s : ByteArray} {cs : List Cls} {ns nl F i : Nat} {l : List (Ins × Nat)} {R : Except Nat (List Ins × Nat)} {ar : Nat}
theorem NodI.next {jj n : Nat} {cells : List Value} {i' : Nat} (h : NodI s cs ns nl F i l R ar jj n cells i' false) (hjj : jj < ar) (hlF : l.length + (F + 1) = 24) :
  ∃ l', n = l'.length ∧ cells = ndCells l' ∧ ∀ n2 cells2 j bad, ((bad = false ∧ ∃ u, nodesP s cs ns nl (24 - n) (l'.map (·.1)) 1 i' = .ok (l'.map (·.1) ++ u, j) ∧ full 1 u ∧ n2 = l'.length + u.length ∧ cells2 = ndCells (l' ++ endsN l'.length u)) ∨ (bad = true ∧ nodesP s cs ns nl (24 - n) (l'.map (·.1)) 1 i' = .error j)) → NodI s cs ns nl F i l R ar (jj + 1) n2 cells2 j bad := by
 rcases h with ⟨_, X, u, hX, hle, hf, hn, hc, hR⟩ | ⟨h, _⟩
 ·refine ⟨l ++ [(X, 0)] ++ endsN (l.length + 1) u, by simp [endsN_len]; omega, hc, ?_⟩
  intro n2 cells2 j bad hq
  have hm : (l ++ [(X, 0)] ++ endsN (l.length + 1) u).map (fun x : Ins × Nat => x.1) = l.map (·.1) ++ [X] ++ u := by rw [List.map_append, List.map_append, endsN_fst]; rfl
  have hln : (l ++ [(X, 0)] ++ endsN (l.length + 1) u).length = l.length + 1 + u.length := by simp [endsN_len]; omega
  rw [hm] at hq
  rw [show 24 - n = F - u.length from by omega] at hq
  rw [show ar - jj = 1 + (ar - (jj + 1)) from by omega, nodesP_add] at hR
  rcases hq with ⟨rfl, v, h1, h2, h3, h4⟩ | ⟨rfl, h1⟩
  ·rw [h1] at hR
   simp only at hR
   have hlv := (nodesP_len h1).2.1
   refine Or.inl ⟨rfl, X, u ++ v, hX, by omega, full_add hf h2, by rw [h3, hln]; simp; omega, ?_, ?_⟩
   ·rw [h4, hln, endsN_append hf, ← List.append_assoc]
   ·rw [← hR]
    simp only [List.length_append, List.append_assoc]
    congr 1
    simp
    omega
  ·rw [h1] at hR
   exact Or.inr ⟨rfl, hR.symm⟩
 ·cases h
theorem NodI.fin {n : Nat} {cells : List Value} {i' jj : Nat} {bad : Bool} (h : NodI s cs ns nl F i l R ar jj n cells i' bad) (har : ar = arity (pk s i)) (hx : bad = true ∨ ¬ jj < ar) (hR : nodesP s cs ns nl (F + 1) (l.map (·.1)) 1 i = R) :
  (bad = false ∧ ∃ u, nodesP s cs ns nl (F + 1) (l.map (·.1)) 1 i = .ok (l.map (·.1) ++ u, i') ∧ full 1 u ∧ n = l.length + u.length ∧ cells.set (l.length * 5 + 4) (.int .i64 n) = ndCells (l ++ endsN l.length u)) ∨ (bad = true ∧ nodesP s cs ns nl (F + 1) (l.map (·.1)) 1 i = .error i') := by
 rw [hR]
 rcases h with ⟨rfl, X, u, hX, hle, hf, hn, hc, hq⟩ | ⟨rfl, h⟩
 ·have hjj : jj = ar := by
   rcases hx with h | h
   ·cases h
   ·omega
  subst hjj
  rw [Nat.sub_self, nodesP_zero] at hq
  have hfx : full 1 (X :: u) := by
   show full (0 + arity X.op) u
   rw [Nat.zero_add, hX, ← har]
   exact hf
  refine Or.inl ⟨rfl, X :: u, by rw [← hq]; simp, hfx, by simp; omega, ?_⟩
  have hk : (l ++ [(X, 0)] ++ endsN (l.length + 1) u)[l.length]? = some (X, 0) := by simp
  rw [hc, ndCells_set hk]
  congr 1
  have e1 : sk (arity X.op) u = u.length := by
   have := full_sk (v := []) (show full (arity X.op) u by rw [hX, ← har]; exact hf)
   simpa using this
  simp [endsN, e1, hn]
 ·exact Or.inr ⟨rfl, h⟩
end
section
variable (b : Nat) (s : ByteArray) (src : Bool) (bi : Nat) (vc : Value)
/-- No node can stand there. -/
theorem node_bad (tb nl f i : Nat) (cs : List Cls) (ns : Nat) (ao : Option Addr) (cap : Nat) (l : List (Ins × Nat)) (w : World) (hs : s.size ≤ 2000) (hR : RdB w b s i false src bi vc (.slice ao l.length cap)) (hT : TrB w tb (.slice ao l.length cap) l) (hl24 : l.length ≤ 24) (hx : nodeLetters.contains (pk s i).toNat = false ∨ 24 ≤ l.length) (he : nodesP s cs ns nl f (l.map (·.1)) 1 i = .error i) :
  Calls Tryz.prog 133 #[.pointer (some ⟨b, 0, none⟩), .int .i64 nl] w fun en w' => en = .returned (.tuple #[]) ∧ But (fun k => k = b ∨ (Value.slice ao l.length cap).ownBlock = some k) w w' ∧ NodQ s cs ns nl f i src bi vc (.slice ao l.length cap) l b tb w w' := by
 have c2 := hR.c2
 have c6 := hR.c6
 have f2 := hR.fz 2
 have blt := hR.lt
 have HQ := hid (fun (n : Nat) => show NodQ s cs ns nl f i src bi vc (.slice ao l.length cap) l b tb w ((w.drewN n).setCell ⟨b, 2, none⟩ (.bool true)) from ⟨i, true, ao, l.length, cap, ndCells l, (hR.drewN n).set2 true, owns_but hT ((But.drewN (· = b) _ _).trans (But.setB _ _ _ _)) (fun g hg h => ownsApart hT hR (by decide) (h ▸ hg)), fun g hg => Or.inl hg, Nat.le_refl _, hl24, Or.inr ⟨rfl, he⟩⟩)
 have HA := hid (among_list [48, 49, 50, 51, 52, 53, 54, 55, 56, 57, 114, 119, 108, 115, 43, 45, 42, 47, 60, 61, 101, 110, 122, 103, 112, 99, 120, 44, 105, 111] (pk s i).toNat)
 rw [show ([48, 49, 50, 51, 52, 53, 54, 55, 56, 57, 114, 119, 108, 115, 43, 45, 42, 47, 60, 61, 101, 110, 122, 103, 112, 99, 120, 44, 105, 111] : List UInt8).map (fun x => x.toNat) = nodeLetters from rfl] at HA
 clear he
 cases hk : nodeLetters.contains (pk s i).toNat with
 | false =>
  rw [hk] at HA
  clear hk hx
  go_enter Tryz.func133, Tryz.ntmps133
  go_wp2_with fail
  refine (peek_any b s i false src bi vc _ _ hs hR).mono ?_
  rintro en w1 ⟨rfl, n1, rfl⟩
  go_wp2_with fail
  refine (HA.out _ (by simp)).mono ?_
  rintro en w2 ⟨rfl, rfl⟩
  go_wp2_with fail
  exact bodyPost_ret (v := .tuple #[]) (by simp [results, Tryz.results133, go_sem]) rfl ⟨rfl, ((But.drewN _ _ _).trans (But.setB _ _ _ _)).mono (fun k _ h => Or.inl h), HQ.out n1⟩
 | true =>
  rw [hk] at HA hx
  have hl : (24 : Int) ≤ (l.length : Int) := by
   rcases hx with h | h
   ·cases h
   ·omega
  clear hk hx
  go_enter Tryz.func133, Tryz.ntmps133
  go_wp2_with fail
  refine (peek_any b s i false src bi vc _ _ hs hR).mono ?_
  rintro en w1 ⟨rfl, n1, rfl⟩
  go_wp2_with fail
  refine (HA.out _ (by simp)).mono ?_
  rintro en w2 ⟨rfl, rfl⟩
  go_wp2_with fail
  exact bodyPost_ret (v := .tuple #[]) (by simp [results, Tryz.results133, go_sem]) rfl ⟨rfl, ((But.drewN _ _ _).trans (But.setB _ _ _ _)).mono (fun k _ h => Or.inl h), HQ.out n1⟩
theorem node_any (base top tb : Nat) (cs : List Cls) (gs : List Sig) (v2 : Value) (nl : Nat) (hnl : nl ≤ 5) (hs : s.size ≤ 2000) (hbi : b ≠ bi) (hbb : b < base) (htb : top ≤ tb) (hbt : base ≤ top) (hbib : bi < base) : ∀ (F f i : Nat) (vt : Value) (l : List (Ins × Nat)) (w : World), f ≤ F → l.length + f = 24 → RdB w b s i false src bi vc vt → TrB w tb vt l → tb ≤ w.heap.size → Heads w base top bi cs gs v2 →
  Calls Tryz.prog 133 #[.pointer (some ⟨b, 0, none⟩), .int .i64 nl] w fun en w' => en = .returned (.tuple #[]) ∧ But (fun k => k = b ∨ vt.ownBlock = some k) w w' ∧ NodQ s cs gs.length nl f i src bi vc vt l b tb w w' := by
 intro F
 induction F with
 | zero =>
  intro f i vt l w hfF hlf hR hT htw hH
  obtain ⟨ao, cap, rfl⟩ := owns_len hT
  obtain rfl : f = 0 := by omega
  exact node_bad b s src bi vc tb nl 0 i cs gs.length ao cap l w hs hR hT (by omega) (Or.inr (by omega)) rfl
 | succ F ih =>
  intro f i vt l w hfF hlf hR hT htw hH
  by_cases hle : f ≤ F
  ·exact ih f i vt l w hle hlf hR hT htw hH
  obtain rfl : f = F + 1 := by omega
  obtain ⟨ao, cap, rfl⟩ := owns_len hT
  cases hk : nodeLetters.contains (pk s i).toNat with
  | false => exact node_bad b s src bi vc tb nl (F + 1) i cs gs.length ao cap l w hs hR hT (by omega) (Or.inl hk) (by simp only [nodesP, nodP, hk]; rfl)
  | true =>
   have IH := hid ih
   clear ih hle hfF
   obtain ⟨i0, hi0, hz0, hz1, hz2⟩ := info_parts info_nod
   have c2 := hR.c2
   have c6 := hR.c6
   have c1 := hR.c1
   have f1 := hR.fz 1
   have blt := hR.lt
   have h0 : 0 < (pk s i).toNat := by
    rcases Nat.eq_zero_or_pos (pk s i).toNat with h | h
    ·rw [h] at hk; exact absurd hk (by decide)
    ·exact h
   have hi : i < s.size := pk_lt h0
   have hl : ¬ (24 : Int) ≤ (l.length : Int) := by omega
   have hcl := (pk s i).toNat_lt
   have HA := hid (among_list [48, 49, 50, 51, 52, 53, 54, 55, 56, 57, 114, 119, 108, 115, 43, 45, 42, 47, 60, 61, 101, 110, 122, 103, 112, 99, 120, 44, 105, 111] (pk s i).toNat)
   rw [show ([48, 49, 50, 51, 52, 53, 54, 55, 56, 57, 114, 119, 108, 115, 43, 45, 42, 47, 60, 61, 101, 110, 122, 103, 112, 99, 120, 44, 105, 111] : List UInt8).map (fun x => x.toNat) = nodeLetters from rfl, hk] at HA
   have HK := hid hk
   have HR0 := hid hR
   clear hk h0
   go_enter Tryz.func133, Tryz.ntmps133
   go_wp2_with fail
   refine (peek_any b s i false src bi vc _ _ hs hR).mono ?_
   rintro en w1 ⟨rfl, n1, rfl⟩
   go_wp2_with fail
   refine (HA.out _ (by simp)).mono ?_
   rintro en w2 ⟨rfl, rfl⟩
   clear HA
   go_wp2_with fail
   refine (oper_any b s (i + 1) src bi vc _ _ base top cs gs v2 (pk s i).toNat nl (by omega) hnl hs hbi hbb (hR.drewN n1).inc ((hH.but (But.drewN (fun _ => False) _ _) (fun h => h) (fun k h => h.elim)).but (But.setB _ _ _ _) (fun h => hbi h.symm) (fun k h => by omega))).mono ?_
   rintro en w3 ⟨hB3, x, y, j, bad2, rfl, hR3, hlink⟩
   have HLK := hid hlink
   clear hlink
   have hBw3 : But (· = b) w w3 := ((But.drewN _ _ _).trans (But.setB _ _ _ _)).trans hB3
   have hT3 : w3.ownsRow tb 147 5 (.slice ao l.length cap) l.length (ndCells l) := owns_but hT hBw3 (fun g hg h => ownsApart hT HR0.out (by decide) (h ▸ hg))
   have hH3 : Heads w3 base top bi cs gs v2 := hH.but hBw3 (fun h => hbi h.symm) (fun k h => by omega)
   have hz3 := hBw3.size
   have e6 := hR3.c6
   have q6 := hR3.fz 6
   have ab : (Value.slice ao l.length cap).ownBlock ≠ some b := fun h => ownsApart hT HR0.out (by decide) h
   have blt3 := hR3.lt
   have hge3 := owns_ge hT3
   obtain ⟨d, hcase, HD⟩ : ∃ d : Int, ((True ∧ (48 : Int) ≤ ((pk s i).toNat : Int) ∧ ((pk s i).toNat : Int) ≤ 57 ∧ IntKind.u8.wrap (((pk s i).toNat : Int) - 48) = d ∧ wrap64 d = d) ∨ (d = y ∧ ¬ (48 : Int) ≤ ((pk s i).toNat : Int)) ∨ (d = y ∧ (48 : Int) ≤ ((pk s i).toNat : Int) ∧ ¬ ((pk s i).toNat : Int) ≤ 57)) ∧ Hid (d = if isDigit (pk s i) = true then (((pk s i).toNat - 48 : Nat) : Int) else y) := by
    by_cases h1 : 48 ≤ (pk s i).toNat
    ·by_cases h2 : (pk s i).toNat ≤ 57
     ·refine ⟨(((pk s i).toNat - 48 : Nat) : Int), Or.inl ⟨trivial, by omega, by omega, by rw [IntWalk.u8_in _ (by omega)]; omega, IntWalk.wrap64_in _ ⟨by omega, by omega⟩⟩, hid ?_⟩
      rw [if_pos (by simp [isDigit, h1, h2])]
     ·refine ⟨y, Or.inr (Or.inr ⟨rfl, by omega, by omega⟩), hid ?_⟩
      rw [if_neg (by simp [isDigit, h2])]
    ·refine ⟨y, Or.inr (Or.inl ⟨rfl, by omega⟩), hid ?_⟩
     rw [if_neg (by simp [isDigit, h1])]
   have HAR := hid (fun w => parts_any (pk s i) w)
   obtain ⟨ar, har⟩ : ∃ ar, arity (pk s i) = ar := ⟨_, rfl⟩
   have har3 : ar ≤ 3 := by rw [← har]; unfold arity; split; omega; split; omega; split <;> omega
   rw [har] at HAR
   have HAE := hid har
   obtain ⟨R, hRR⟩ : ∃ R, nodesP s cs gs.length nl (F + 1) (l.map (·.1)) 1 i = R := ⟨_, rfl⟩
   have HRR := hid hRR
   have hst : NodI s cs gs.length nl F i l R ar 0 (l.length + 1) (ndCells l ++ [.int .u8 (pk s i).toNat, .int .i64 x, .int .i64 d, .int .i64 i, .int .i64 0]) j bad2 := by
    have hR' := HRR.out
    simp only [nodesP, nodP, HK.out, if_true] at hR'
    rcases HLK.out with ⟨rfl, a, q, rfl, hyq, ho⟩ | ⟨rfl, ho⟩
    ·rw [ho] at hR'
     simp only at hR'
     refine Or.inl ⟨rfl, ⟨pk s i, a, if isDigit (pk s i) = true then (pk s i).toNat - 48 else q, i⟩, [], rfl, by omega, trivial, by simp, ?_, ?_⟩
     ·simp only [endsN, List.append_nil, ndCells_snoc, ndC]
      have hd := HD.out
      rw [hyq] at hd
      split at hd <;> rename_i hdg
      ·simp [hdg, hd]
      ·simp [hdg, hd]
     ·simp only [List.length_nil, Nat.sub_zero, List.append_nil]
      rw [← HAE.out]
      simpa using hR'
    ·rw [ho] at hR'
     exact Or.inr ⟨rfl, hR'.symm⟩
   have HST := hid hst
   clear c1 c2 c6 f1 hB3 hst har hRR HLK HK HD
   rcases hcase with ⟨hdy, g1, g2, g3, g4⟩ | ⟨hdy, g1⟩ | ⟨hdy, g1, g2⟩
   ·try subst hdy
    go_wp2_with (at_builtin; refine wpList_append_lies _ rfl _ _ _ rfl tb 147 i0 _ 5 40 Tryz.underlying50 hi0 hz0 hz1 hz2 rfl (by omega) _ l.length (ndCells l) rfl (hT3.alloc _) ⟨w3.heap.size, 0, none⟩ 1 1 [.int .u8 (pk s i).toNat, .int .i64 x, .int .i64 d, .int .i64 i, .int .i64 0] rfl rfl (World.news_of_block (cs := #[.int .u8 (pk s i).toNat, .int .i64 x, .int .i64 d, .int .i64 i, .int .i64 0]) (t := 147) (fr := (0, 0)) (heap_alloc_new w3 _)) (by simp [Value.oneCell']) (by omega) (by unfold maxLen; omega) (by omega) (by simp; omega) (w3.heap.size + 1) (by simp) ?_)
    intro gg cap2 w4 hown2 hgrow hat hlt2
    have hSW : But (fun k => (Value.slice ao l.length cap).ownBlock = some k) w3 w4 := (But.alloc _ _ _).trans (but_grown hgrow)
    have y0 := (hSW.cell (p := ⟨b, 6, none⟩) blt3 ab).trans e6
    have y1 := (hSW.frozen (p := ⟨b, 6, none⟩) blt3 ab).trans q6
    have hR4 := hR3.but hSW ab
    have hgg := owns_ge hown2 gg rfl
    have hB5 : But (fun k => k = b ∨ (Value.slice ao l.length cap).ownBlock = some k) w (w4.setCell ⟨b, 6, none⟩ (.slice (some ⟨gg, 0, none⟩) (l.length + 1) cap2)) := ((hBw3.mono (fun k _ h => Or.inl h)).trans (hSW.mono (fun k _ h => Or.inr h))).trans ((But.setB _ _ _ _).mono (fun k _ h => Or.inl h))
    have hR5 := hR4.set6 (.slice (some ⟨gg, 0, none⟩) (l.length + 1) cap2)
    have hO5 := owns_but hown2 (But.setB w4 b 6 (.slice (some ⟨gg, 0, none⟩) (l.length + 1) cap2)) (fun g hg h => by have := owns_ge hown2 g hg; omega)
    have hfr5 : ∀ g, (Value.slice (some ⟨gg, 0, none⟩) (l.length + 1) cap2).ownBlock = some g → (Value.slice ao l.length cap).ownBlock = some g ∨ w.heap.size ≤ g := by
     intro g hg
     simp [Value.ownBlock] at hg
     subst hg
     rcases hat with h | h
     ·exact Or.inl h
     ·exact Or.inr (by omega)
    have hz4 := hSW.size
    clear e6 q6 hgrow hat
    go_wp2_with fail
    revert hB5 hR5 hO5
    generalize (w4.setCell ⟨b, 6, none⟩ (.slice (some ⟨gg, 0, none⟩) (l.length + 1) cap2)) = W5
    intro hB5 hR5 hO5
    have hz5 := hB5.size
    refine (HAR.out W5).mono ?_
    rintro en w6 ⟨rfl, hw6⟩
    rw [hw6]
    clear hw6 w6 HAR y0 y1 hSW hR4 hown2
    go_wp2_with fail
    go_loopg [11] ar (fun mm js wr => ∃ (jj i' : Nat) (bad' : Bool) (ao' : Option Addr) (n cap' : Nat) (cells : List Value), js = .int .i64 jj ∧ jj ≤ ar ∧ jj + mm ≤ ar ∧ ar ≤ jj + mm ∧ RdB wr b s i' bad' src bi vc (.slice ao' n cap') ∧ wr.ownsRow tb 147 5 (.slice ao' n cap') n cells ∧ (∀ g, (Value.slice ao' n cap').ownBlock = some g → (Value.slice ao l.length cap).ownBlock = some g ∨ w.heap.size ≤ g) ∧ l.length + 1 ≤ n ∧ n ≤ 24 ∧ But (fun k => k = b ∨ (Value.slice ao l.length cap).ownBlock = some k) w wr ∧ Hid (NodI s cs gs.length nl F i l R ar jj n cells i' bad'))
    case atStart => exact ⟨0, j, bad2, _, l.length + 1, cap2, _, rfl, by omega, by omega, by omega, hR5, hO5, hfr5, by omega, by omega, hB5, HST⟩
    case round =>
     obtain ⟨jj, i', bad', ao', n, cap', cells, rfl, hj1, hj2, hj3, hRr, hOr, hfr, hn1, hn2, hBr, HI⟩ := hrel
     clear hj2
     have k2 := hRr.c2
     have k6 := hRr.c6
     have bltr := hRr.lt
     have hzr := hBr.size
     by_cases hlt : jj < ar
     ·have hlI : (jj : Int) < (ar : Int) := by omega
      cases bad' with
      | false =>
       obtain ⟨l', hnl', hcl', hnx⟩ := HI.out.next hlt hlf
       have HNX := hid hnx
       have hHr : Heads wr base top bi cs gs v2 := hH.but hBr (fun h => by
        rcases h with h | h
        ·exact hbi h.symm
        ·have := owns_ge hT _ h; omega) (fun k h => by
        rcases h with h | h
        ·omega
        ·have := owns_ge hT _ h; omega)
       have HC := hid (IH.out (24 - n) i' (.slice ao' n cap') l' wr (by omega) (by omega) hRr (by unfold TrB; rw [← hnl', ← hcl']; exact hOr) (by omega) hHr)
       have HNL := hid hnl'
       clear hnx hHr HI hcl'
       go_wp2_with fail
       refine HC.out.mono ?_
       rintro en w7 ⟨rfl, hB7, HQ7⟩
       obtain ⟨j7, bad7, ao7, n7, cap7, cells7, hR7, hO7, hfr7, hl7, hn7, hq7⟩ := HQ7
       have HI7 := hid (HNX.out n7 cells7 j7 bad7 hq7)
       have hBw7 : But (fun k => k = b ∨ (Value.slice ao l.length cap).ownBlock = some k) w w7 := hBr.next hB7 (fun k hk h => by
        rcases h with h | h
        ·exact Or.inl h
        ·rcases hfr k h with h | h
         ·exact Or.inr h
         ·omega)
       have hfr7' : ∀ g, (Value.slice ao7 n7 cap7).ownBlock = some g → (Value.slice ao l.length cap).ownBlock = some g ∨ w.heap.size ≤ g := fun g hg => by
        rcases hfr7 g hg with h | h
        ·exact hfr g h
        ·exact Or.inr (by omega)
       have hn7' : l.length + 1 ≤ n7 := by have := HNL.out; omega
       clear hq7 HNX HC
       go_wp2_with fail
       go_roundg (ar - (jj + 1))
       case measure => omega
       case rel => exact ⟨jj + 1, j7, bad7, ao7, n7, cap7, cells7, by simp, by omega, by omega, by omega, hR7, hO7, hfr7', hn7', hn7, hBw7, HI7⟩
      | true =>
       have HFN := hid (HI.out.fin HAE.out.symm (Or.inl rfl) HRR.out)
       clear HI
       obtain ⟨gq, hao, hgq1, hgq2, hcq⟩ := owns_two hOr (by omega)
       have hcn : cells.length = n * 5 := hOr.1
       have hk5 : l.length * 5 + 4 < cells.length := by omega
       have v9 := hcq _ _ (List.getElem?_eq_getElem hk5)
       subst hao
       have fz9 := owns_fz hOr (l.length * 5 + 4)
       clear hcq
       have hidx : (l.length : Int) < (n : Int) := by omega
       have hidx0 : ¬ (l.length : Int) < 0 := by omega
       have hbq : gq ≠ b := fun h => ownsApart hOr hRr (by decide) (by rw [← h]; rfl)
       go_wp2_with fail
       have hS0 : But (fun _ => False) wr wr.drew := But.drew _ _
       refine wpTx_begin (But (fun _ => False) wr) 10 (by kernel_rfl) ?_
       iterate 10 (refine wpTx_take (v := ?_) rfl (by kernel_rfl) (fun _ _ _ h => h) rfl hS0 ?_ ?_; rotate_left; (focus (intro wS h; have q0 := ((h.cell (p := ⟨b, 6, none⟩) bltr (fun h => h)).trans k6); clear h; go_simp; try rfl)); dsimp only [Act.put]; try simp only [puts])
       refine wpTx_step rfl (by kernel_rfl) ?_
       intro KS hKS
       go_simp
       refine hKS.out _ _ (fun h => absurd h (by decide)) ?_
       clear hKS KS
       refine wpTx_step rfl (by kernel_rfl) ?_
       intro KS hKS
       go_simp
       refine hKS.out _ _ (fun h => absurd h (by decide)) ?_
       clear hKS KS
       have v9d := (hS0.cell (p := ⟨gq, l.length * 5 + 4, none⟩) hgq1 (fun h => h)).trans v9
       have fz9d := (hS0.frozen (p := ⟨gq, l.length * 5 + 4, none⟩) hgq1 (fun h => h)).trans fz9
       refine wpTx_step rfl (by kernel_rfl) ?_
       intro KS hKS
       go_simp
       refine hKS.out _ _ (fun h => absurd h (by decide)) ?_
       clear hKS KS
       refine wpTx_done rfl (by kernel_rfl) ?_
       have hO9 := owns_set (owns_but hOr hS0 (fun _ _ h => h)) (l.length * 5 + 4) (.int .i64 n)
       have hB9 : But (fun k => k = b ∨ (Value.slice ao l.length cap).ownBlock = some k) w (wr.drew.setCell ⟨gq, l.length * 5 + 4, none⟩ (.int .i64 n)) := (hBr.next hS0 (fun _ _ h => h.elim)).next (But.setB _ _ _ _) (fun k hk h => by
        rcases hfr gq rfl with h' | h'
        ·exact Or.inr (h ▸ h')
        ·omega)
       have hR9 := (hRr.but hS0 (fun h => h)).but (But.setB wr.drew gq (l.length * 5 + 4) (.int .i64 n)) (fun h => hbq h.symm)
       go_wp2_with fail
       go_end0
       exact ⟨rfl, hB9, ⟨i', _, _, n, _, _, hR9, hO9, hfr, by omega, hn2, Or.inr ⟨rfl, by rcases HFN.out with ⟨h, _⟩ | h; (cases h); exact h.2⟩⟩⟩
     ·have hlI : ¬ (jj : Int) < (ar : Int) := by omega
      have HFN := hid (HI.out.fin HAE.out.symm (Or.inr hlt) HRR.out)
      clear HI
      obtain ⟨gq, hao, hgq1, hgq2, hcq⟩ := owns_two hOr (by omega)
      have hcn : cells.length = n * 5 := hOr.1
      have hk5 : l.length * 5 + 4 < cells.length := by omega
      have v9 := hcq _ _ (List.getElem?_eq_getElem hk5)
      subst hao
      have fz9 := owns_fz hOr (l.length * 5 + 4)
      clear hcq
      have hidx : (l.length : Int) < (n : Int) := by omega
      have hidx0 : ¬ (l.length : Int) < 0 := by omega
      have hbq : gq ≠ b := fun h => ownsApart hOr hRr (by decide) (by rw [← h]; rfl)
      go_wp2_with fail
      have hS0 : But (fun _ => False) wr wr.drew := But.drew _ _
      refine wpTx_begin (But (fun _ => False) wr) 10 (by kernel_rfl) ?_
      iterate 10 (refine wpTx_take (v := ?_) rfl (by kernel_rfl) (fun _ _ _ h => h) rfl hS0 ?_ ?_; rotate_left; (focus (intro wS h; have q0 := ((h.cell (p := ⟨b, 6, none⟩) bltr (fun h => h)).trans k6); clear h; go_simp; try rfl)); dsimp only [Act.put]; try simp only [puts])
      refine wpTx_step rfl (by kernel_rfl) ?_
      intro KS hKS
      go_simp
      refine hKS.out _ _ (fun h => absurd h (by decide)) ?_
      clear hKS KS
      refine wpTx_step rfl (by kernel_rfl) ?_
      intro KS hKS
      go_simp
      refine hKS.out _ _ (fun h => absurd h (by decide)) ?_
      clear hKS KS
      have v9d := (hS0.cell (p := ⟨gq, l.length * 5 + 4, none⟩) hgq1 (fun h => h)).trans v9
      have fz9d := (hS0.frozen (p := ⟨gq, l.length * 5 + 4, none⟩) hgq1 (fun h => h)).trans fz9
      refine wpTx_step rfl (by kernel_rfl) ?_
      intro KS hKS
      go_simp
      refine hKS.out _ _ (fun h => absurd h (by decide)) ?_
      clear hKS KS
      refine wpTx_done rfl (by kernel_rfl) ?_
      have hO9 := owns_set (owns_but hOr hS0 (fun _ _ h => h)) (l.length * 5 + 4) (.int .i64 n)
      have hB9 : But (fun k => k = b ∨ (Value.slice ao l.length cap).ownBlock = some k) w (wr.drew.setCell ⟨gq, l.length * 5 + 4, none⟩ (.int .i64 n)) := (hBr.next hS0 (fun _ _ h => h.elim)).next (But.setB _ _ _ _) (fun k hk h => by
       rcases hfr gq rfl with h' | h'
       ·exact Or.inr (h ▸ h')
       ·omega)
      have hR9 := (hRr.but hS0 (fun h => h)).but (But.setB wr.drew gq (l.length * 5 + 4) (.int .i64 n)) (fun h => hbq h.symm)
      go_wp2_with fail
      go_end0
      exact ⟨rfl, hB9, ⟨i', _, _, n, _, _, hR9, hO9, hfr, by omega, hn2, HFN.out⟩⟩
   ·try subst hdy
    go_wp2_with (at_builtin; refine wpList_append_lies _ rfl _ _ _ rfl tb 147 i0 _ 5 40 Tryz.underlying50 hi0 hz0 hz1 hz2 rfl (by omega) _ l.length (ndCells l) rfl (hT3.alloc _) ⟨w3.heap.size, 0, none⟩ 1 1 [.int .u8 (pk s i).toNat, .int .i64 x, .int .i64 d, .int .i64 i, .int .i64 0] rfl rfl (World.news_of_block (cs := #[.int .u8 (pk s i).toNat, .int .i64 x, .int .i64 d, .int .i64 i, .int .i64 0]) (t := 147) (fr := (0, 0)) (heap_alloc_new w3 _)) (by simp [Value.oneCell']) (by omega) (by unfold maxLen; omega) (by omega) (by simp; omega) (w3.heap.size + 1) (by simp) ?_)
    intro gg cap2 w4 hown2 hgrow hat hlt2
    have hSW : But (fun k => (Value.slice ao l.length cap).ownBlock = some k) w3 w4 := (But.alloc _ _ _).trans (but_grown hgrow)
    have y0 := (hSW.cell (p := ⟨b, 6, none⟩) blt3 ab).trans e6
    have y1 := (hSW.frozen (p := ⟨b, 6, none⟩) blt3 ab).trans q6
    have hR4 := hR3.but hSW ab
    have hgg := owns_ge hown2 gg rfl
    have hB5 : But (fun k => k = b ∨ (Value.slice ao l.length cap).ownBlock = some k) w (w4.setCell ⟨b, 6, none⟩ (.slice (some ⟨gg, 0, none⟩) (l.length + 1) cap2)) := ((hBw3.mono (fun k _ h => Or.inl h)).trans (hSW.mono (fun k _ h => Or.inr h))).trans ((But.setB _ _ _ _).mono (fun k _ h => Or.inl h))
    have hR5 := hR4.set6 (.slice (some ⟨gg, 0, none⟩) (l.length + 1) cap2)
    have hO5 := owns_but hown2 (But.setB w4 b 6 (.slice (some ⟨gg, 0, none⟩) (l.length + 1) cap2)) (fun g hg h => by have := owns_ge hown2 g hg; omega)
    have hfr5 : ∀ g, (Value.slice (some ⟨gg, 0, none⟩) (l.length + 1) cap2).ownBlock = some g → (Value.slice ao l.length cap).ownBlock = some g ∨ w.heap.size ≤ g := by
     intro g hg
     simp [Value.ownBlock] at hg
     subst hg
     rcases hat with h | h
     ·exact Or.inl h
     ·exact Or.inr (by omega)
    have hz4 := hSW.size
    clear e6 q6 hgrow hat
    go_wp2_with fail
    revert hB5 hR5 hO5
    generalize (w4.setCell ⟨b, 6, none⟩ (.slice (some ⟨gg, 0, none⟩) (l.length + 1) cap2)) = W5
    intro hB5 hR5 hO5
    have hz5 := hB5.size
    refine (HAR.out W5).mono ?_
    rintro en w6 ⟨rfl, hw6⟩
    rw [hw6]
    clear hw6 w6 HAR y0 y1 hSW hR4 hown2
    go_wp2_with fail
    go_loopg [11] ar (fun mm js wr => ∃ (jj i' : Nat) (bad' : Bool) (ao' : Option Addr) (n cap' : Nat) (cells : List Value), js = .int .i64 jj ∧ jj ≤ ar ∧ jj + mm ≤ ar ∧ ar ≤ jj + mm ∧ RdB wr b s i' bad' src bi vc (.slice ao' n cap') ∧ wr.ownsRow tb 147 5 (.slice ao' n cap') n cells ∧ (∀ g, (Value.slice ao' n cap').ownBlock = some g → (Value.slice ao l.length cap).ownBlock = some g ∨ w.heap.size ≤ g) ∧ l.length + 1 ≤ n ∧ n ≤ 24 ∧ But (fun k => k = b ∨ (Value.slice ao l.length cap).ownBlock = some k) w wr ∧ Hid (NodI s cs gs.length nl F i l R ar jj n cells i' bad'))
    case atStart => exact ⟨0, j, bad2, _, l.length + 1, cap2, _, rfl, by omega, by omega, by omega, hR5, hO5, hfr5, by omega, by omega, hB5, HST⟩
    case round =>
     obtain ⟨jj, i', bad', ao', n, cap', cells, rfl, hj1, hj2, hj3, hRr, hOr, hfr, hn1, hn2, hBr, HI⟩ := hrel
     clear hj2
     have k2 := hRr.c2
     have k6 := hRr.c6
     have bltr := hRr.lt
     have hzr := hBr.size
     by_cases hlt : jj < ar
     ·have hlI : (jj : Int) < (ar : Int) := by omega
      cases bad' with
      | false =>
       obtain ⟨l', hnl', hcl', hnx⟩ := HI.out.next hlt hlf
       have HNX := hid hnx
       have hHr : Heads wr base top bi cs gs v2 := hH.but hBr (fun h => by
        rcases h with h | h
        ·exact hbi h.symm
        ·have := owns_ge hT _ h; omega) (fun k h => by
        rcases h with h | h
        ·omega
        ·have := owns_ge hT _ h; omega)
       have HC := hid (IH.out (24 - n) i' (.slice ao' n cap') l' wr (by omega) (by omega) hRr (by unfold TrB; rw [← hnl', ← hcl']; exact hOr) (by omega) hHr)
       have HNL := hid hnl'
       clear hnx hHr HI hcl'
       go_wp2_with fail
       refine HC.out.mono ?_
       rintro en w7 ⟨rfl, hB7, HQ7⟩
       obtain ⟨j7, bad7, ao7, n7, cap7, cells7, hR7, hO7, hfr7, hl7, hn7, hq7⟩ := HQ7
       have HI7 := hid (HNX.out n7 cells7 j7 bad7 hq7)
       have hBw7 : But (fun k => k = b ∨ (Value.slice ao l.length cap).ownBlock = some k) w w7 := hBr.next hB7 (fun k hk h => by
        rcases h with h | h
        ·exact Or.inl h
        ·rcases hfr k h with h | h
         ·exact Or.inr h
         ·omega)
       have hfr7' : ∀ g, (Value.slice ao7 n7 cap7).ownBlock = some g → (Value.slice ao l.length cap).ownBlock = some g ∨ w.heap.size ≤ g := fun g hg => by
        rcases hfr7 g hg with h | h
        ·exact hfr g h
        ·exact Or.inr (by omega)
       have hn7' : l.length + 1 ≤ n7 := by have := HNL.out; omega
       clear hq7 HNX HC
       go_wp2_with fail
       go_roundg (ar - (jj + 1))
       case measure => omega
       case rel => exact ⟨jj + 1, j7, bad7, ao7, n7, cap7, cells7, by simp, by omega, by omega, by omega, hR7, hO7, hfr7', hn7', hn7, hBw7, HI7⟩
      | true =>
       have HFN := hid (HI.out.fin HAE.out.symm (Or.inl rfl) HRR.out)
       clear HI
       obtain ⟨gq, hao, hgq1, hgq2, hcq⟩ := owns_two hOr (by omega)
       have hcn : cells.length = n * 5 := hOr.1
       have hk5 : l.length * 5 + 4 < cells.length := by omega
       have v9 := hcq _ _ (List.getElem?_eq_getElem hk5)
       subst hao
       have fz9 := owns_fz hOr (l.length * 5 + 4)
       clear hcq
       have hidx : (l.length : Int) < (n : Int) := by omega
       have hidx0 : ¬ (l.length : Int) < 0 := by omega
       have hbq : gq ≠ b := fun h => ownsApart hOr hRr (by decide) (by rw [← h]; rfl)
       go_wp2_with fail
       have hS0 : But (fun _ => False) wr wr.drew := But.drew _ _
       refine wpTx_begin (But (fun _ => False) wr) 10 (by kernel_rfl) ?_
       iterate 10 (refine wpTx_take (v := ?_) rfl (by kernel_rfl) (fun _ _ _ h => h) rfl hS0 ?_ ?_; rotate_left; (focus (intro wS h; have q0 := ((h.cell (p := ⟨b, 6, none⟩) bltr (fun h => h)).trans k6); clear h; go_simp; try rfl)); dsimp only [Act.put]; try simp only [puts])
       refine wpTx_step rfl (by kernel_rfl) ?_
       intro KS hKS
       go_simp
       refine hKS.out _ _ (fun h => absurd h (by decide)) ?_
       clear hKS KS
       refine wpTx_step rfl (by kernel_rfl) ?_
       intro KS hKS
       go_simp
       refine hKS.out _ _ (fun h => absurd h (by decide)) ?_
       clear hKS KS
       have v9d := (hS0.cell (p := ⟨gq, l.length * 5 + 4, none⟩) hgq1 (fun h => h)).trans v9
       have fz9d := (hS0.frozen (p := ⟨gq, l.length * 5 + 4, none⟩) hgq1 (fun h => h)).trans fz9
       refine wpTx_step rfl (by kernel_rfl) ?_
       intro KS hKS
       go_simp
       refine hKS.out _ _ (fun h => absurd h (by decide)) ?_
       clear hKS KS
       refine wpTx_done rfl (by kernel_rfl) ?_
       have hO9 := owns_set (owns_but hOr hS0 (fun _ _ h => h)) (l.length * 5 + 4) (.int .i64 n)
       have hB9 : But (fun k => k = b ∨ (Value.slice ao l.length cap).ownBlock = some k) w (wr.drew.setCell ⟨gq, l.length * 5 + 4, none⟩ (.int .i64 n)) := (hBr.next hS0 (fun _ _ h => h.elim)).next (But.setB _ _ _ _) (fun k hk h => by
        rcases hfr gq rfl with h' | h'
        ·exact Or.inr (h ▸ h')
        ·omega)
       have hR9 := (hRr.but hS0 (fun h => h)).but (But.setB wr.drew gq (l.length * 5 + 4) (.int .i64 n)) (fun h => hbq h.symm)
       go_wp2_with fail
       go_end0
       exact ⟨rfl, hB9, ⟨i', _, _, n, _, _, hR9, hO9, hfr, by omega, hn2, Or.inr ⟨rfl, by rcases HFN.out with ⟨h, _⟩ | h; (cases h); exact h.2⟩⟩⟩
     ·have hlI : ¬ (jj : Int) < (ar : Int) := by omega
      have HFN := hid (HI.out.fin HAE.out.symm (Or.inr hlt) HRR.out)
      clear HI
      obtain ⟨gq, hao, hgq1, hgq2, hcq⟩ := owns_two hOr (by omega)
      have hcn : cells.length = n * 5 := hOr.1
      have hk5 : l.length * 5 + 4 < cells.length := by omega
      have v9 := hcq _ _ (List.getElem?_eq_getElem hk5)
      subst hao
      have fz9 := owns_fz hOr (l.length * 5 + 4)
      clear hcq
      have hidx : (l.length : Int) < (n : Int) := by omega
      have hidx0 : ¬ (l.length : Int) < 0 := by omega
      have hbq : gq ≠ b := fun h => ownsApart hOr hRr (by decide) (by rw [← h]; rfl)
      go_wp2_with fail
      have hS0 : But (fun _ => False) wr wr.drew := But.drew _ _
      refine wpTx_begin (But (fun _ => False) wr) 10 (by kernel_rfl) ?_
      iterate 10 (refine wpTx_take (v := ?_) rfl (by kernel_rfl) (fun _ _ _ h => h) rfl hS0 ?_ ?_; rotate_left; (focus (intro wS h; have q0 := ((h.cell (p := ⟨b, 6, none⟩) bltr (fun h => h)).trans k6); clear h; go_simp; try rfl)); dsimp only [Act.put]; try simp only [puts])
      refine wpTx_step rfl (by kernel_rfl) ?_
      intro KS hKS
      go_simp
      refine hKS.out _ _ (fun h => absurd h (by decide)) ?_
      clear hKS KS
      refine wpTx_step rfl (by kernel_rfl) ?_
      intro KS hKS
      go_simp
      refine hKS.out _ _ (fun h => absurd h (by decide)) ?_
      clear hKS KS
      have v9d := (hS0.cell (p := ⟨gq, l.length * 5 + 4, none⟩) hgq1 (fun h => h)).trans v9
      have fz9d := (hS0.frozen (p := ⟨gq, l.length * 5 + 4, none⟩) hgq1 (fun h => h)).trans fz9
      refine wpTx_step rfl (by kernel_rfl) ?_
      intro KS hKS
      go_simp
      refine hKS.out _ _ (fun h => absurd h (by decide)) ?_
      clear hKS KS
      refine wpTx_done rfl (by kernel_rfl) ?_
      have hO9 := owns_set (owns_but hOr hS0 (fun _ _ h => h)) (l.length * 5 + 4) (.int .i64 n)
      have hB9 : But (fun k => k = b ∨ (Value.slice ao l.length cap).ownBlock = some k) w (wr.drew.setCell ⟨gq, l.length * 5 + 4, none⟩ (.int .i64 n)) := (hBr.next hS0 (fun _ _ h => h.elim)).next (But.setB _ _ _ _) (fun k hk h => by
       rcases hfr gq rfl with h' | h'
       ·exact Or.inr (h ▸ h')
       ·omega)
      have hR9 := (hRr.but hS0 (fun h => h)).but (But.setB wr.drew gq (l.length * 5 + 4) (.int .i64 n)) (fun h => hbq h.symm)
      go_wp2_with fail
      go_end0
      exact ⟨rfl, hB9, ⟨i', _, _, n, _, _, hR9, hO9, hfr, by omega, hn2, HFN.out⟩⟩
   ·try subst hdy
    go_wp2_with (at_builtin; refine wpList_append_lies _ rfl _ _ _ rfl tb 147 i0 _ 5 40 Tryz.underlying50 hi0 hz0 hz1 hz2 rfl (by omega) _ l.length (ndCells l) rfl (hT3.alloc _) ⟨w3.heap.size, 0, none⟩ 1 1 [.int .u8 (pk s i).toNat, .int .i64 x, .int .i64 d, .int .i64 i, .int .i64 0] rfl rfl (World.news_of_block (cs := #[.int .u8 (pk s i).toNat, .int .i64 x, .int .i64 d, .int .i64 i, .int .i64 0]) (t := 147) (fr := (0, 0)) (heap_alloc_new w3 _)) (by simp [Value.oneCell']) (by omega) (by unfold maxLen; omega) (by omega) (by simp; omega) (w3.heap.size + 1) (by simp) ?_)
    intro gg cap2 w4 hown2 hgrow hat hlt2
    have hSW : But (fun k => (Value.slice ao l.length cap).ownBlock = some k) w3 w4 := (But.alloc _ _ _).trans (but_grown hgrow)
    have y0 := (hSW.cell (p := ⟨b, 6, none⟩) blt3 ab).trans e6
    have y1 := (hSW.frozen (p := ⟨b, 6, none⟩) blt3 ab).trans q6
    have hR4 := hR3.but hSW ab
    have hgg := owns_ge hown2 gg rfl
    have hB5 : But (fun k => k = b ∨ (Value.slice ao l.length cap).ownBlock = some k) w (w4.setCell ⟨b, 6, none⟩ (.slice (some ⟨gg, 0, none⟩) (l.length + 1) cap2)) := ((hBw3.mono (fun k _ h => Or.inl h)).trans (hSW.mono (fun k _ h => Or.inr h))).trans ((But.setB _ _ _ _).mono (fun k _ h => Or.inl h))
    have hR5 := hR4.set6 (.slice (some ⟨gg, 0, none⟩) (l.length + 1) cap2)
    have hO5 := owns_but hown2 (But.setB w4 b 6 (.slice (some ⟨gg, 0, none⟩) (l.length + 1) cap2)) (fun g hg h => by have := owns_ge hown2 g hg; omega)
    have hfr5 : ∀ g, (Value.slice (some ⟨gg, 0, none⟩) (l.length + 1) cap2).ownBlock = some g → (Value.slice ao l.length cap).ownBlock = some g ∨ w.heap.size ≤ g := by
     intro g hg
     simp [Value.ownBlock] at hg
     subst hg
     rcases hat with h | h
     ·exact Or.inl h
     ·exact Or.inr (by omega)
    have hz4 := hSW.size
    clear e6 q6 hgrow hat
    go_wp2_with fail
    revert hB5 hR5 hO5
    generalize (w4.setCell ⟨b, 6, none⟩ (.slice (some ⟨gg, 0, none⟩) (l.length + 1) cap2)) = W5
    intro hB5 hR5 hO5
    have hz5 := hB5.size
    refine (HAR.out W5).mono ?_
    rintro en w6 ⟨rfl, hw6⟩
    rw [hw6]
    clear hw6 w6 HAR y0 y1 hSW hR4 hown2
    go_wp2_with fail
    go_loopg [11] ar (fun mm js wr => ∃ (jj i' : Nat) (bad' : Bool) (ao' : Option Addr) (n cap' : Nat) (cells : List Value), js = .int .i64 jj ∧ jj ≤ ar ∧ jj + mm ≤ ar ∧ ar ≤ jj + mm ∧ RdB wr b s i' bad' src bi vc (.slice ao' n cap') ∧ wr.ownsRow tb 147 5 (.slice ao' n cap') n cells ∧ (∀ g, (Value.slice ao' n cap').ownBlock = some g → (Value.slice ao l.length cap).ownBlock = some g ∨ w.heap.size ≤ g) ∧ l.length + 1 ≤ n ∧ n ≤ 24 ∧ But (fun k => k = b ∨ (Value.slice ao l.length cap).ownBlock = some k) w wr ∧ Hid (NodI s cs gs.length nl F i l R ar jj n cells i' bad'))
    case atStart => exact ⟨0, j, bad2, _, l.length + 1, cap2, _, rfl, by omega, by omega, by omega, hR5, hO5, hfr5, by omega, by omega, hB5, HST⟩
    case round =>
     obtain ⟨jj, i', bad', ao', n, cap', cells, rfl, hj1, hj2, hj3, hRr, hOr, hfr, hn1, hn2, hBr, HI⟩ := hrel
     clear hj2
     have k2 := hRr.c2
     have k6 := hRr.c6
     have bltr := hRr.lt
     have hzr := hBr.size
     by_cases hlt : jj < ar
     ·have hlI : (jj : Int) < (ar : Int) := by omega
      cases bad' with
      | false =>
       obtain ⟨l', hnl', hcl', hnx⟩ := HI.out.next hlt hlf
       have HNX := hid hnx
       have hHr : Heads wr base top bi cs gs v2 := hH.but hBr (fun h => by
        rcases h with h | h
        ·exact hbi h.symm
        ·have := owns_ge hT _ h; omega) (fun k h => by
        rcases h with h | h
        ·omega
        ·have := owns_ge hT _ h; omega)
       have HC := hid (IH.out (24 - n) i' (.slice ao' n cap') l' wr (by omega) (by omega) hRr (by unfold TrB; rw [← hnl', ← hcl']; exact hOr) (by omega) hHr)
       have HNL := hid hnl'
       clear hnx hHr HI hcl'
       go_wp2_with fail
       refine HC.out.mono ?_
       rintro en w7 ⟨rfl, hB7, HQ7⟩
       obtain ⟨j7, bad7, ao7, n7, cap7, cells7, hR7, hO7, hfr7, hl7, hn7, hq7⟩ := HQ7
       have HI7 := hid (HNX.out n7 cells7 j7 bad7 hq7)
       have hBw7 : But (fun k => k = b ∨ (Value.slice ao l.length cap).ownBlock = some k) w w7 := hBr.next hB7 (fun k hk h => by
        rcases h with h | h
        ·exact Or.inl h
        ·rcases hfr k h with h | h
         ·exact Or.inr h
         ·omega)
       have hfr7' : ∀ g, (Value.slice ao7 n7 cap7).ownBlock = some g → (Value.slice ao l.length cap).ownBlock = some g ∨ w.heap.size ≤ g := fun g hg => by
        rcases hfr7 g hg with h | h
        ·exact hfr g h
        ·exact Or.inr (by omega)
       have hn7' : l.length + 1 ≤ n7 := by have := HNL.out; omega
       clear hq7 HNX HC
       go_wp2_with fail
       go_roundg (ar - (jj + 1))
       case measure => omega
       case rel => exact ⟨jj + 1, j7, bad7, ao7, n7, cap7, cells7, by simp, by omega, by omega, by omega, hR7, hO7, hfr7', hn7', hn7, hBw7, HI7⟩
      | true =>
       have HFN := hid (HI.out.fin HAE.out.symm (Or.inl rfl) HRR.out)
       clear HI
       obtain ⟨gq, hao, hgq1, hgq2, hcq⟩ := owns_two hOr (by omega)
       have hcn : cells.length = n * 5 := hOr.1
       have hk5 : l.length * 5 + 4 < cells.length := by omega
       have v9 := hcq _ _ (List.getElem?_eq_getElem hk5)
       subst hao
       have fz9 := owns_fz hOr (l.length * 5 + 4)
       clear hcq
       have hidx : (l.length : Int) < (n : Int) := by omega
       have hidx0 : ¬ (l.length : Int) < 0 := by omega
       have hbq : gq ≠ b := fun h => ownsApart hOr hRr (by decide) (by rw [← h]; rfl)
       go_wp2_with fail
       have hS0 : But (fun _ => False) wr wr.drew := But.drew _ _
       refine wpTx_begin (But (fun _ => False) wr) 10 (by kernel_rfl) ?_
       iterate 10 (refine wpTx_take (v := ?_) rfl (by kernel_rfl) (fun _ _ _ h => h) rfl hS0 ?_ ?_; rotate_left; (focus (intro wS h; have q0 := ((h.cell (p := ⟨b, 6, none⟩) bltr (fun h => h)).trans k6); clear h; go_simp; try rfl)); dsimp only [Act.put]; try simp only [puts])
       refine wpTx_step rfl (by kernel_rfl) ?_
       intro KS hKS
       go_simp
       refine hKS.out _ _ (fun h => absurd h (by decide)) ?_
       clear hKS KS
       refine wpTx_step rfl (by kernel_rfl) ?_
       intro KS hKS
       go_simp
       refine hKS.out _ _ (fun h => absurd h (by decide)) ?_
       clear hKS KS
       have v9d := (hS0.cell (p := ⟨gq, l.length * 5 + 4, none⟩) hgq1 (fun h => h)).trans v9
       have fz9d := (hS0.frozen (p := ⟨gq, l.length * 5 + 4, none⟩) hgq1 (fun h => h)).trans fz9
       refine wpTx_step rfl (by kernel_rfl) ?_
       intro KS hKS
       go_simp
       refine hKS.out _ _ (fun h => absurd h (by decide)) ?_
       clear hKS KS
       refine wpTx_done rfl (by kernel_rfl) ?_
       have hO9 := owns_set (owns_but hOr hS0 (fun _ _ h => h)) (l.length * 5 + 4) (.int .i64 n)
       have hB9 : But (fun k => k = b ∨ (Value.slice ao l.length cap).ownBlock = some k) w (wr.drew.setCell ⟨gq, l.length * 5 + 4, none⟩ (.int .i64 n)) := (hBr.next hS0 (fun _ _ h => h.elim)).next (But.setB _ _ _ _) (fun k hk h => by
        rcases hfr gq rfl with h' | h'
        ·exact Or.inr (h ▸ h')
        ·omega)
       have hR9 := (hRr.but hS0 (fun h => h)).but (But.setB wr.drew gq (l.length * 5 + 4) (.int .i64 n)) (fun h => hbq h.symm)
       go_wp2_with fail
       go_end0
       exact ⟨rfl, hB9, ⟨i', _, _, n, _, _, hR9, hO9, hfr, by omega, hn2, Or.inr ⟨rfl, by rcases HFN.out with ⟨h, _⟩ | h; (cases h); exact h.2⟩⟩⟩
     ·have hlI : ¬ (jj : Int) < (ar : Int) := by omega
      have HFN := hid (HI.out.fin HAE.out.symm (Or.inr hlt) HRR.out)
      clear HI
      obtain ⟨gq, hao, hgq1, hgq2, hcq⟩ := owns_two hOr (by omega)
      have hcn : cells.length = n * 5 := hOr.1
      have hk5 : l.length * 5 + 4 < cells.length := by omega
      have v9 := hcq _ _ (List.getElem?_eq_getElem hk5)
      subst hao
      have fz9 := owns_fz hOr (l.length * 5 + 4)
      clear hcq
      have hidx : (l.length : Int) < (n : Int) := by omega
      have hidx0 : ¬ (l.length : Int) < 0 := by omega
      have hbq : gq ≠ b := fun h => ownsApart hOr hRr (by decide) (by rw [← h]; rfl)
      go_wp2_with fail
      have hS0 : But (fun _ => False) wr wr.drew := But.drew _ _
      refine wpTx_begin (But (fun _ => False) wr) 10 (by kernel_rfl) ?_
      iterate 10 (refine wpTx_take (v := ?_) rfl (by kernel_rfl) (fun _ _ _ h => h) rfl hS0 ?_ ?_; rotate_left; (focus (intro wS h; have q0 := ((h.cell (p := ⟨b, 6, none⟩) bltr (fun h => h)).trans k6); clear h; go_simp; try rfl)); dsimp only [Act.put]; try simp only [puts])
      refine wpTx_step rfl (by kernel_rfl) ?_
      intro KS hKS
      go_simp
      refine hKS.out _ _ (fun h => absurd h (by decide)) ?_
      clear hKS KS
      refine wpTx_step rfl (by kernel_rfl) ?_
      intro KS hKS
      go_simp
      refine hKS.out _ _ (fun h => absurd h (by decide)) ?_
      clear hKS KS
      have v9d := (hS0.cell (p := ⟨gq, l.length * 5 + 4, none⟩) hgq1 (fun h => h)).trans v9
      have fz9d := (hS0.frozen (p := ⟨gq, l.length * 5 + 4, none⟩) hgq1 (fun h => h)).trans fz9
      refine wpTx_step rfl (by kernel_rfl) ?_
      intro KS hKS
      go_simp
      refine hKS.out _ _ (fun h => absurd h (by decide)) ?_
      clear hKS KS
      refine wpTx_done rfl (by kernel_rfl) ?_
      have hO9 := owns_set (owns_but hOr hS0 (fun _ _ h => h)) (l.length * 5 + 4) (.int .i64 n)
      have hB9 : But (fun k => k = b ∨ (Value.slice ao l.length cap).ownBlock = some k) w (wr.drew.setCell ⟨gq, l.length * 5 + 4, none⟩ (.int .i64 n)) := (hBr.next hS0 (fun _ _ h => h.elim)).next (But.setB _ _ _ _) (fun k hk h => by
       rcases hfr gq rfl with h' | h'
       ·exact Or.inr (h ▸ h')
       ·omega)
      have hR9 := (hRr.but hS0 (fun h => h)).but (But.setB wr.drew gq (l.length * 5 + 4) (.int .i64 n)) (fun h => hbq h.symm)
      go_wp2_with fail
      go_end0
      exact ⟨rfl, hB9, ⟨i', _, _, n, _, _, hR9, hO9, hfr, by omega, hn2, HFN.out⟩⟩
end
end Go.Proofs.YtpfkkmacakjmbaaGreatDoor
