import Derived.Test.YtpfkkmacakjmbaaGreatDoorP25
import Derived.Test.YtpfkkmacakjmbaaGreatDoorP12
import Derived.Test.YtpfkkmacakjmbaaGreatDoorP24
import Derived.Test.YtpfkkmacakjmbaaGreatDoorP22
set_option maxRecDepth 100000
set_option maxHeartbeats 6400000
namespace Go.Proofs.YtpfkkmacakjmbaaGreatDoor
open Go Go.RowKit Sp
set_option linter.unusedSimpArgs false
set_option linter.unusedVariables false
theorem full_at : ∀ {t : List Ins} {m : Nat}, full m t → ∀ i, i < t.length → ∃ m', full (m' + 1) (t.drop i) := by
 intro t
 induction t with
 | nil => intro m _ i h; simp at h
 | cons x t ih =>
  intro m h i hi
  cases m with
  | zero => cases h
  | succ m =>
   cases i with
   | zero => exact ⟨m, h⟩
   | succ i => exact ih (m := m + arity x.op) h i (by simpa using hi)
theorem ptsL_len {t : List Ins} : ∀ {j m k : Nat}, full (m + j) (t.drop k) → (ptsL t j k).length = j := by
 intro j
 induction j with
 | zero => intro m k _; rfl
 | succ j ih =>
  intro m k h
  have h0 := full_pos (m := m + j) (by rw [show m + j + 1 = m + (j + 1) from by omega]; exact h)
  rw [List.length_drop] at h0
  have h1 := full_drop (u := t.drop k) (m := m + j) (by rw [show 1 + (m + j) = m + (j + 1) from by omega]; exact h)
  rw [List.drop_drop] at h1
  simp only [ptsL, show k < t.length from by omega, if_true, List.length_cons]
  rw [ih (m := m) (k := endN t k) h1]
theorem ptsN_len {t : List Ins} (hf : full 1 t) {i : Nat} {x : Ins} (hx : t[i]? = some x) : (ptsN t i).length = arity x.op := by
 obtain ⟨hl, hg⟩ := List.getElem?_eq_some_iff.1 hx
 obtain ⟨m, hm⟩ := full_at hf i hl
 rw [List.drop_eq_getElem_cons hl, hg] at hm
 have hm' : full (m + arity x.op) (t.drop (i + 1)) := hm
 unfold ptsN
 rw [hx]
 exact ptsL_len hm'
theorem ptsL_mem {t : List Ins} : ∀ {j k : Nat}, ∀ q ∈ ptsL t j k, k ≤ q ∧ q < t.length := by
 intro j
 induction j with
 | zero => intro k q h; simp [ptsL] at h
 | succ j ih =>
  intro k q h
  unfold ptsL at h
  split at h
  ·rename_i hk
   rcases List.mem_cons.1 h with rfl | h
   ·exact ⟨Nat.le_refl _, hk⟩
   ·have h1 := ih q h
    have h2 := endN_gt hk
    exact ⟨by omega, h1.2⟩
  ·simp at h
theorem ptsN_mem {t : List Ins} {i q : Nat} (h : q ∈ ptsN t i) : i < q ∧ q < t.length := by
 unfold ptsN at h
 split at h
 ·have := ptsL_mem q h
  exact ⟨by omega, this.2⟩
 ·simp at h
section
variable {cs : List Cls} {gs : List Sig} {lo : List UInt8} {t : List Ins}
theorem partsT_same {f g : Nat → Option UInt8} : ∀ {n k : Nat}, (∀ q, k ≤ q → q < t.length → f q = g q) → (∀ q, t.length ≤ q → f q = none ∧ g q = none) → partsT t f n k = partsT t g n k := by
 intro n
 induction n with
 | zero => intro k _ _; rfl
 | succ n ih =>
  intro k h1 h2
  unfold partsT
  rcases Nat.lt_or_ge k t.length with hk | hk
  ·rw [h1 k (Nat.le_refl _) hk, ih (fun q hq => h1 q (by have := endN_gt hk; omega)) h2]
  ·rw [(h2 k hk).1, (h2 k hk).2]
theorem typN_out {F q : Nat} (h : t.length ≤ q) : typN cs gs lo t F q = none := by
 cases F with
 | zero => rfl
 | succ F => simp [typN, List.getElem?_eq_none h]
theorem typN_fuel : ∀ {F G k : Nat}, t.length - k ≤ F → t.length - k ≤ G → typN cs gs lo t F k = typN cs gs lo t G k := by
 intro F
 induction F with
 | zero => intro G k h1 _; rw [typN_out (by omega), typN_out (by omega)]
 | succ F ih =>
  intro G k h1 h2
  cases G with
  | zero => rw [typN_out (by omega), typN_out (by omega)]
  | succ G =>
   have hp : ∀ n, partsT t (typN cs gs lo t F) n (k + 1) = partsT t (typN cs gs lo t G) n (k + 1) := fun n =>
    partsT_same (fun q hq hl => ih (by omega) (by omega)) (fun q hq => ⟨typN_out hq, typN_out hq⟩)
   simp only [typN, hp]
theorem typN_step {k : Nat} {x : Ins} (hx : t[k]? = some x) : typN cs gs lo t t.length k = match partsT t (typN cs gs lo t t.length) (arity x.op) (k + 1) with
  | none => none
  | some ts => nodeT cs gs lo x ts := by
 have hl := (List.getElem?_eq_some_iff.1 hx).1
 obtain ⟨n, hn⟩ : ∃ n, t.length = n + 1 := ⟨t.length - 1, by omega⟩
 have h1 : typN cs gs lo t t.length k = typN cs gs lo t (n + 1) k := by rw [hn]
 rw [h1]
 have hp : partsT t (typN cs gs lo t n) (arity x.op) (k + 1) = partsT t (typN cs gs lo t t.length) (arity x.op) (k + 1) :=
  partsT_same (fun q hq hl => typN_fuel (by omega) (by omega)) (fun q hq => ⟨typN_out hq, typN_out hq⟩)
 simp only [typN, hx, hp]
 cases partsT t (typN cs gs lo t t.length) (arity x.op) (k + 1) <;> rfl
theorem partsT_map {ty : Nat → UInt8} : ∀ {n k : Nat}, (ptsL t n k).length = n → (∀ q ∈ ptsL t n k, typN cs gs lo t t.length q = some (ty q)) → partsT t (typN cs gs lo t t.length) n k = some ((ptsL t n k).map ty) := by
 intro n
 induction n with
 | zero => intro k _ _; rfl
 | succ n ih =>
  intro k hl h
  unfold ptsL at hl h ⊢
  split at hl
  ·rename_i hk
   rw [if_pos hk] at h ⊢
   unfold partsT
   rw [h k (by simp), ih (by simpa using hl) (fun q hq => h q (by simp [hq]))]
   rfl
  ·simp at hl
theorem typN_in : ∀ {F k : Nat}, t.length - k ≤ F → typN cs gs lo t t.length k ≠ none → ∀ j, k ≤ j → j < endN t k → typN cs gs lo t t.length j ≠ none := by
 intro F
 induction F with
 | zero => intro k hF h j _ _; exact absurd (typN_out (by omega)) h
 | succ F ih =>
  intro k hF h j h1 h2
  rcases Nat.eq_or_lt_of_le h1 with rfl | h1
  ·exact h
  ·have hl : k < t.length := by
    rcases Nat.lt_or_ge k t.length with hl | hl
    ·exact hl
    ·exact absurd (typN_out hl) h
   have hx := List.getElem?_eq_getElem hl
   rw [typN_step hx] at h
   rw [endN_cons hx] at h2
   have hp : ∀ n p, k < p → partsT t (typN cs gs lo t t.length) n p ≠ none → ∀ j, p ≤ j → j < p + sk n (t.drop p) → typN cs gs lo t t.length j ≠ none := by
    intro n
    induction n with
    | zero => intro p _ _ j a1 a2; rw [sk_zero] at a2; omega
    | succ n ihn =>
     intro p hkp hpt j a1 a2
     rw [sk_step] at a2
     have hT : typN cs gs lo t t.length p ≠ none := fun h0 => hpt (by simp [partsT, h0])
     rcases Nat.lt_or_ge j (endN t p) with hj | hj
     ·exact ih (k := p) (by omega) hT j a1 hj
     ·refine ihn (endN t p) ?_ ?_ j hj a2
      ·have : p < t.length := by
        rcases Nat.lt_or_ge p t.length with hl | hl
        ·exact hl
        ·exact absurd (typN_out hl) hT
       have := endN_gt this
       omega
      ·intro h0
       apply hpt
       unfold partsT
       cases typN cs gs lo t t.length p <;> simp [h0]
   refine hp (arity t[k].op) (k + 1) (by omega) ?_ j (by omega) h2
   intro h0
   rw [h0] at h
   exact h rfl
theorem typN_all (hf : full 1 t) (h : typN cs gs lo t t.length 0 ≠ none) : ∀ j, j < t.length → typN cs gs lo t t.length j ≠ none := by
 intro j hj
 refine typN_in (F := t.length) (by omega) h j (Nat.zero_le _) ?_
 unfold endN
 rw [List.drop_zero]
 have := full_sk (v := []) hf
 rw [List.append_nil] at this
 omega
end
end Go.Proofs.YtpfkkmacakjmbaaGreatDoor
namespace Go.Proofs.YtpfkkmacakjmbaaGreatDoor
open Go Go.RowKit Sp
set_option linter.unusedSimpArgs false
set_option linter.unusedVariables false
attribute [local go_sem ↓] Go.wp_at_zero Go.wp_at_succ
def nodeX (cs : List XCls) (ms : List Sig) (lo : List UInt8) (y : Ins) (ps : List UInt8) : Option UInt8 :=
 if accX cs (asksX cs ms lo (toXN y).op (toXN y).cls (toXN y).num) ps = true ∧ (typX cs ms lo (toXN y).op (toXN y).cls (toXN y).num ps).toNat ≠ 45 then some (typX cs ms lo (toXN y).op (toXN y).cls (toXN y).num ps) else none
def stepX (cs : List XCls) (ms : List Sig) (lo : List UInt8) (is : List Ins) (i : Nat) (ty : List UInt8) : Option (List UInt8) := match is[i]? with
 | none => none
 | some y => (nodeX cs ms lo y ((ptsN is i).map (tatX ty))).map fun c => ty.set i c
def runX (cs : List XCls) (ms : List Sig) (lo : List UInt8) (is : List Ins) : Nat → List UInt8 → Option (List UInt8)
 | 0, ty => some ty
 | q + 1, ty => match stepX cs ms lo is q ty with
  | none => none
  | some ty' => runX cs ms lo is q ty'
def endX (cs : List XCls) (r : UInt8) : Option (List UInt8) → Bool
 | none => false
 | some ty => fitsX cs (tatX ty 0) r
def hasX (cs : List XCls) (ms : List Sig) (lo : List UInt8) (is : List Ins) (r : UInt8) : Bool := endX cs r (runX cs ms lo is is.length (List.replicate is.length 0))
theorem ptsL_le (t : List Ins) : ∀ n k, (ptsL t n k).length ≤ n := by
 intro n
 induction n with
 | zero => intro k; simp [ptsL]
 | succ n ih =>
  intro k
  unfold ptsL
  split
  ·have := ih (endN t k); simp; omega
  ·simp
theorem ptsN_le (t : List Ins) (k : Nat) : (ptsN t k).length ≤ 3 := by
 unfold ptsN
 split
 ·rename_i x _
  have h := ptsL_le t (arity x.op) (k + 1)
  have : arity x.op ≤ 3 := by unfold arity; split; omega; split; omega; split <;> omega
  omega
 ·simp
theorem asksX_len (cs : List XCls) (ms : List Sig) (lo : List UInt8) (c k : UInt8) (n : Nat) : (asksX cs ms lo c k n).length ≤ 2 := by
 unfold asksX takesX
 repeat' split
 all_goals simp
theorem made_u8 (n : Nat) : madeCells #[.int .u8 0] n = (btCells (List.replicate n 0)).toArray := by
 apply Array.ext
 ·rw [size_madeCells]; simp [btCells]
 ·intro k h1 h2
  have e : k % 1 = 0 := by omega
  simp [madeCells, e, btCells]
theorem make_u8 (n : Nat) (hn : n ≤ 1000) (w : World) : (Instr.makeSlice 112 (.int .i64 (n : Int)) (.int .i64 (n : Int))).run Tryz.prog w = .ok (.slice (some ⟨w.heap.size, 0, none⟩) n n) (w.alloc (.cells (btCells (List.replicate n 0)).toArray 5)) := by
 have hinf := info_u8
 cases hi : Tryz.prog.info? 5 with
 | none => rw [hi] at hinf; cases hinf
 | some i =>
  rw [hi] at hinf
  simp only [Option.map_some, Option.some.injEq, Prod.mk.injEq] at hinf
  obtain ⟨hz, hs, hb⟩ := hinf
  have := run_make (P := Tryz.prog) w 112 5 i _ (by kernel_rfl) hi hz .i64 .i64 n n (by omega) (by omega) (by rw [hb]; omega) (by omega)
  rw [this, hs]
  simp only [Int.toNat_natCast, Value.cells, Nat.mul_one]
  rw [made_u8]
section
variable (b : Nat) (cs : List XCls) (ms : List Sig) (c0 : UInt8) (m0 : Nat) (r0 : UInt8) (al ai : Option Addr) (capl capi : Nat) (lo : List UInt8) (its : List XIt) (is : List Ins) (w : World)
theorem xhasType_any (hn : cs.length ≤ 100) (hm : ms.length ≤ 100) (hlen : its.length ≤ 24) (hT : TxC w b cs) (hM : TxM w b ms) (hB : BtB w 0 (.slice al lo.length capl) lo) (hI : ItB w 0 (.slice ai its.length capi) its) (hN : ItsN w 0 its is) :
  Calls Tryz.prog 91 #[.pointer (some ⟨b, 0, none⟩), hdV c0 m0 r0 (.slice al lo.length capl) (.slice ai its.length capi)] w fun en w' => But (fun _ => False) w w' ∧ en = .returned (.bool (hasX cs ms lo is r0)) := by
 obtain ⟨R, hRR⟩ : ∃ R, hasX cs ms lo is r0 = R := ⟨_, rfl⟩
 rw [hRR]
 have hnl := hN.len
 have hmk := make_u8 its.length (by omega)
 have HRR : Hid (endX cs r0 (runX cs ms lo is its.length (List.replicate its.length 0)) = R) := by rw [hnl]; exact hid hRR
 have HNL := hid hnl
 clear hRR hnl
 unfold hdV
 have hBb : But (fun _ => False) w (w.alloc (.cells #[.int .u8 c0.toNat, .int .i64 m0, .int .u8 r0.toNat, .slice al lo.length capl, .slice ai its.length capi] 115)) := But.alloc _ _ _
 have hgb : (w.alloc (.cells #[.int .u8 c0.toNat, .int .i64 m0, .int .u8 r0.toNat, .slice al lo.length capl, .slice ai its.length capi] 115)).heap[w.heap.size]? = some (.cells #[.int .u8 c0.toNat, .int .i64 m0, .int .u8 r0.toNat, .slice al lo.length capl, .slice ai its.length capi] 115) := heap_alloc_new _ _
 go_enter Tryz.func91, Tryz.ntmps91
 go_wp2_with fail
 have hze : (w.alloc (.cells #[.int .u8 c0.toNat, .int .i64 m0, .int .u8 r0.toNat, .slice al lo.length capl, .slice ai its.length capi] 115)).heap.size = w.heap.size + 1 := by simp
 generalize (w.alloc (.cells #[.int .u8 c0.toNat, .int .i64 m0, .int .u8 r0.toNat, .slice al lo.length capl, .slice ai its.length capi] 115)) = w1 at *
 have hW2 : (w1.alloc (.cells (btCells (List.replicate its.length 0)).toArray 5)).ownsRow (w.heap.size + 1) 5 1 (.slice (some ⟨w.heap.size + 1, 0, none⟩) its.length its.length) its.length (btCells (List.replicate its.length 0)) := by
  have h := BtB.lit w1 (w.heap.size + 1) (by omega) (List.replicate its.length 0) (by simp; omega)
  rw [hze] at h
  unfold BtB at h
  simp only [List.length_replicate] at h
  exact h
 have hB2 : But (fun _ => False) w (w1.alloc (.cells (btCells (List.replicate its.length 0)).toArray 5)) := hBb.trans (But.alloc _ _ _)
 have hg2 := ((But.alloc (fun _ => False) w1 (.cells (btCells (List.replicate its.length 0)).toArray 5)).block _ (lt_of_block hgb) (fun h => h)).trans hgb
 have hz2 : (w1.alloc (.cells (btCells (List.replicate its.length 0)).toArray 5)).heap.size = w.heap.size + 2 := by simp; omega
 generalize (w1.alloc (.cells (btCells (List.replicate its.length 0)).toArray 5)) = w2 at *
 clear hmk hBb hgb
 go_loopg [6] its.length (fun mm js wr => ∃ (v : Int) (q : Nat) (ty : List UInt8), js = .int .i64 v ∧ v = (q : Int) - 1 ∧ q ≤ its.length ∧ q ≤ mm ∧ mm ≤ q ∧ wr.ownsRow (w.heap.size + 1) 5 1 (.slice (some ⟨w.heap.size + 1, 0, none⟩) its.length its.length) its.length (btCells ty) ∧ But (fun _ => False) w wr ∧ w.heap.size + 1 < wr.heap.size ∧ wr.heap[w.heap.size]? = some (.cells #[.int .u8 c0.toNat, .int .i64 m0, .int .u8 r0.toNat, .slice al lo.length capl, .slice ai its.length capi] 115) ∧ Hid (ty.length = its.length ∧ endX cs r0 (runX cs ms lo is q ty) = R))
 case atStart => exact ⟨_, its.length, _, rfl, rfl, by omega, by omega, by omega, hW2, hB2, by omega, hg2, hid ⟨by simp, HRR.out⟩⟩
 case round =>
  obtain ⟨v, q, ty, rfl, hv, hq1, hq2, hq3, hWr, hBr, hzr, hgr, HI⟩ := hrel
  obtain ⟨k0, k1, k2, k3, k4⟩ := row5 hgr
  have hgl := lt_of_block hgr
  have hTr : BtB wr 0 (.slice (some ⟨w.heap.size + 1, 0, none⟩) ty.length its.length) ty := by
   unfold BtB
   rw [HI.out.1]
   exact World.ownsRow.mono hWr (Nat.zero_le _)
  cases q with
  | zero =>
   have hneg : ¬ (0 : Int) ≤ v := by omega
   have hTA := xtypeAt_any _ _ ty 0 wr.drew (BtB.but hTr (But.drew (fun _ => False) _) (fun _ _ h => h))
   rw [HI.out.1] at hTA
   have HTA := hid hTA
   have HFI := hid (xfits_any b cs (tatX ty 0) r0 wr.drew hn (hT.but (hBr.trans (But.drew _ _))))
   have HE : Hid (fitsX cs (tatX ty 0) r0 = R) := hid HI.out.2
   clear hTA hTr
   go_wp2_with fail
   have hS0 : But (fun _ => False) wr wr.drew := But.drew _ _
   refine wpP_begin (But (fun _ => False) wr) 6 (by kernel_rfl) ?_
   refine wpP_take (k := 0) (v := ?vA0) rfl (by decide) (by kernel_rfl) (fun _ _ _ h => h) rfl hS0 ?yA0 ?rA0
   case yA0 => intro wS h; have q0 := ((h.cell (p := ⟨w.heap.size, 2, none⟩) hgl (fun h => h)).trans k2); clear h; go_simp; try rfl
   dsimp only [Act.put]
   try simp only [puts]
   refine wpP_take (k := 1) (v := ?vA1) rfl (by decide) (by kernel_rfl) (fun _ _ _ h => h) rfl hS0 ?yA1 ?rA1
   case yA1 => intro wS h; have q0 := ((h.cell (p := ⟨w.heap.size, 2, none⟩) hgl (fun h => h)).trans k2); clear h; go_simp; try rfl
   dsimp only [Act.put]
   try simp only [puts]
   refine wpP_take (k := 3) (v := ?vA3) rfl (by decide) (by kernel_rfl) (fun _ _ _ h => h) rfl hS0 ?yA3 ?rA3
   case yA3 => intro wS h; have q0 := ((h.cell (p := ⟨w.heap.size, 2, none⟩) hgl (fun h => h)).trans k2); clear h; go_simp; try rfl
   dsimp only [Act.put]
   try simp only [puts]
   refine wpP_take (k := 4) (v := ?vA4) rfl (by decide) (by kernel_rfl) (fun _ _ _ h => h) rfl hS0 ?yA4 ?rA4
   case yA4 => intro wS h; have q0 := ((h.cell (p := ⟨w.heap.size, 2, none⟩) hgl (fun h => h)).trans k2); clear h; go_simp; try rfl
   dsimp only [Act.put]
   try simp only [puts]
   refine wpP_step (k := 2) rfl (by decide) (by kernel_rfl) ?_
   intro KS hKS
   go_simp
   refine HTA.out.mono ?_
   rintro en wx ⟨rfl, hwx⟩
   rw [hwx]
   clear hwx wx
   refine hKS.out _ _ (fun _ => hS0) ?_
   clear hKS KS
   refine wpP_step (k := 5) rfl (by decide) (by kernel_rfl) ?_
   intro KS hKS
   go_simp
   refine HFI.out.mono ?_
   rintro en wx ⟨rfl, hwx⟩
   rw [hwx, HE.out]
   clear hwx wx
   refine hKS.out _ _ (fun _ => hS0) ?_
   clear hKS KS
   refine wpP_step (k := 6) rfl (by decide) (by kernel_rfl) ?_
   intro KS hKS
   go_simp
   refine hKS.out _ _ (fun h => absurd h (by decide)) ?_
   clear hKS KS
   refine wpP_done rfl (by kernel_rfl) ?_
   go_wp2_with fail
   go_ret
   exact ⟨hBr.trans hS0, rfl⟩
  | succ p =>
   have hvp : v = (p : Int) := by omega
   subst hvp
   clear hv
   have hpl : p < is.length := by rw [← HNL.out]; omega
   obtain ⟨x, hx⟩ : ∃ x, its[p]? = some x := ⟨_, List.getElem?_eq_getElem (by omega)⟩
   have hy := List.getElem?_eq_getElem hpl
   obtain ⟨y, hyy⟩ : ∃ y, is[p] = y := ⟨_, rfl⟩
   rw [hyy] at hy
   obtain ⟨e1, e2, e3, e4, e5⟩ := hN.at' p y x hy hx
   have HE2 := hid e2
   have HE3 := hid e3
   have HE4 := hid e4
   have HY := hid hy
   clear e1 e2 e3 e4 hyy hy
   obtain ⟨g, rfl, hg1, hg2', hcell⟩ := owns_two (owns_but hI hBr (fun _ _ h => h)) (by omega)
   have z0 : wr.cell? ⟨g, p * 5, none⟩ = some (.int .i64 x.place) := hcell _ _ (itCells_at (k := 0) hx (by omega))
   have z1 : wr.cell? ⟨g, p * 5 + 1, none⟩ = some (.int .u8 x.op.toNat) := hcell _ _ (itCells_at (k := 1) hx (by omega))
   have z2 : wr.cell? ⟨g, p * 5 + 2, none⟩ = some (.int .u8 x.cls.toNat) := hcell _ _ (itCells_at (k := 2) hx (by omega))
   have z3 : wr.cell? ⟨g, p * 5 + 3, none⟩ = some (.int .i64 x.num) := hcell _ _ (itCells_at (k := 3) hx (by omega))
   have z4 : wr.cell? ⟨g, p * 5 + 4, none⟩ = some (.slice x.pa x.pn x.pc) := hcell _ _ (itCells_at (k := 4) hx (by omega))
   have hpI : (p : Int) < (its.length : Int) := by omega
   have hp0 : (0 : Int) ≤ (p : Int) := by omega
   have hTO := xtypesOf_any x (ptsN is p) ty _ _ wr (ptsN_le is p) (fun k hk => by have := (ptsN_mem hk).2; have := HNL.out; omega) (owns_but e5 hBr (fun _ _ h => h)) hTr
   rw [HI.out.1] at hTO
   unfold itV at hTO
   have HTO := hid hTO
   clear hTO hcell
   go_wp2_with fail
   refine HTO.out.mono ?_
   rintro en w3 ⟨hB3, a3, c3, rfl, hP3⟩
   clear HTO
   obtain ⟨PS, hPS⟩ : ∃ PS, (ptsN is p).map (tatX ty) = PS := ⟨_, rfl⟩
   have hpsl : (ptsN is p).length = PS.length := by rw [← hPS]; simp
   rw [hPS, hpsl] at hP3
   rw [hpsl]
   have HPS := hid hPS
   clear hPS hpsl
   have hBw3 := hBr.trans hB3
   have hg3 := (hB3.block _ hgl (fun h => h)).trans hgr
   have hgl3 := lt_of_block hg3
   have hg13 : g < w3.heap.size := Nat.lt_of_lt_of_le hg1 hB3.size
   obtain ⟨m0', m1', m2', m3', m4'⟩ := row5 hg3
   have y0 := (hB3.cell (p := ⟨g, p * 5, none⟩) hg1 (fun h => h)).trans z0
   have y1 := (hB3.cell (p := ⟨g, p * 5 + 1, none⟩) hg1 (fun h => h)).trans z1
   have y2 := (hB3.cell (p := ⟨g, p * 5 + 2, none⟩) hg1 (fun h => h)).trans z2
   have y3 := (hB3.cell (p := ⟨g, p * 5 + 3, none⟩) hg1 (fun h => h)).trans z3
   have y4 := (hB3.cell (p := ⟨g, p * 5 + 4, none⟩) hg1 (fun h => h)).trans z4
   clear z0 z1 z2 z3 z4 k0 k1 k2 k3 k4
   have hBd : But (fun _ => False) w w3.drew := hBw3.trans (But.drew _ _)
   have hP4 : BtB w3.drew 0 (.slice a3 PS.length c3) PS := World.ownsRow.mono (BtB.but hP3 (But.drew (fun _ => False) _) (fun _ _ h => h)) (Nat.zero_le _)
   have HAC := hid (xaccepts_any b cs ms c0 m0 r0 al (some ⟨g, 0, none⟩) capl its.length capi lo x w3.drew a3 c3 PS hn hm (hT.but hBd) (hM.but hBd) (BtB.but hB hBd (fun _ _ h => h)) hP4 (by have := asksX_len cs ms lo x.op x.cls x.num; omega))
   unfold hdV itV at HAC
   go_wp2_with fail
   have hS0 : But (fun _ => False) w3 w3.drew := But.drew _ _
   refine wpP_begin (But (fun _ => False) w3) 10 (by kernel_rfl) ?_
   have fSB := hid (fun wS (h : (But (fun _ => False) w3) wS) => (And.intro ((h.cell (p := ⟨w.heap.size, 0, none⟩) hgl3 (fun h => h)).trans m0') (And.intro ((h.cell (p := ⟨w.heap.size, 1, none⟩) hgl3 (fun h => h)).trans m1') (And.intro ((h.cell (p := ⟨w.heap.size, 2, none⟩) hgl3 (fun h => h)).trans m2') (And.intro ((h.cell (p := ⟨w.heap.size, 3, none⟩) hgl3 (fun h => h)).trans m3') (And.intro ((h.cell (p := ⟨w.heap.size, 4, none⟩) hgl3 (fun h => h)).trans m4') (And.intro ((h.cell (p := ⟨g, p * 5, none⟩) hg13 (fun h => h)).trans y0) (And.intro ((h.cell (p := ⟨g, p * 5 + 1, none⟩) hg13 (fun h => h)).trans y1) (And.intro ((h.cell (p := ⟨g, p * 5 + 2, none⟩) hg13 (fun h => h)).trans y2) (And.intro ((h.cell (p := ⟨g, p * 5 + 3, none⟩) hg13 (fun h => h)).trans y3) ((h.cell (p := ⟨g, p * 5 + 4, none⟩) hg13 (fun h => h)).trans y4)))))))))))
   refine wpP_take (k := 0) (v := ?vB0) rfl (by decide) (by kernel_rfl) (fun _ _ _ h => h) rfl hS0 ?yB0 ?rB0
   case yB0 => intro wS h; obtain ⟨q0, q1, q2, q3, q4, q5, q6, q7, q8, q9⟩ := fSB.out wS h; clear h; go_simp; try rfl
   dsimp only [Act.put]
   try simp only [puts]
   refine wpP_take (k := 1) (v := ?vB1) rfl (by decide) (by kernel_rfl) (fun _ _ _ h => h) rfl hS0 ?yB1 ?rB1
   case yB1 => intro wS h; obtain ⟨q0, q1, q2, q3, q4, q5, q6, q7, q8, q9⟩ := fSB.out wS h; clear h; go_simp; try rfl
   dsimp only [Act.put]
   try simp only [puts]
   refine wpP_take (k := 2) (v := ?vB2) rfl (by decide) (by kernel_rfl) (fun _ _ _ h => h) rfl hS0 ?yB2 ?rB2
   case yB2 => intro wS h; obtain ⟨q0, q1, q2, q3, q4, q5, q6, q7, q8, q9⟩ := fSB.out wS h; clear h; go_simp; try rfl
   dsimp only [Act.put]
   try simp only [puts]
   refine wpP_take (k := 3) (v := ?vB3) rfl (by decide) (by kernel_rfl) (fun _ _ _ h => h) rfl hS0 ?yB3 ?rB3
   case yB3 => intro wS h; obtain ⟨q0, q1, q2, q3, q4, q5, q6, q7, q8, q9⟩ := fSB.out wS h; clear h; go_simp; try rfl
   dsimp only [Act.put]
   try simp only [puts]
   refine wpP_take (k := 4) (v := ?vB4) rfl (by decide) (by kernel_rfl) (fun _ _ _ h => h) rfl hS0 ?yB4 ?rB4
   case yB4 => intro wS h; obtain ⟨q0, q1, q2, q3, q4, q5, q6, q7, q8, q9⟩ := fSB.out wS h; clear h; go_simp; try rfl
   dsimp only [Act.put]
   try simp only [puts]
   refine wpP_take (k := 5) (v := ?vB5) rfl (by decide) (by kernel_rfl) (fun _ _ _ h => h) rfl hS0 ?yB5 ?rB5
   case yB5 => intro wS h; obtain ⟨q0, q1, q2, q3, q4, q5, q6, q7, q8, q9⟩ := fSB.out wS h; clear h; go_simp; try rfl
   dsimp only [Act.put]
   try simp only [puts]
   refine wpP_take (k := 6) (v := ?vB6) rfl (by decide) (by kernel_rfl) (fun _ _ _ h => h) rfl hS0 ?yB6 ?rB6
   case yB6 => intro wS h; obtain ⟨q0, q1, q2, q3, q4, q5, q6, q7, q8, q9⟩ := fSB.out wS h; clear h; go_simp; try rfl
   dsimp only [Act.put]
   try simp only [puts]
   refine wpP_take (k := 7) (v := ?vB7) rfl (by decide) (by kernel_rfl) (fun _ _ _ h => h) rfl hS0 ?yB7 ?rB7
   case yB7 => intro wS h; obtain ⟨q0, q1, q2, q3, q4, q5, q6, q7, q8, q9⟩ := fSB.out wS h; clear h; go_simp; try rfl
   dsimp only [Act.put]
   try simp only [puts]
   try clear fSB
   refine wpP_step (k := 8) rfl (by decide) (by kernel_rfl) ?_
   intro KS hKS
   go_simp
   refine HAC.out.mono ?_
   rintro en w4 ⟨hB4, rfl⟩
   have hBw4 := hBd.trans hB4
   have hS4 : But (fun _ => False) w3 w4 := hS0.trans hB4
   refine hKS.out _ _ (fun _ => hS4) ?_
   clear hKS KS
   refine wpP_step (k := 9) rfl (by decide) (by kernel_rfl) ?_
   intro KS hKS
   go_simp
   refine hKS.out _ _ (fun _ => hS4) ?_
   clear hKS KS
   refine wpP_done rfl (by kernel_rfl) ?_
   cases hac : accX cs (asksX cs ms lo x.op x.cls x.num) PS with
   | false =>
    have hres : R = false := by
     have h2 := HI.out.2
     have hst : stepX cs ms lo is p ty = none := by
      simp only [stepX, HY.out, HPS.out, nodeX, ← HE2.out, ← HE3.out, ← HE4.out, hac]
      simp
     rw [← h2]
     simp only [runX, hst, endX]
    subst hres
    clear hac
    go_wp2_with fail
    go_ret
    exact ⟨hBw4, rfl⟩
   | true =>
    have HACC := hid hac
    clear hac
    have hSr : But (fun _ => False) wr w4 := hB3.trans hS4
    have hg4 := (hSr.block _ hgl (fun h => h)).trans hgr
    have hgl4 := lt_of_block hg4
    have hg14 : g < w4.heap.size := Nat.lt_of_lt_of_le hg1 hSr.size
    obtain ⟨n0', n1', n2', n3', n4'⟩ := row5 hg4
    have x0 := (hS4.cell (p := ⟨g, p * 5, none⟩) hg13 (fun h => h)).trans y0
    have x1 := (hS4.cell (p := ⟨g, p * 5 + 1, none⟩) hg13 (fun h => h)).trans y1
    have x2 := (hS4.cell (p := ⟨g, p * 5 + 2, none⟩) hg13 (fun h => h)).trans y2
    have x3 := (hS4.cell (p := ⟨g, p * 5 + 3, none⟩) hg13 (fun h => h)).trans y3
    have x4 := (hS4.cell (p := ⟨g, p * 5 + 4, none⟩) hg13 (fun h => h)).trans y4
    clear y0 y1 y2 y3 y4 m0' m1' m2' m3' m4' HAC
    have hBe : But (fun _ => False) w w4.drew := hBw4.trans (But.drew _ _)
    have hP5 : BtB w4.drew 0 (.slice a3 PS.length c3) PS := BtB.but hP4 (hB4.trans (But.drew _ _)) (fun _ _ h => h)
    have HTY := hid (xtypeOf_any b cs ms c0 m0 r0 al (some ⟨g, 0, none⟩) capl its.length capi lo x w4.drew a3 c3 PS hn hm (hT.but hBe) (hM.but hBe) (BtB.but hB hBe (fun _ _ h => h)) hP5)
    unfold hdV itV at HTY
    obtain ⟨C, hC⟩ : ∃ C, typX cs ms lo x.op x.cls x.num PS = C := ⟨_, rfl⟩
    rw [hC] at HTY
    have HC := hid hC
    clear hC
    go_wp2_with fail
    have hS1 : But (fun _ => False) w4 w4.drew := But.drew _ _
    refine wpTx_begin (But (fun _ => False) w4) 11 (by kernel_rfl) ?_
    have fSC := hid (fun wS (h : (But (fun _ => False) w4) wS) => (And.intro ((h.cell (p := ⟨w.heap.size, 0, none⟩) hgl4 (fun h => h)).trans n0') (And.intro ((h.cell (p := ⟨w.heap.size, 1, none⟩) hgl4 (fun h => h)).trans n1') (And.intro ((h.cell (p := ⟨w.heap.size, 2, none⟩) hgl4 (fun h => h)).trans n2') (And.intro ((h.cell (p := ⟨w.heap.size, 3, none⟩) hgl4 (fun h => h)).trans n3') (And.intro ((h.cell (p := ⟨w.heap.size, 4, none⟩) hgl4 (fun h => h)).trans n4') (And.intro ((h.cell (p := ⟨g, p * 5, none⟩) hg14 (fun h => h)).trans x0) (And.intro ((h.cell (p := ⟨g, p * 5 + 1, none⟩) hg14 (fun h => h)).trans x1) (And.intro ((h.cell (p := ⟨g, p * 5 + 2, none⟩) hg14 (fun h => h)).trans x2) (And.intro ((h.cell (p := ⟨g, p * 5 + 3, none⟩) hg14 (fun h => h)).trans x3) ((h.cell (p := ⟨g, p * 5 + 4, none⟩) hg14 (fun h => h)).trans x4)))))))))))
    iterate 10 (refine wpTx_take (v := ?_) rfl (by kernel_rfl) (fun _ _ _ h => h) rfl hS1 ?_ ?_; rotate_left; (focus (intro wS h; obtain ⟨q0, q1, q2, q3, q4, q5, q6, q7, q8, q9⟩ := fSC.out wS h; clear h; go_simp; try rfl)); dsimp only [Act.put]; try simp only [puts])
    try clear fSC
    refine wpTx_step rfl (by kernel_rfl) ?_
    intro KS hKS
    go_simp
    refine HTY.out.mono ?_
    rintro en w5 ⟨hB5, rfl⟩
    have hS5 : But (fun _ => False) w4 w5 := hS1.trans hB5
    refine hKS.out _ _ (fun _ => hS5) ?_
    clear hKS KS
    have hSr5 := hSr.trans hS5
    have hW5 := owns_but hWr hSr5 (fun _ _ h => h)
    obtain ⟨gq, hgq, hq1', hq2', hcq⟩ := owns_two hW5 (by omega)
    have hgqe : w.heap.size + 1 = gq := by injection hgq with h; injection h with h
    subst hgqe
    have hpt : p < ty.length := by rw [HI.out.1]; omega
    have ct := hcq _ _ (btCells_at hpt)
    have ft := owns_fz hW5 p
    clear hcq hgq
    refine wpTx_step rfl (by kernel_rfl) ?_
    intro KS hKS
    go_simp
    refine hKS.out _ _ (fun h => absurd h (by decide)) ?_
    clear hKS KS
    refine wpTx_step rfl (by kernel_rfl) ?_
    intro KS hKS
    go_simp
    refine hKS.out _ _ (fun h => absurd h (by decide)) ?_
    clear hKS KS
    refine wpTx_done rfl (by kernel_rfl) ?_
    have hW6 := owns_set hW5 p (.int .u8 C.toNat)
    rw [show (btCells ty).set p (.int .u8 C.toNat) = btCells (ty.set p C) from by simp [btCells, List.map_set]] at hW6
    have hB6 : But (fun _ => False) w (w5.setCell ⟨w.heap.size + 1, p, none⟩ (.int .u8 C.toNat)) := (hBr.trans hSr5).next (But.setB _ _ _ _) (fun j hj h => by omega)
    have hg6 := ((But.setB w5 (w.heap.size + 1) p (.int .u8 C.toNat)).block w.heap.size (Nat.lt_of_lt_of_le hgl hSr5.size) (fun h => by omega)).trans ((hSr5.block _ hgl (fun h => h)).trans hgr)
    have hz6 := (But.setB w5 (w.heap.size + 1) p (.int .u8 C.toNat)).size
    have hz5 := hSr5.size
    have HST : Hid (C.toNat ≠ 45 → stepX cs ms lo is p ty = some (ty.set p C)) := hid (fun h => by
     simp only [stepX, HY.out, HPS.out, nodeX, ← HE2.out, ← HE3.out, ← HE4.out, HACC.out, HC.out]
     simp [h])
    have HS0 : Hid (C.toNat = 45 → stepX cs ms lo is p ty = none) := hid (fun h => by
     simp only [stepX, HY.out, HPS.out, nodeX, ← HE2.out, ← HE3.out, ← HE4.out, HACC.out, HC.out]
     simp [h])
    obtain ⟨gq, hgq, hq1', hq2', hcq⟩ := owns_two hW6 (by omega)
    have hgqe : w.heap.size + 1 = gq := by injection hgq with h; injection h with h
    subst hgqe
    have ct6 := hcq _ _ (btCells_at (l := ty.set p C) (k := p) (by simpa using hpt))
    rw [show (ty.set p C).getD p 0 = C from by simp [List.getD, hpt]] at ct6
    clear hcq hgq x0 x1 x2 x3 x4 n0' n1' n2' n3' n4' HTY ct ft
    generalize (w5.setCell ⟨w.heap.size + 1, p, none⟩ (.int .u8 C.toNat)) = w6 at *
    by_cases h45 : C.toNat = 45
    ·have e45 : ((C.toNat : Int) == 45) = true := by rw [beq_iff_eq]; omega
     have hres : R = false := by
      rw [← HI.out.2]
      simp only [runX, HS0.out h45, endX]
     subst hres
     clear h45
     go_wp2_with fail
     go_ret
     exact ⟨hB6, rfl⟩
    ·have e45 : ((C.toNat : Int) == 45) = false := by rw [beq_eq_false_iff_ne]; omega
     have HNX : Hid ((ty.set p C).length = its.length ∧ endX cs r0 (runX cs ms lo is p (ty.set p C)) = R) := by
      refine hid ⟨by rw [List.length_set]; exact HI.out.1, ?_⟩
      rw [← HI.out.2]
      simp only [runX, HST.out h45]
     clear h45
     go_wp2_with fail
     go_roundg p
     case measure => omega
     case rel => exact ⟨_, p, _, rfl, rfl, by omega, by omega, by omega, hW6, hB6, by omega, hg6, HNX⟩
end
end Go.Proofs.YtpfkkmacakjmbaaGreatDoor
namespace Go.Proofs.YtpfkkmacakjmbaaGreatDoor
open Go Go.RowKit Sp
set_option linter.unusedSimpArgs false
set_option linter.unusedVariables false
section
variable {cs : List XCls} {a b c p q : UInt8}
theorem acc0 (ts : List UInt8) : accX cs [] ts = true := by simp [accX]
theorem acc11 : accX cs [p] [a] = suitsX cs a p := by simp [accX, tatX, List.range_succ]
theorem acc12 : accX cs [p] [a, b] = suitsX cs a p := by simp [accX, tatX, List.range_succ]
theorem acc13 : accX cs [p] [a, b, c] = suitsX cs a p := by simp [accX, tatX, List.range_succ]
theorem acc22 : accX cs [p, q] [a, b] = (suitsX cs a p && suitsX cs b q) := by simp [accX, tatX, List.range_succ]
theorem fits11 {cs : List Cls} : fitsT cs [a] [p] = subT cs a p := by simp [fitsT, List.range_succ]
theorem fits22 {cs : List Cls} : fitsT cs [a, b] [p, q] = (subT cs a p && subT cs b q) := by simp [fitsT, List.range_succ]
end
theorem sub_i {cs : List Cls} (a : UInt8) : subT cs a 105 = decide (a.toNat = 105) := by
 unfold subT
 by_cases h : a.toNat = 105
 ·simp [h]
 ·have : isC 105 = false := by decide
  simp [h, this]
section
variable {im : Img}
theorem su_t (hW : WfIS im) {a c : UInt8} (ha : okT im.classes.length a = true) (hc : okT im.classes.length c = true) (h38 : c.toNat ≠ 38) : suitsX (im.classes.map toX) a c = subT im.classes a c := by
 unfold suitsX
 rw [if_neg h38]
 exact fitsX_subT hW.cls hW.nc ha hc
theorem su_i (hW : WfIS im) {a : UInt8} (ha : okT im.classes.length a = true) : suitsX (im.classes.map toX) a 105 = decide (a.toNat = 105) := by
 rw [su_t hW ha okT_i (by decide), sub_i]
theorem su_r (hW : WfIS im) {a : UInt8} (ha : okT im.classes.length a = true) : suitsX (im.classes.map toX) a 38 = isR a := by
 unfold suitsX isR
 rw [if_pos (by decide), List.length_map, isLet_isC hW.cls hW.nc ha]
theorem fld_relN (hW : WfIS im) {x : Ins} (ha : x.a < im.classes.length) (hb : x.b < nFields im.classes x.a) : tatX (fldsX (im.classes.map toX) (UInt8.ofNat (65 + x.a))) x.b = fieldT im.classes x.a x.b := by
 obtain ⟨hl, hk⟩ := letOf ha hW.nc
 have hv : (UInt8.ofNat (65 + x.a)).toNat - 65 = x.a := by have := hW.nc; simp; omega
 have hlen := nFields_flds (a := 0) hl
 rw [hv] at hlen
 unfold tatX
 rw [if_pos (by rw [← hlen]; exact hb)]
 unfold fieldT fldsX
 rw [List.length_map, if_pos hl, List.getElem?_map, hv]
 cases im.classes[x.a]? <;> rfl
end
theorem ok38 {n : Nat} {c : UInt8} (h : okT n c = true) : c.toNat ≠ 38 := by rw [okT_iff] at h; omega
theorem isTy_ne {n : Nat} {c : UInt8} (h : isTy n c = true) : c.toNat ≠ 45 := by
 simp [isTy, isLet] at h
 omega
theorem len0 {ts : List UInt8} (h : ts.length = 0) : ts = [] := List.length_eq_zero_iff.1 h
theorem len1 {ts : List UInt8} (h : ts.length = 1) : ∃ a, ts = [a] := List.length_eq_one_iff.1 h
theorem len2 {ts : List UInt8} (h : ts.length = 2) : ∃ a b, ts = [a, b] := by
 match ts, h with
 | [a, b], _ => exact ⟨a, b, rfl⟩
theorem len3 {ts : List UInt8} (h : ts.length = 3) : ∃ a b c, ts = [a, b, c] := by
 match ts, h with
 | [a, b, c], _ => exact ⟨a, b, c, rfl⟩
theorem tat_loc {lo : List UInt8} {n : Nat} (h : n < lo.length) : tatX lo n = lo.getD n 0 := by unfold tatX; rw [if_pos h]
section
theorem node_rel {im : Img} (hW : WfIS im) {bd : Bod} (hbd : WfBS im.classes im.sigs bd) {y : Ins} (hy : WfN im.classes im.sigs.length bd.locals.length y) {ts : List UInt8} (hl : ts.length = arity y.op) (hok : ∀ c ∈ ts, okT im.classes.length c = true) (hne : ∀ c ∈ ts, c.toNat ≠ 45) : nodeX (im.classes.map toX) im.sigs bd.locals y ts = nodeT im.classes im.sigs bd.locals y ts := by
 have hop := List.elem_iff.1 hy.op
 simp only [nodeLetters, List.mem_cons, List.not_mem_nil, or_false] at hop
 have htx : ∀ n : Nat, y.op.toNat = n → ¬ (48 ≤ n ∧ n ≤ 57) → toXN y = toXI y := fun n h1 h2 => by
  unfold toXN
  rw [if_neg (fun h => h2 (by rw [← h1]; exact digit_range h))]
 have hcl := fun h => toXI_cls (x := y) h
 have hck : ∀ h : y.op.toNat = 110 ∨ y.op.toNat = 120 ∨ y.op.toNat = 103 ∨ y.op.toNat = 112 ∨ y.op.toNat = 99, okT im.classes.length (clsT y.a) = true ∧ (clsT y.a).toNat ≠ 45 := fun h =>
  ⟨okT_cls (hy.cls h) hW.nc, by have := hy.cls h; have := hW.nc; unfold clsT; simp; omega⟩
 have eo : (toXI y).op = y.op := rfl
 have en : (toXI y).num = y.b := rfl
 rcases hop with h | h | h | h | h | h | h | h | h | h | h | h | h | h | h | h | h | h | h | h | h | h | h | h | h | h | h | h | h | h
 ·have ha : arity y.op = 0 := by unfold arity; simp [h]
  rw [ha] at hl
  have hts := len0 hl
  subst hts
  have e1 : toXN y = ⟨y.pos, 107, 45, y.b, none, 0, 0⟩ := by unfold toXN; rw [if_pos (by simp [isDigit, h])]
  rw [nodeX, e1]
  simp [asksX, takesX, typX, laysX, acc0, nodeT, askT, giveT, arith, h]
 ·have ha : arity y.op = 0 := by unfold arity; simp [h]
  rw [ha] at hl
  have hts := len0 hl
  subst hts
  have e1 : toXN y = ⟨y.pos, 107, 45, y.b, none, 0, 0⟩ := by unfold toXN; rw [if_pos (by simp [isDigit, h])]
  rw [nodeX, e1]
  simp [asksX, takesX, typX, laysX, acc0, nodeT, askT, giveT, arith, h]
 ·have ha : arity y.op = 0 := by unfold arity; simp [h]
  rw [ha] at hl
  have hts := len0 hl
  subst hts
  have e1 : toXN y = ⟨y.pos, 107, 45, y.b, none, 0, 0⟩ := by unfold toXN; rw [if_pos (by simp [isDigit, h])]
  rw [nodeX, e1]
  simp [asksX, takesX, typX, laysX, acc0, nodeT, askT, giveT, arith, h]
 ·have ha : arity y.op = 0 := by unfold arity; simp [h]
  rw [ha] at hl
  have hts := len0 hl
  subst hts
  have e1 : toXN y = ⟨y.pos, 107, 45, y.b, none, 0, 0⟩ := by unfold toXN; rw [if_pos (by simp [isDigit, h])]
  rw [nodeX, e1]
  simp [asksX, takesX, typX, laysX, acc0, nodeT, askT, giveT, arith, h]
 ·have ha : arity y.op = 0 := by unfold arity; simp [h]
  rw [ha] at hl
  have hts := len0 hl
  subst hts
  have e1 : toXN y = ⟨y.pos, 107, 45, y.b, none, 0, 0⟩ := by unfold toXN; rw [if_pos (by simp [isDigit, h])]
  rw [nodeX, e1]
  simp [asksX, takesX, typX, laysX, acc0, nodeT, askT, giveT, arith, h]
 ·have ha : arity y.op = 0 := by unfold arity; simp [h]
  rw [ha] at hl
  have hts := len0 hl
  subst hts
  have e1 : toXN y = ⟨y.pos, 107, 45, y.b, none, 0, 0⟩ := by unfold toXN; rw [if_pos (by simp [isDigit, h])]
  rw [nodeX, e1]
  simp [asksX, takesX, typX, laysX, acc0, nodeT, askT, giveT, arith, h]
 ·have ha : arity y.op = 0 := by unfold arity; simp [h]
  rw [ha] at hl
  have hts := len0 hl
  subst hts
  have e1 : toXN y = ⟨y.pos, 107, 45, y.b, none, 0, 0⟩ := by unfold toXN; rw [if_pos (by simp [isDigit, h])]
  rw [nodeX, e1]
  simp [asksX, takesX, typX, laysX, acc0, nodeT, askT, giveT, arith, h]
 ·have ha : arity y.op = 0 := by unfold arity; simp [h]
  rw [ha] at hl
  have hts := len0 hl
  subst hts
  have e1 : toXN y = ⟨y.pos, 107, 45, y.b, none, 0, 0⟩ := by unfold toXN; rw [if_pos (by simp [isDigit, h])]
  rw [nodeX, e1]
  simp [asksX, takesX, typX, laysX, acc0, nodeT, askT, giveT, arith, h]
 ·have ha : arity y.op = 0 := by unfold arity; simp [h]
  rw [ha] at hl
  have hts := len0 hl
  subst hts
  have e1 : toXN y = ⟨y.pos, 107, 45, y.b, none, 0, 0⟩ := by unfold toXN; rw [if_pos (by simp [isDigit, h])]
  rw [nodeX, e1]
  simp [asksX, takesX, typX, laysX, acc0, nodeT, askT, giveT, arith, h]
 ·have ha : arity y.op = 0 := by unfold arity; simp [h]
  rw [ha] at hl
  have hts := len0 hl
  subst hts
  have e1 : toXN y = ⟨y.pos, 107, 45, y.b, none, 0, 0⟩ := by unfold toXN; rw [if_pos (by simp [isDigit, h])]
  rw [nodeX, e1]
  simp [asksX, takesX, typX, laysX, acc0, nodeT, askT, giveT, arith, h]
 ·have ha : arity y.op = 0 := by unfold arity; simp [h]
  rw [ha] at hl
  have hts := len0 hl
  subst hts
  rw [nodeX, htx _ h (by omega), eo, en]
  simp [asksX, takesX, typX, laysX, acc0, nodeT, askT, giveT, arith, h]
 ·have ha : arity y.op = 1 := by unfold arity; simp [h]
  rw [ha] at hl
  obtain ⟨a, rfl⟩ := len1 hl
  have oa := hok a (by simp)
  have na := hne a (by simp)
  rw [nodeX, htx _ h (by omega), eo, en]
  simp [asksX, takesX, typX, laysX, acc11, su_i hW oa, nodeT, askT, giveT, arith, h, fits11, sub_i]
 ·have ha : arity y.op = 0 := by unfold arity; simp [h]
  rw [ha] at hl
  have hts := len0 hl
  subst hts
  rw [nodeX, htx _ h (by omega), eo, en]
  have hb := hy.loc (by omega)
  have h45 := isTy_ne (hbd.loc.2 _ (List.getElem_mem hb))
  simp [asksX, takesX, typX, laysX, acc0, nodeT, askT, giveT, arith, h, tat_loc hb, List.getD, hb, h45]
 ·have ha : arity y.op = 1 := by unfold arity; simp [h]
  rw [ha] at hl
  obtain ⟨a, rfl⟩ := len1 hl
  have oa := hok a (by simp)
  have na := hne a (by simp)
  rw [nodeX, htx _ h (by omega), eo, en]
  have hb := hy.loc (by omega)
  have hto : okT im.classes.length (bd.locals.getD y.b 0) = true := by rw [getD_lt _ _ hb]; exact okT_ty (hbd.loc.2 _ (List.getElem_mem hb))
  have e5 := su_t hW oa hto (ok38 hto)
  simp only [asksX, typX, h, tat_loc hb, nodeT, askT, giveT, arith]
  generalize bd.locals.getD y.b 0 = T at *
  simp [acc11, e5, fits11]
  cases subT im.classes a T <;> simp
 ·have ha : arity y.op = 2 := by unfold arity; simp [h]
  rw [ha] at hl
  obtain ⟨a, b, rfl⟩ := len2 hl
  have oa := hok a (by simp)
  have na := hne a (by simp)
  have ob := hok b (by simp)
  have nb := hne b (by simp)
  rw [nodeX, htx _ h (by omega), eo, en]
  simp [asksX, takesX, typX, laysX, acc22, su_i hW oa, su_i hW ob, nodeT, askT, giveT, arith, h, fits22, sub_i]
  by_cases h1 : a.toNat = 105 <;> by_cases h2 : b.toNat = 105 <;> simp [h1, h2]
 ·have ha : arity y.op = 2 := by unfold arity; simp [h]
  rw [ha] at hl
  obtain ⟨a, b, rfl⟩ := len2 hl
  have oa := hok a (by simp)
  have na := hne a (by simp)
  have ob := hok b (by simp)
  have nb := hne b (by simp)
  rw [nodeX, htx _ h (by omega), eo, en]
  simp [asksX, takesX, typX, laysX, acc22, su_i hW oa, su_i hW ob, nodeT, askT, giveT, arith, h, fits22, sub_i]
  by_cases h1 : a.toNat = 105 <;> by_cases h2 : b.toNat = 105 <;> simp [h1, h2]
 ·have ha : arity y.op = 2 := by unfold arity; simp [h]
  rw [ha] at hl
  obtain ⟨a, b, rfl⟩ := len2 hl
  have oa := hok a (by simp)
  have na := hne a (by simp)
  have ob := hok b (by simp)
  have nb := hne b (by simp)
  rw [nodeX, htx _ h (by omega), eo, en]
  simp [asksX, takesX, typX, laysX, acc22, su_i hW oa, su_i hW ob, nodeT, askT, giveT, arith, h, fits22, sub_i]
  by_cases h1 : a.toNat = 105 <;> by_cases h2 : b.toNat = 105 <;> simp [h1, h2]
 ·have ha : arity y.op = 2 := by unfold arity; simp [h]
  rw [ha] at hl
  obtain ⟨a, b, rfl⟩ := len2 hl
  have oa := hok a (by simp)
  have na := hne a (by simp)
  have ob := hok b (by simp)
  have nb := hne b (by simp)
  rw [nodeX, htx _ h (by omega), eo, en]
  simp [asksX, takesX, typX, laysX, acc22, su_i hW oa, su_i hW ob, nodeT, askT, giveT, arith, h, fits22, sub_i]
  by_cases h1 : a.toNat = 105 <;> by_cases h2 : b.toNat = 105 <;> simp [h1, h2]
 ·have ha : arity y.op = 2 := by unfold arity; simp [h]
  rw [ha] at hl
  obtain ⟨a, b, rfl⟩ := len2 hl
  have oa := hok a (by simp)
  have na := hne a (by simp)
  have ob := hok b (by simp)
  have nb := hne b (by simp)
  rw [nodeX, htx _ h (by omega), eo, en]
  simp [asksX, takesX, typX, laysX, acc22, su_i hW oa, su_i hW ob, nodeT, askT, giveT, arith, h, fits22, sub_i]
  by_cases h1 : a.toNat = 105 <;> by_cases h2 : b.toNat = 105 <;> simp [h1, h2]
 ·have ha : arity y.op = 2 := by unfold arity; simp [h]
  rw [ha] at hl
  obtain ⟨a, b, rfl⟩ := len2 hl
  have oa := hok a (by simp)
  have na := hne a (by simp)
  have ob := hok b (by simp)
  have nb := hne b (by simp)
  rw [nodeX, htx _ h (by omega), eo, en]
  simp [asksX, takesX, typX, laysX, acc22, su_i hW oa, su_i hW ob, nodeT, askT, giveT, arith, h, fits22, sub_i]
  by_cases h1 : a.toNat = 105 <;> by_cases h2 : b.toNat = 105 <;> simp [h1, h2]
 ·have ha : arity y.op = 2 := by unfold arity; simp [h]
  rw [ha] at hl
  obtain ⟨a, b, rfl⟩ := len2 hl
  have oa := hok a (by simp)
  have na := hne a (by simp)
  have ob := hok b (by simp)
  have nb := hne b (by simp)
  rw [nodeX, htx _ h (by omega), eo, en]
  simp [asksX, takesX, typX, laysX, acc22, su_r hW oa, su_r hW ob, nodeT, askT, giveT, arith, h]
 ·have ha : arity y.op = 0 := by unfold arity; simp [h]
  rw [ha] at hl
  have hts := len0 hl
  subst hts
  rw [nodeX, htx _ h (by omega), eo, en]
  rw [hcl (by omega)]
  simp [asksX, takesX, typX, laysX, acc0, nodeT, askT, giveT, arith, h, (hck (by omega)).2]
 ·have ha : arity y.op = 0 := by unfold arity; simp [h]
  rw [ha] at hl
  have hts := len0 hl
  subst hts
  rw [nodeX, htx _ h (by omega), eo, en]
  simp [asksX, takesX, typX, laysX, acc0, nodeT, askT, giveT, arith, h]
 ·have ha : arity y.op = 1 := by unfold arity; simp [h]
  rw [ha] at hl
  obtain ⟨a, rfl⟩ := len1 hl
  have oa := hok a (by simp)
  have na := hne a (by simp)
  rw [nodeX, htx _ h (by omega), eo, en]
  have hf : tatX (fldsX (im.classes.map toX) (clsT y.a)) y.b = fieldT im.classes y.a y.b := fld_relN hW (hy.cls (by omega)) (hy.fld (by omega))
  have hg := giveT_ok hW hbd hy
  rw [hcl (by omega)]
  have e5 := su_t hW oa (hck (by omega)).1 (ok38 (hck (by omega)).1)
  have hft : (fieldT im.classes y.a y.b).toNat ≠ 45 := by
   have hq := hy.fld (by omega)
   have hgl := List.getElem?_eq_getElem (hy.cls (by omega))
   unfold nFields at hq
   unfold fieldT
   rw [hgl] at hq ⊢
   simp at hq ⊢
   rw [List.getElem?_eq_getElem hq]
   exact isTy_ne (n := im.classes.length) (isTy_mono (by have := hy.cls (by omega); omega) ((hW.cls _ _ hgl).2.2.2 _ (List.getElem_mem hq)))
  simp [asksX, takesX, typX, laysX, h, nodeT, askT, giveT, arith, hf, acc11, e5, fits11, hft]
  cases subT im.classes a (clsT y.a) <;> simp
 ·have ha : arity y.op = 2 := by unfold arity; simp [h]
  rw [ha] at hl
  obtain ⟨a, b, rfl⟩ := len2 hl
  have oa := hok a (by simp)
  have na := hne a (by simp)
  have ob := hok b (by simp)
  have nb := hne b (by simp)
  rw [nodeX, htx _ h (by omega), eo, en]
  have hf : tatX (fldsX (im.classes.map toX) (clsT y.a)) y.b = fieldT im.classes y.a y.b := fld_relN hW (hy.cls (by omega)) (hy.fld (by omega))
  rw [hcl (by omega)]
  have e5 := su_t hW oa (hck (by omega)).1 (ok38 (hck (by omega)).1)
  have hfo : okT im.classes.length (fieldT im.classes y.a y.b) = true := by
   have hq := hy.fld (by omega)
   have hgl := List.getElem?_eq_getElem (hy.cls (by omega))
   unfold nFields at hq
   unfold fieldT
   rw [hgl] at hq ⊢
   simp at hq ⊢
   rw [List.getElem?_eq_getElem hq]
   exact okT_ty (isTy_mono (by have := hy.cls (by omega); omega) ((hW.cls _ _ hgl).2.2.2 _ (List.getElem_mem hq)))
  have e6 := su_t hW ob hfo (ok38 hfo)
  simp [asksX, takesX, typX, laysX, h, nodeT, askT, giveT, arith, hf, acc22, e5, e6, fits22]
  cases subT im.classes a (clsT y.a) <;> cases subT im.classes b (fieldT im.classes y.a y.b) <;> simp
 ·have ha : arity y.op = 2 := by unfold arity; simp [h]
  rw [ha] at hl
  obtain ⟨a, b, rfl⟩ := len2 hl
  have oa := hok a (by simp)
  have na := hne a (by simp)
  have ob := hok b (by simp)
  have nb := hne b (by simp)
  rw [nodeX, htx _ h (by omega), eo, en]
  have e3 := arg_rel (hy.sig h)
  rw [hcl (by omega)]
  have hs := hW.sig _ (List.getElem_mem (hy.sig h))
  have hao : okT im.classes.length (argT im.sigs y.b) = true := by unfold argT; rw [List.getElem?_eq_getElem (hy.sig h)]; exact okT_ty hs.1
  have hro : (retT im.sigs y.b).toNat ≠ 45 := by unfold retT; rw [List.getElem?_eq_getElem (hy.sig h)]; exact isTy_ne hs.2
  have e5 := su_t hW oa (hck (by omega)).1 (ok38 (hck (by omega)).1)
  have e6 := su_t hW ob hao (ok38 hao)
  simp [asksX, takesX, typX, laysX, acc22, e3.1, e3.2, e5, e6, nodeT, askT, giveT, arith, h, fits22, hro]
  cases subT im.classes a (clsT y.a) <;> cases subT im.classes b (argT im.sigs y.b) <;> simp
 ·have ha : arity y.op = 1 := by unfold arity; simp [h]
  rw [ha] at hl
  obtain ⟨a, rfl⟩ := len1 hl
  have oa := hok a (by simp)
  have na := hne a (by simp)
  rw [nodeX, htx _ h (by omega), eo, en]
  rw [hcl (by omega)]
  simp [asksX, takesX, typX, laysX, acc11, su_r hW oa, nodeT, askT, giveT, arith, h, (hck (by omega)).2]
 ·have ha : arity y.op = 2 := by unfold arity; simp [h]
  rw [ha] at hl
  obtain ⟨a, b, rfl⟩ := len2 hl
  have oa := hok a (by simp)
  have na := hne a (by simp)
  have ob := hok b (by simp)
  have nb := hne b (by simp)
  rw [nodeX, htx _ h (by omega), eo, en]
  simp [asksX, takesX, typX, laysX, acc0, nodeT, askT, giveT, arith, h, tatX, nb]
 ·have ha : arity y.op = 3 := by unfold arity; simp [h]
  rw [ha] at hl
  obtain ⟨a, b, c, rfl⟩ := len3 hl
  have oa := hok a (by simp)
  have na := hne a (by simp)
  have ob := hok b (by simp)
  have nb := hne b (by simp)
  have oc := hok c (by simp)
  have nc := hne c (by simp)
  rw [nodeX, htx _ h (by omega), eo, en]
  have e5 := meetX_joinT hW.cls hW.nc ob oc
  simp [asksX, takesX, typX, laysX, acc13, su_i hW oa, nodeT, askT, giveT, arith, h, tatX, e5]
 ·have ha : arity y.op = 2 := by unfold arity; simp [h]
  rw [ha] at hl
  obtain ⟨a, b, rfl⟩ := len2 hl
  have oa := hok a (by simp)
  have na := hne a (by simp)
  have ob := hok b (by simp)
  have nb := hne b (by simp)
  rw [nodeX, htx _ h (by omega), eo, en]
  simp [asksX, takesX, typX, laysX, acc12, su_i hW oa, nodeT, askT, giveT, arith, h, tatX]
end
end Go.Proofs.YtpfkkmacakjmbaaGreatDoor
