import Derived.Test.YtpfkkmacakjmbaaGreatDoorP23
import Derived.Test.YtpfkkmacakjmbaaGreatDoorP22
import Derived.Test.YtpfkkmacakjmbaaGreatDoorP01
set_option maxRecDepth 100000
set_option maxHeartbeats 6400000
namespace Go.Proofs.YtpfkkmacakjmbaaGreatDoor
open Go Go.RowKit Sp
set_option linter.unusedSimpArgs false
set_option linter.unusedVariables false
attribute [local go_sem ↓] Go.wp_at_zero Go.wp_at_succ
theorem arity_N (y : Ins) : arity (toXN y).op = arity y.op := by
 unfold toXN
 split
 ·rename_i h
  simp only [isDigit, Bool.and_eq_true, decide_eq_true_eq] at h
  show arity 107 = arity y.op
  unfold arity
  rw [if_neg (show ¬ y.op.toNat = 105 from by omega), if_neg (show ¬ [43, 45, 42, 47, 60, 61, 101, 112, 99, 44, 111].contains y.op.toNat = true from by simp; omega), if_neg (show ¬ [115, 103, 120, 119].contains y.op.toNat = true from by simp; omega)]
  rfl
 ·rfl
theorem sk_same : ∀ {t u : List Ins} {m : Nat}, t.map (fun x => arity x.op) = u.map (fun x => arity x.op) → sk m t = sk m u := by
 intro t
 induction t with
 | nil => intro u m h; cases u with | nil => rfl | cons y u => simp at h
 | cons x t ih =>
  intro u m h
  cases u with
  | nil => simp at h
  | cons y u =>
   simp at h
   cases m with
   | zero => rfl
   | succ m => simp only [sk, h.1]; rw [ih h.2]
theorem ops_same (is : List Ins) : (opsI (is.map toXN)).map (fun x => arity x.op) = is.map (fun x => arity x.op) := by
 simp only [opsI, List.map_map]
 apply List.map_congr_left
 intro y _
 exact arity_N y
theorem endN_same {t u : List Ins} (h : t.map (fun x => arity x.op) = u.map (fun x => arity x.op)) (k : Nat) : endN t k = endN u k := by
 unfold endN
 rw [sk_same (u := u.drop k) (by simp only [List.map_drop, h])]
theorem ptsL_same {t u : List Ins} (h : t.map (fun x => arity x.op) = u.map (fun x => arity x.op)) : ∀ {n k : Nat}, ptsL t n k = ptsL u n k := by
 have hl : t.length = u.length := by have := congrArg List.length h; simpa using this
 intro n
 induction n with
 | zero => intro k; rfl
 | succ n ih => intro k; simp only [ptsL, hl, endN_same h, ih]
theorem ptsN_same {t u : List Ins} (h : t.map (fun x => arity x.op) = u.map (fun x => arity x.op)) (k : Nat) : ptsN t k = ptsN u k := by
 have h1 : (t.map (fun x => arity x.op))[k]? = (u.map (fun x => arity x.op))[k]? := by rw [h]
 rw [List.getElem?_map, List.getElem?_map] at h1
 unfold ptsN
 cases ht : t[k]? with
 | none => rw [ht] at h1; cases hu : u[k]? with
  | none => rfl
  | some y => rw [hu] at h1; cases h1
 | some x => rw [ht] at h1; cases hu : u[k]? with
  | none => rw [hu] at h1; cases h1
  | some y =>
   rw [hu] at h1
   simp at h1
   simp only [h1]
   exact ptsL_same h
structure ItsN (w : World) (base : Nat) (its : List XIt) (is : List Ins) : Prop where
 len : its.length = is.length
 at' : ∀ k y x, is[k]? = some y → its[k]? = some x → x.place = (toXN y).place ∧ x.op = (toXN y).op ∧ x.cls = (toXN y).cls ∧ x.num = (toXN y).num ∧ w.ownsRow base 3 1 (.slice x.pa x.pn x.pc) (ptsN is k).length (intC (ptsN is k))
theorem ItsN.mono {w : World} {base base' : Nat} {its : List XIt} {is : List Ins} (h : ItsN w base its is) (hb : base' ≤ base) : ItsN w base' its is :=
 ⟨h.len, fun k y x hy hx => by
  obtain ⟨e1, e2, e3, e4, e5⟩ := h.at' k y x hy hx
  exact ⟨e1, e2, e3, e4, World.ownsRow.mono e5 hb⟩⟩
theorem WpI.nodes {w : World} {base : Nat} {is : List Ins} {its' : List XIt} {bh : List Nat} (h : WpI w base (is.map toXN) its' bh 0) : ItsN w base its' is := by
 refine ⟨by rw [h.len]; simp, fun k y x hy hx => ?_⟩
 have h1 := h.pt k (toXN y) x (by omega) (by simp [hy]) hx
 rw [ptsN_same (ops_same is)] at h1
 exact h1
def nodesB (s : ByteArray) (cs : List Cls) (ns nl i : Nat) (bad : Bool) : Except Nat (List Ins × Nat) := if bad = true then .error i else nodesP s cs ns nl 24 [] 1 i
def NdC (s : ByteArray) (cs : List Cls) (ns nl : Nat) (R : Except Nat (List Ins × Nat)) (its : List XIt) (m j : Nat) (bad : Bool) : Prop :=
 (bad = false ∧ ∃ is, its = is.map toXN ∧ nodesP s cs ns nl (24 - is.length) is m j = R) ∨ (bad = true ∧ R = .error j)
section
variable {s : ByteArray} {cs : List Cls} {ns nl : Nat} {R : Except Nat (List Ins × Nat)}
theorem NdC.start {i : Nat} {bad : Bool} (hR : nodesB s cs ns nl i bad = R) : NdC s cs ns nl R [] 1 i bad := by
 unfold nodesB at hR
 cases bad with
 | true => exact Or.inr ⟨rfl, hR.symm⟩
 | false => exact Or.inl ⟨rfl, [], rfl, hR⟩
theorem NdC.next {its : List XIt} {m j : Nat} (h : NdC s cs ns nl R its (m + 1) j false) (hl : its.length < 24) {x : XIt} {j' : Nat} {bad' : Bool} (hx : NodR s cs ns nl j false x j' bad') : NdC s cs ns nl R (its ++ [x]) (m + arity x.op) j' bad' := by
 rcases h with ⟨_, is, rfl, h⟩ | ⟨h, _⟩
 ·obtain ⟨d, hd⟩ : ∃ d, 24 - is.length = d + 1 := ⟨24 - is.length - 1, by simp at hl; omega⟩
  rw [hd] at h
  simp only [nodesP] at h
  rcases hx with ⟨h1, y, h2, h3⟩ | ⟨h1, h2⟩
  ·simp only [nodB, Bool.false_eq_true, if_false] at h2
   rw [h2] at h
   refine Or.inl ⟨h1, is ++ [y], by simp [h3], ?_⟩
   rw [show 24 - (is ++ [y]).length = d from by simp; omega, h3, arity_N]
   exact h
  ·simp only [nodB, Bool.false_eq_true, if_false] at h2
   rw [h2] at h
   exact Or.inr ⟨h1, h.symm⟩
 ·cases h
theorem NdC.full {its : List XIt} {m j : Nat} {bad : Bool} (h : NdC s cs ns nl R its (m + 1) j bad) (hl : bad = true ∨ ¬ its.length < 24) : R = .error j := by
 rcases h with ⟨h1, is, rfl, h⟩ | ⟨_, h⟩
 ·rcases hl with hl | hl
  ·rw [h1] at hl; cases hl
  ·rw [show 24 - is.length = 0 from by simp at hl; omega] at h
   exact h.symm
 ·exact h
theorem NdC.fin {its : List XIt} {j : Nat} {bad : Bool} (h : NdC s cs ns nl R its 0 j bad) : (bad = false ∧ ∃ is, its = is.map toXN ∧ R = .ok (is, j)) ∨ (bad = true ∧ R = .error j) := by
 rcases h with ⟨h1, is, h2, h⟩ | h
 ·rw [nodesP_zero] at h
  exact Or.inl ⟨h1, is, h2, h.symm⟩
 ·exact Or.inr h
end
def NdsQ (s : ByteArray) (SC : List Cls) (a0 a1 : Option Addr) (ng nl cap0 cap1 : Nat) (v2 : RdV) (b sz : Nat) (R : Except Nat (List Ins × Nat)) (en : Ending) (w' : World) : Prop :=
 ∃ ao cap its j bad', en = .returned (.slice ao (List.length its) cap) ∧ XrB w' b s j bad' (.slice a0 SC.length cap0) (.slice a1 ng cap1) v2 ∧ ItB w' sz (.slice ao (List.length its) cap) its ∧ its.length ≤ 24 ∧
  ((bad' = false ∧ ∃ is, R = .ok (is, j) ∧ ItsN w' sz its is) ∨ (bad' = true ∧ R = .error j))
theorem xnodes_any (b base : Nat) (s : ByteArray) (i : Nat) (bad : Bool) (SC : List Cls) (a0 a1 al : Option Addr) (ng nl cap0 cap1 capl : Nat) (v2 : RdV) (w : World)
  (hG : bad = true ∨ (WfC SC ∧ TcV w base (.slice a0 SC.length cap0) (SC.map toX))) (hnc : SC.length ≤ 4) (hng : ng ≤ 3) (hnl : nl ≤ 10) (hs : s.size ≤ 2000)
  (hR : XrB w b s i bad (.slice a0 SC.length cap0) (.slice a1 ng cap1) v2) (hv : v2.hl = .slice al nl capl) (hb : b < base) :
  Calls Tryz.prog 146 #[.pointer (some ⟨b, 0, none⟩)] w fun en w' => But (· = b) w w' ∧ NdsQ s SC a0 a1 ng nl cap0 cap1 v2 b w.heap.size (nodesB s SC ng nl i bad) en w' := by
 obtain ⟨R, hRR⟩ : ∃ R, nodesB s SC ng nl i bad = R := ⟨_, rfl⟩
 rw [hRR]
 have HST := hid (NdC.start hRR)
 clear hRR
 obtain ⟨i0, hi0, hz0, hz1, hz2⟩ := info_parts info_xit
 have hbw := hR.lt
 have HG := hid hG
 have HND := hid (fun (w' : World) (i' : Nat) (bad' : Bool) (h : But (· = b) w w') (hg : bad' = true ∨ (WfC SC ∧ TcV w base (.slice a0 SC.length cap0) (SC.map toX))) (hr : XrB w' b s i' bad' (.slice a0 SC.length cap0) (.slice a1 ng cap1) v2) => xnode_all b base s i' SC a0 a1 al ng nl cap0 cap1 capl v2 w' bad' (hg.imp id (fun q => ⟨q.1, q.2.but h (fun g e cur _ _ hg he => by omega)⟩)) hnc hng hnl hs hr hv hb)
 clear hG
 have hI0 := ItB.empty w
 have hR0 := hR.but (But.alloc (fun _ => False) w (.cells #[] 219)) (fun h => h)
 have hB0 : But (· = b) w (w.alloc (.cells #[] 219)) := But.alloc _ _ _
 go_enter Tryz.func146, Tryz.ntmps146
 go_wp2_with fail
 go_loopg [3, 4] 24 (fun mm vs ms wr => ∃ (ao : Option Addr) (cap j : Nat) (bad' : Bool) (its : List XIt) (m : Nat), vs = .slice ao its.length cap ∧ ms = .int .i64 m ∧ m ≤ 100 ∧ its.length + mm ≤ 24 ∧ 24 ≤ its.length + mm ∧ m ≤ 1 + 3 * its.length ∧ But (· = b) w wr ∧ XrB wr b s j bad' (.slice a0 SC.length cap0) (.slice a1 ng cap1) v2 ∧ ItB wr w.heap.size (.slice ao its.length cap) its ∧ Hid (bad' = true ∨ (WfC SC ∧ TcV w base (.slice a0 SC.length cap0) (SC.map toX))) ∧ Hid (NdC s SC ng nl R its m j bad'))
 case atStart => exact ⟨_, 0, i, bad, [], 1, rfl, rfl, by omega, by simp, by simp, by simp, hB0, hR0, hI0, HG, HST⟩
 case round =>
  obtain ⟨ao, cap, j, bad', its, m, rfl, rfl, hm, hl1, hl2, hm3, hBr, hRr, hIt, HGr, HC⟩ := hrel
  have hszr := hBr.size
  have hbr := hRr.lt
  have h4 := hRr.c4
  have h3 := hRr.c3
  cases m with
  | zero =>
   have hz : ¬ (0 : Int) < 0 := by omega
   have HF := hid HC.out.fin
   clear HC
   go_wp2_with fail
   have hItx : ItB wr w.heap.size (.slice ao its.length cap) its := owns_but hIt (But.refl (fun k => k = b) wr) (fun g hg h => by have := owns_ge hIt g hg; omega)
   have hzx := ((But.refl (fun k => k = b) wr)).size
   refine (withParts_any w.heap.size its ao cap wr (by omega) hItx).mono ?_
   rintro en w8 ⟨hB8, ao8, cap8, its8, bh8, rfl, hI8, hW8⟩
   have HW8 := hid hW8
   have hBw8 : But (· = b) w w8 := (hBr.trans (But.refl (fun k => k = b) wr)).next hB8 (fun _ _ h => h.elim)
   have hR8 := (hRr).but hB8 (fun h => h)
   have hI8' : ItB w8 w.heap.size (.slice ao8 its8.length cap8) its8 := World.ownsRow.mono hI8 (by omega)
   have h24 : its8.length ≤ 24 := by have := hW8.len; omega
   have hsz : w.heap.size ≤ (wr).heap.size := by omega
   clear hW8 hI8
   go_wp2_with fail
   exact bodyPost_ret (v := .slice ao8 its8.length cap8) (by simp [results, Tryz.results146, go_sem]) rfl ⟨hBw8, ao8, cap8, its8, _, _, rfl, hR8, hI8', h24, by
     rcases HF.out with ⟨h1, is, h2, h3⟩ | h
     ·subst h2
      exact Or.inl ⟨h1, is, h3, HW8.out.nodes.mono hsz⟩
     ·exact Or.inr h⟩
  | succ m =>
   have hz : (0 : Int) < ((m + 1 : Nat) : Int) := by omega
   by_cases hlt : its.length < 24
   ·have hlI : (its.length : Int) < 24 := by omega
    cases bad' with
    | false =>
     have HNX := hid (fun x j' bad' => HC.out.next hlt (x := x) (j' := j') (bad' := bad'))
     clear HC
     go_wp2_with fail
     refine (HND.out wr j false hBr HGr.out hRr).mono ?_
     rintro en w4 ⟨hB4, y, j4, bad4, rfl, hR4, hI4⟩
     have HC' := hid (HNX.out y j4 bad4 hI4)
     have HG4 : Hid (bad4 = true ∨ (WfC SC ∧ TcV w base (.slice a0 SC.length cap0) (SC.map toX))) := by
      refine hid (Or.inr ?_)
      rcases HGr.out with h | h
      ·cases h
      ·exact h
     have hBw4 : But (· = b) w w4 := hBr.trans hB4
     have hIt4 : w4.ownsRow w.heap.size 219 5 (.slice ao its.length cap) its.length (itCells its) := owns_but hIt hB4 (fun g hg h => by have := owns_ge hIt g hg; omega)
     have hIge := owns_ge hIt4
     have hz4 := hBw4.size
     have hzr := hB4.size
     clear hI4 HNX h4 h3
     unfold itV
     go_wp2_with (at_builtin; refine wpList_append_lies _ rfl _ _ _ rfl w.heap.size 219 i0 _ 5 48 (by kernel_rfl) hi0 hz0 hz1 hz2 rfl (by omega) _ its.length (itCells its) rfl ((hIt4.alloc _).alloc _) ⟨w4.heap.size + 1, 0, none⟩ 1 1 [.int .i64 y.place, .int .u8 y.op.toNat, .int .u8 y.cls.toNat, .int .i64 y.num, .slice y.pa y.pn y.pc] rfl rfl (World.news_of_block (cs := #[.int .i64 y.place, .int .u8 y.op.toNat, .int .u8 y.cls.toNat, .int .i64 y.num, .slice y.pa y.pn y.pc]) (t := 219) (fr := (0, 0)) (heap_alloc_at (by simp) _)) (by simp [Value.oneCell']) (by omega) (by unfold maxLen; omega) (by omega) (by simp; omega) (w4.heap.size + 2) (by simp) ?_)
     intro gg cap3 w5 hown2 hgrow hat hlt2
     have hSW : But (fun k' => (Value.slice ao its.length cap).ownBlock = some k') w4 w5 := ((But.alloc _ _ _).trans (But.alloc _ _ _)).trans (but_grown hgrow)
     have hBw5 : But (· = b) w w5 := hBw4.next hSW (fun k' hk' h => absurd (hIge k' h) (by omega))
     have hR5 := hR4.but hSW (fun h => by have := hIge _ h; omega)
     have hIt5 : ItB w5 w.heap.size (.slice (some ⟨gg, 0, none⟩) (its ++ [y]).length cap3) (its ++ [y]) := by
      unfold ItB
      rw [List.length_append, itCells_snoc]
      exact hown2
     have hbox : w5.heap[w4.heap.size]? = some (.cells #[.int .i64 y.place, .int .u8 y.op.toNat, .int .u8 y.cls.toNat, .int .i64 y.num, .slice y.pa y.pn y.pc] 219) := by
      have h1 : ((w4.alloc (.cells #[.int .i64 y.place, .int .u8 y.op.toNat, .int .u8 y.cls.toNat, .int .i64 y.num, .slice y.pa y.pn y.pc] 219)).alloc (.cells #[.int .i64 y.place, .int .u8 y.op.toNat, .int .u8 y.cls.toNat, .int .i64 y.num, .slice y.pa y.pn y.pc] 219)).heap[w4.heap.size]? = some (.cells #[.int .i64 y.place, .int .u8 y.op.toNat, .int .u8 y.cls.toNat, .int .i64 y.num, .slice y.pa y.pn y.pc] 219) := by
       rw [Below.heap_alloc _ _ _ (by simp)]
       exact heap_alloc_new w4 _
      exact ((but_grown hgrow).block _ (lt_of_block h1) (fun h => by have := owns_lt hIt4 _ h; omega)).trans h1
     obtain ⟨x0, x1, x2, x3, x4⟩ := row5 hbox
     have har3 : arity y.op ≤ 3 := by unfold arity; split; omega; split; omega; split <;> omega
     have hCP := countParts_any y.op w5
     obtain ⟨ar, har⟩ : ∃ ar, arity y.op = ar := ⟨_, rfl⟩
     rw [har] at hCP har3 HC'
     have HCP := hid hCP
     clear hCP hgrow hat
     go_wp2_with fail
     refine HCP.out.mono ?_
     rintro en wx ⟨rfl, hwx⟩
     rw [hwx]
     clear hwx wx x0 x1 x2 x3 x4
     go_wp2_with fail
     go_roundg (24 - (its.length + 1))
     case measure => omega
     case rel => exact ⟨some ⟨gg, 0, none⟩, cap3, j4, bad4, its ++ [y], m + ar, by simp, by simp; omega, by omega, by simp; omega, by simp; omega, by simp; omega, hBw5, hR5, hIt5, HG4, HC'⟩
    | true =>
     have hE := HC.out.full (Or.inl rfl)
     have HE := hid hE
     clear HC hE
     go_wp2_with fail
     refine (xrefuse_all b s j true _ _ v2 _ j hRr).mono ?_
     rintro en w6 ⟨rfl, hB6, hR6⟩
     go_wp2_with fail
     have hItx : ItB w6 w.heap.size (.slice ao its.length cap) its := owns_but hIt hB6 (fun g hg h => by have := owns_ge hIt g hg; omega)
     have hzx := (hB6).size
     refine (withParts_any w.heap.size its ao cap w6 (by omega) hItx).mono ?_
     rintro en w8 ⟨hB8, ao8, cap8, its8, bh8, rfl, hI8, hW8⟩
     have HW8 := hid hW8
     have hBw8 : But (· = b) w w8 := (hBr.trans hB6).next hB8 (fun _ _ h => h.elim)
     have hR8 := (hR6).but hB8 (fun h => h)
     have hI8' : ItB w8 w.heap.size (.slice ao8 its8.length cap8) its8 := World.ownsRow.mono hI8 (by omega)
     have h24 : its8.length ≤ 24 := by have := hW8.len; omega
     have hsz : w.heap.size ≤ (w6).heap.size := by omega
     clear hW8 hI8
     go_wp2_with fail
     exact bodyPost_ret (v := .slice ao8 its8.length cap8) (by simp [results, Tryz.results146, go_sem]) rfl ⟨hBw8, ao8, cap8, its8, _, _, rfl, hR8, hI8', h24, Or.inr ⟨rfl, by simpa using HE.out⟩⟩
   ·have hlI : ¬ (its.length : Int) < 24 := by omega
    have hE := HC.out.full (Or.inr hlt)
    have HE := hid hE
    clear HC hE
    go_wp2_with fail
    refine (xrefuse_all b s j bad' _ _ v2 _ j hRr).mono ?_
    rintro en w6 ⟨rfl, hB6, hR6⟩
    go_wp2_with fail
    have hItx : ItB w6 w.heap.size (.slice ao its.length cap) its := owns_but hIt hB6 (fun g hg h => by have := owns_ge hIt g hg; omega)
    have hzx := (hB6).size
    refine (withParts_any w.heap.size its ao cap w6 (by omega) hItx).mono ?_
    rintro en w8 ⟨hB8, ao8, cap8, its8, bh8, rfl, hI8, hW8⟩
    have HW8 := hid hW8
    have hBw8 : But (· = b) w w8 := (hBr.trans hB6).next hB8 (fun _ _ h => h.elim)
    have hR8 := (hR6).but hB8 (fun h => h)
    have hI8' : ItB w8 w.heap.size (.slice ao8 its8.length cap8) its8 := World.ownsRow.mono hI8 (by omega)
    have h24 : its8.length ≤ 24 := by have := hW8.len; omega
    have hsz : w.heap.size ≤ (w6).heap.size := by omega
    clear hW8 hI8
    go_wp2_with fail
    exact bodyPost_ret (v := .slice ao8 its8.length cap8) (by simp [results, Tryz.results146, go_sem]) rfl ⟨hBw8, ao8, cap8, its8, _, _, rfl, hR8, hI8', h24, Or.inr ⟨rfl, by rw [HE.out]; simp⟩⟩
theorem xtypesOf_any (x : XIt) (ps : List Nat) (ty : List UInt8) (ao : Option Addr) (ct : Nat) (w : World) (hl : ps.length ≤ 3) (hps : ∀ k ∈ ps, k ≤ 100) (hP : w.ownsRow 0 3 1 (.slice x.pa x.pn x.pc) ps.length (intC ps)) (hT : BtB w 0 (.slice ao ty.length ct) ty) :
  Calls Tryz.prog 147 #[itV x, .slice ao ty.length ct] w fun en w' => But (fun _ => False) w w' ∧ ∃ a' c', en = .returned (.slice a' ps.length c') ∧ BtB w' w.heap.size (.slice a' ps.length c') (ps.map (tatX ty)) := by
 obtain ⟨i0, hi0, hz0, hz1, hz2⟩ := info_parts info_u8
 obtain ⟨pl, op, cl, nu, pa, pn, pc⟩ := x
 have hpn : pn = ps.length := by
  obtain ⟨a', c', h⟩ := owns_len hP
  injection h
 subst hpn
 unfold itV
 dsimp only at hP ⊢
 have hB0 : But (fun _ => False) w (w.alloc (.cells #[.int .i64 pl, .int .u8 op.toNat, .int .u8 cl.toNat, .int .i64 nu, .slice pa ps.length pc] 219)) := But.alloc _ _ _
 have hg0 : (w.alloc (.cells #[.int .i64 pl, .int .u8 op.toNat, .int .u8 cl.toNat, .int .i64 nu, .slice pa ps.length pc] 219)).heap[w.heap.size]? = some (.cells #[.int .i64 pl, .int .u8 op.toNat, .int .u8 cl.toNat, .int .i64 nu, .slice pa ps.length pc] 219) := heap_alloc_new _ _
 go_enter Tryz.func147, Tryz.ntmps147
 go_wp2_with fail
 have hze : (w.alloc (.cells #[.int .i64 pl, .int .u8 op.toNat, .int .u8 cl.toNat, .int .i64 nu, .slice pa ps.length pc] 219)).heap.size = w.heap.size + 1 := by simp
 generalize (w.alloc (.cells #[.int .i64 pl, .int .u8 op.toNat, .int .u8 cl.toNat, .int .i64 nu, .slice pa ps.length pc] 219)) = w1 at *
 have hE := BtB.empty w1
 rw [hze] at hE
 have hz1' := hB0.size
 have hB2 : But (fun _ => False) w (w1.alloc (.cells #[] 5)) := hB0.trans (But.alloc _ _ _)
 go_loopg [5, 6] ps.length (fun mm vs ks wr => ∃ (a' : Option Addr) (c' k : Nat) (l : List UInt8), vs = .slice a' k c' ∧ ks = .int .i64 k ∧ k ≤ ps.length ∧ k + mm ≤ ps.length ∧ ps.length ≤ k + mm ∧ wr.ownsRow (w.heap.size + 1) 5 1 (.slice a' k c') k (btCells l) ∧ But (fun _ => False) w wr ∧ w.heap.size + 1 ≤ wr.heap.size ∧ wr.heap[w.heap.size]? = some (.cells #[.int .i64 pl, .int .u8 op.toNat, .int .u8 cl.toNat, .int .i64 nu, .slice pa ps.length pc] 219) ∧ Hid (l = (ps.take k).map (tatX ty)))
 case atStart => exact ⟨_, 0, 0, [], rfl, rfl, by omega, by omega, by omega, hE, hB2, by simp; omega, ((But.alloc (fun _ => False) w1 _).block _ (lt_of_block hg0) (fun h => h)).trans hg0, rfl⟩
 case round =>
  obtain ⟨a', c', k, l, rfl, rfl, hk1, hk2, hk3, hOr, hBr, hzr, hgr, HL⟩ := hrel
  have q4 : wr.cell? ⟨w.heap.size, 4, none⟩ = some (.slice pa ps.length pc) := by rw [cell_of_row wr _ 4 _ _ (0, 0) hgr]; rfl
  have hgl := lt_of_block hgr
  by_cases hlt : k < ps.length
  ·have hlI : (k : Int) < (ps.length : Int) := by omega
   obtain ⟨g, rfl, hg1, hg2, hcell⟩ := owns_two (owns_but hP hBr (fun _ _ h => h)) (by omega)
   obtain ⟨v, hv⟩ : ∃ v, ps[k] = v := ⟨_, rfl⟩
   have qk := hcell _ _ (intC_at (List.getElem?_eq_getElem hlt))
   rw [hv] at qk
   have HTA := hid (xtypeAt_any ao ct ty v wr (BtB.but hT hBr (fun _ _ h => h)))
   have HN : Hid (l ++ [tatX ty v] = (ps.take (k + 1)).map (tatX ty)) := by
    show _ = _
    rw [HL.out, List.take_add_one, List.getElem?_eq_getElem hlt, hv]
    simp
   clear hcell hv
   generalize tatX ty v = z at *
   go_wp2_with fail
   refine HTA.out.mono ?_
   rintro en wx ⟨rfl, hwx⟩
   rw [hwx]
   clear hwx wx HTA
   have hge := owns_ge hOr
   go_wp2_with (at_builtin; refine wpList_append_lies _ rfl _ _ _ rfl (w.heap.size + 1) 5 i0 _ 1 1 (by kernel_rfl) hi0 hz0 hz1 hz2 rfl (by omega) _ k (btCells l) rfl (hOr.alloc _) ⟨wr.heap.size, 0, none⟩ 1 1 [.int .u8 z.toNat] rfl rfl (World.news_of_block (cs := #[.int .u8 z.toNat]) (t := 5) (fr := (0, 0)) (heap_alloc_new wr _)) (by simp [Value.oneCell']) (by omega) (by unfold maxLen; omega) (by omega) (by simp; omega) (wr.heap.size + 1) (by simp) ?_)
   intro gg cap3 w5 hown2 hgrow hat hlt2
   have hSW : But (fun k' => (Value.slice a' k c').ownBlock = some k') wr w5 := (But.alloc _ _ _).trans (but_grown hgrow)
   have hBw5 : But (fun _ => False) w w5 := hBr.next hSW (fun k' hk' h => absurd (hge k' h) (by omega))
   have hgl1 := lt_of_block hg0
   have hg5 := (hSW.block _ hgl (fun h => absurd (hge _ h) (by omega))).trans hgr
   have hz5 := hSW.size
   clear q4 qk
   go_wp2_with fail
   go_roundg (ps.length - (k + 1))
   case measure => omega
   case rel => exact ⟨some ⟨gg, 0, none⟩, cap3, k + 1, l ++ [z], by simp, by simp, by omega, by omega, by omega, by rw [show btCells (l ++ [z]) = btCells l ++ [.int .u8 z.toNat] from by simp [btCells]]; exact hown2, hBw5, by omega, hg5, HN⟩
  ·have hlI : ¬ (k : Int) < (ps.length : Int) := by omega
   have hkn : k = ps.length := by omega
   subst hkn
   have hfin : BtB wr w.heap.size (.slice a' ps.length c') (ps.map (tatX ty)) := by
    have h1 := HL.out
    rw [List.take_length] at h1
    unfold BtB
    rw [← h1, show l.length = ps.length from by rw [h1]; simp]
    exact World.ownsRow.mono hOr (by omega)
   go_wp2_with fail
   exact bodyPost_ret (v := .slice a' ps.length c') (by simp [results, Tryz.results147, go_sem]) rfl ⟨hBr, a', c', rfl, hfin⟩
def asksX (cs : List XCls) (ms : List Sig) (lo : List UInt8) (c k : UInt8) (n : Nat) : List UInt8 :=
 if c.toNat = 105 ∨ c.toNat = 111 then [105] else if c.toNat = 115 then [tatX lo n] else takesX cs ms c k n 45
def typX (cs : List XCls) (ms : List Sig) (lo : List UInt8) (c k : UInt8) (n : Nat) (ps : List UInt8) : UInt8 :=
 if c.toNat = 115 ∨ c.toNat = 112 ∨ c.toNat = 119 ∨ c.toNat = 111 then 105 else if c.toNat = 44 then tatX ps 1 else if c.toNat = 105 then meetX cs (tatX ps 1) (tatX ps 2) else laysX cs ms c k n lo
section
variable (b : Nat) (cs : List XCls) (ms : List Sig) (c0 : UInt8) (m0 : Nat) (r0 : UInt8) (al ai : Option Addr) (capl ni capi : Nat) (lo : List UInt8) (x : XIt) (w : World)
theorem xasks_any (hn : cs.length ≤ 100) (hm : ms.length ≤ 100) (hT : TxC w b cs) (hM : TxM w b ms) (hB : BtB w 0 (.slice al lo.length capl) lo) :
  Calls Tryz.prog 203 #[.pointer (some ⟨b, 0, none⟩), hdV c0 m0 r0 (.slice al lo.length capl) (.slice ai ni capi), itV x] w fun en w' => But (fun _ => False) w w' ∧ ∃ v, en = .returned v ∧ BtB w' w.heap.size v (asksX cs ms lo x.op x.cls x.num) := by
 obtain ⟨pl, op, cl, nu, pa, pn, pc⟩ := x
 unfold itV hdV
 dsimp only
 have hB2 : But (fun _ => False) w ((w.alloc (.cells #[.int .u8 c0.toNat, .int .i64 m0, .int .u8 r0.toNat, .slice al lo.length capl, .slice ai ni capi] 115)).alloc (.cells #[.int .i64 pl, .int .u8 op.toNat, .int .u8 cl.toNat, .int .i64 nu, .slice pa pn pc] 219)) := (But.alloc _ _ _).trans (But.alloc _ _ _)
 by_cases h1 : op.toNat = 105 ∨ op.toNat = 111
 ·rw [show asksX cs ms lo op cl nu = [105] from by simp [asksX, h1]]
  have hz2 := hB2.size
  have hlit := fun W h => BtB.lit W w.heap.size h [105] (by simp)
  rcases h1 with h | h
  ·try (have e105 : ((op.toNat : Int) == 105) = false := by rw [beq_eq_false_iff_ne]; omega)
   have e105 : ((op.toNat : Int) == 105) = true := by rw [beq_iff_eq]; omega
   clear h
   go_enter Tryz.func203, Tryz.ntmps203
   go_wp2_with fail
   refine bodyPost_ret (v := .slice (some ⟨w.heap.size + 2, 0, none⟩) 1 1) (by simp [results, Tryz.results203, go_sem]) rfl ⟨hB2.trans (But.alloc _ _ _), _, rfl, ?_⟩
   have h9 := hlit ((w.alloc (.cells #[.int .u8 c0.toNat, .int .i64 m0, .int .u8 r0.toNat, .slice al lo.length capl, .slice ai ni capi] 115)).alloc (.cells #[.int .i64 pl, .int .u8 op.toNat, .int .u8 cl.toNat, .int .i64 nu, .slice pa pn pc] 219)) (by omega)
   simpa [btCells] using h9
  ·try (have e105 : ((op.toNat : Int) == 105) = false := by rw [beq_eq_false_iff_ne]; omega)
   have e111 : ((op.toNat : Int) == 111) = true := by rw [beq_iff_eq]; omega
   clear h
   go_enter Tryz.func203, Tryz.ntmps203
   go_wp2_with fail
   refine bodyPost_ret (v := .slice (some ⟨w.heap.size + 2, 0, none⟩) 1 1) (by simp [results, Tryz.results203, go_sem]) rfl ⟨hB2.trans (But.alloc _ _ _), _, rfl, ?_⟩
   have h9 := hlit ((w.alloc (.cells #[.int .u8 c0.toNat, .int .i64 m0, .int .u8 r0.toNat, .slice al lo.length capl, .slice ai ni capi] 115)).alloc (.cells #[.int .i64 pl, .int .u8 op.toNat, .int .u8 cl.toNat, .int .i64 nu, .slice pa pn pc] 219)) (by omega)
   simpa [btCells] using h9
 ·have e105 : ((op.toNat : Int) == 105) = false := by rw [beq_eq_false_iff_ne]; omega
  have e111 : ((op.toNat : Int) == 111) = false := by rw [beq_eq_false_iff_ne]; omega
  by_cases h2 : op.toNat = 115
  ·rw [show asksX cs ms lo op cl nu = [tatX lo nu] from by simp [asksX, h2]]
   have e115 : ((op.toNat : Int) == 115) = true := by rw [beq_iff_eq]; omega
   have hTA := xtypeAt_any al capl lo nu ((w.alloc (.cells #[.int .u8 c0.toNat, .int .i64 m0, .int .u8 r0.toNat, .slice al lo.length capl, .slice ai ni capi] 115)).alloc (.cells #[.int .i64 pl, .int .u8 op.toNat, .int .u8 cl.toNat, .int .i64 nu, .slice pa pn pc] 219)) (BtB.but hB hB2 (fun _ _ h => h))
   have HTA := hid hTA
   have hz2 := hB2.size
   have hlit := fun W h => BtB.lit W w.heap.size h [tatX lo nu] (by simp)
   clear h1 h2 hTA
   generalize tatX lo nu = z at *
   go_enter Tryz.func203, Tryz.ntmps203
   go_wp2_with fail
   refine HTA.out.mono ?_
   rintro en wx ⟨rfl, hwx⟩
   rw [hwx]
   clear hwx wx
   go_wp2_with fail
   refine bodyPost_ret (v := .slice (some ⟨w.heap.size + 2, 0, none⟩) 1 1) (by simp [results, Tryz.results203, go_sem]) rfl ⟨hB2.trans (But.alloc _ _ _), _, rfl, ?_⟩
   have h9 := hlit ((w.alloc (.cells #[.int .u8 c0.toNat, .int .i64 m0, .int .u8 r0.toNat, .slice al lo.length capl, .slice ai ni capi] 115)).alloc (.cells #[.int .i64 pl, .int .u8 op.toNat, .int .u8 cl.toNat, .int .i64 nu, .slice pa pn pc] 219)) (by omega)
   simpa [btCells] using h9
  ·rw [show asksX cs ms lo op cl nu = takesX cs ms op cl nu 45 from by simp [asksX, h1, h2]]
   have e115 : ((op.toNat : Int) == 115) = false := by rw [beq_eq_false_iff_ne]; omega
   have HTK := hid (xtakes_any b cs ms pl nu op cl 45 ((w.alloc (.cells #[.int .u8 c0.toNat, .int .i64 m0, .int .u8 r0.toNat, .slice al lo.length capl, .slice ai ni capi] 115)).alloc (.cells #[.int .i64 pl, .int .u8 op.toNat, .int .u8 cl.toNat, .int .i64 nu, .slice pa pn pc] 219)) (ap := pa) (np := pn) (cp := pc) hn hm (hT.but hB2) (hM.but hB2))
   have hz2 := hB2.size
   clear h1 h2
   go_enter Tryz.func203, Tryz.ntmps203
   go_wp2_with fail
   refine HTK.out.mono ?_
   rintro en w5 ⟨hB5, v, rfl, hv⟩
   go_wp2_with fail
   exact bodyPost_ret (v := v) (by simp [results, Tryz.results203, go_sem]) rfl ⟨hB2.trans hB5, v, rfl, World.ownsRow.mono hv hz2⟩
theorem xtypeOf_any (ap : Option Addr) (cp : Nat) (ps : List UInt8) (hn : cs.length ≤ 100) (hm : ms.length ≤ 100) (hT : TxC w b cs) (hM : TxM w b ms) (hB : BtB w 0 (.slice al lo.length capl) lo) (hP : BtB w 0 (.slice ap ps.length cp) ps) :
  Calls Tryz.prog 149 #[.pointer (some ⟨b, 0, none⟩), hdV c0 m0 r0 (.slice al lo.length capl) (.slice ai ni capi), itV x, .slice ap ps.length cp] w fun en w' => But (fun _ => False) w w' ∧ en = .returned (.int .u8 (typX cs ms lo x.op x.cls x.num ps).toNat) := by
 obtain ⟨pl, op, cl, nu, pa, pn, pc⟩ := x
 unfold itV hdV
 dsimp only
 have hB2 : But (fun _ => False) w ((w.alloc (.cells #[.int .u8 c0.toNat, .int .i64 m0, .int .u8 r0.toNat, .slice al lo.length capl, .slice ai ni capi] 115)).alloc (.cells #[.int .i64 pl, .int .u8 op.toNat, .int .u8 cl.toNat, .int .i64 nu, .slice pa pn pc] 219)) := (But.alloc _ _ _).trans (But.alloc _ _ _)
 have hP2 := BtB.but hP hB2 (fun _ _ h => h)
 by_cases h1 : op.toNat = 115 ∨ op.toNat = 112 ∨ op.toNat = 119 ∨ op.toNat = 111
 ·rw [show typX cs ms lo op cl nu ps = 105 from by simp [typX, h1]]
  rcases h1 with h | h | h | h
  ·try (have e115 : ((op.toNat : Int) == 115) = false := by rw [beq_eq_false_iff_ne]; omega)
   try (have e112 : ((op.toNat : Int) == 112) = false := by rw [beq_eq_false_iff_ne]; omega)
   try (have e119 : ((op.toNat : Int) == 119) = false := by rw [beq_eq_false_iff_ne]; omega)
   have e115 : ((op.toNat : Int) == 115) = true := by rw [beq_iff_eq]; omega
   clear h
   go_enter Tryz.func149, Tryz.ntmps149
   go_wp2_with fail
   go_ret
   exact ⟨hB2, rfl⟩
  ·try (have e115 : ((op.toNat : Int) == 115) = false := by rw [beq_eq_false_iff_ne]; omega)
   try (have e112 : ((op.toNat : Int) == 112) = false := by rw [beq_eq_false_iff_ne]; omega)
   try (have e119 : ((op.toNat : Int) == 119) = false := by rw [beq_eq_false_iff_ne]; omega)
   have e112 : ((op.toNat : Int) == 112) = true := by rw [beq_iff_eq]; omega
   clear h
   go_enter Tryz.func149, Tryz.ntmps149
   go_wp2_with fail
   go_ret
   exact ⟨hB2, rfl⟩
  ·try (have e115 : ((op.toNat : Int) == 115) = false := by rw [beq_eq_false_iff_ne]; omega)
   try (have e112 : ((op.toNat : Int) == 112) = false := by rw [beq_eq_false_iff_ne]; omega)
   try (have e119 : ((op.toNat : Int) == 119) = false := by rw [beq_eq_false_iff_ne]; omega)
   have e119 : ((op.toNat : Int) == 119) = true := by rw [beq_iff_eq]; omega
   clear h
   go_enter Tryz.func149, Tryz.ntmps149
   go_wp2_with fail
   go_ret
   exact ⟨hB2, rfl⟩
  ·try (have e115 : ((op.toNat : Int) == 115) = false := by rw [beq_eq_false_iff_ne]; omega)
   try (have e112 : ((op.toNat : Int) == 112) = false := by rw [beq_eq_false_iff_ne]; omega)
   try (have e119 : ((op.toNat : Int) == 119) = false := by rw [beq_eq_false_iff_ne]; omega)
   have e111 : ((op.toNat : Int) == 111) = true := by rw [beq_iff_eq]; omega
   clear h
   go_enter Tryz.func149, Tryz.ntmps149
   go_wp2_with fail
   go_ret
   exact ⟨hB2, rfl⟩
 ·have e115 : ((op.toNat : Int) == 115) = false := by rw [beq_eq_false_iff_ne]; omega
  have e112 : ((op.toNat : Int) == 112) = false := by rw [beq_eq_false_iff_ne]; omega
  have e119 : ((op.toNat : Int) == 119) = false := by rw [beq_eq_false_iff_ne]; omega
  have e111 : ((op.toNat : Int) == 111) = false := by rw [beq_eq_false_iff_ne]; omega
  have HP2 := hid hP2
  by_cases h2 : op.toNat = 44
  ·rw [show typX cs ms lo op cl nu ps = tatX ps 1 from by simp [typX, h2]]
   have e44 : ((op.toNat : Int) == 44) = true := by rw [beq_iff_eq]; omega
   have HTA := hid (xtypeAt_any ap cp ps 1 _ hP2)
   clear h1 h2
   go_enter Tryz.func149, Tryz.ntmps149
   go_wp2_with fail
   refine HTA.out.mono ?_
   rintro en wx ⟨rfl, hwx⟩
   rw [hwx]
   clear hwx wx
   go_wp2_with fail
   go_ret
   exact ⟨hB2, rfl⟩
  ·have e44 : ((op.toNat : Int) == 44) = false := by rw [beq_eq_false_iff_ne]; omega
   by_cases h3 : op.toNat = 105
   ·rw [show typX cs ms lo op cl nu ps = meetX cs (tatX ps 1) (tatX ps 2) from by simp [typX, h3]]
    have e105 : ((op.toNat : Int) == 105) = true := by rw [beq_iff_eq]; omega
    have HT1 := hid (xtypeAt_any ap cp ps 1 _ hP2)
    have HT2 := hid (xtypeAt_any ap cp ps 2 _ hP2)
    have HMT := hid (xmeeting_any b cs (tatX ps 1) (tatX ps 2) _ hn (hT.but hB2))
    clear h1 h2 h3
    go_enter Tryz.func149, Tryz.ntmps149
    go_wp2_with fail
    refine HT1.out.mono ?_
    rintro en wx ⟨rfl, hwx⟩
    rw [hwx]
    clear hwx wx
    go_wp2_with fail
    refine HT2.out.mono ?_
    rintro en wx ⟨rfl, hwx⟩
    rw [hwx]
    clear hwx wx
    go_wp2_with fail
    refine HMT.out.mono ?_
    rintro en wx ⟨rfl, hwx⟩
    rw [hwx]
    clear hwx wx
    go_wp2_with fail
    go_ret
    exact ⟨hB2, rfl⟩
   ·have e105 : ((op.toNat : Int) == 105) = false := by rw [beq_eq_false_iff_ne]; omega
    rw [show typX cs ms lo op cl nu ps = laysX cs ms op cl nu lo from by simp [typX, h1, h2, h3]]
    have HLY := hid (xlays_any b cs ms pl nu op cl al capl lo _ (ap := pa) (np := pn) (cp := pc) hn hm (hT.but hB2) (hM.but hB2) (BtB.but hB hB2 (fun _ _ h => h)))
    clear h1 h2 h3
    go_enter Tryz.func149, Tryz.ntmps149
    go_wp2_with fail
    refine HLY.out.mono ?_
    rintro en w5 ⟨rfl, hB5⟩
    go_wp2_with fail
    go_ret
    exact ⟨hB2.trans hB5, rfl⟩
def accX (cs : List XCls) (ak ps : List UInt8) : Bool := (List.range ak.length).all fun i => suitsX cs (tatX ps i) (ak.getD i 0)
theorem accX_no {cs : List XCls} {ak ps : List UInt8} {i : Nat} (hi : i < ak.length) (h : suitsX cs (tatX ps i) (ak.getD i 0) = false) : accX cs ak ps = false := by
 unfold accX
 rw [List.all_eq_false]
 exact ⟨i, List.mem_range.2 hi, by rw [h]; simp⟩
theorem accX_yes {cs : List XCls} {ak ps : List UInt8} (h : ∀ i, i < ak.length → suitsX cs (tatX ps i) (ak.getD i 0) = true) : accX cs ak ps = true := by
 unfold accX
 rw [List.all_eq_true]
 exact fun i hi => h i (List.mem_range.1 hi)
theorem xaccepts_any (ap : Option Addr) (cp : Nat) (ps : List UInt8) (hn : cs.length ≤ 100) (hm : ms.length ≤ 100) (hT : TxC w b cs) (hM : TxM w b ms) (hB : BtB w 0 (.slice al lo.length capl) lo) (hP : BtB w 0 (.slice ap ps.length cp) ps) (hak : (asksX cs ms lo x.op x.cls x.num).length ≤ 100) :
  Calls Tryz.prog 148 #[.pointer (some ⟨b, 0, none⟩), hdV c0 m0 r0 (.slice al lo.length capl) (.slice ai ni capi), itV x, .slice ap ps.length cp] w fun en w' => But (fun _ => False) w w' ∧ en = .returned (.bool (accX cs (asksX cs ms lo x.op x.cls x.num) ps)) := by
 have hB2 : But (fun _ => False) w ((w.alloc (.cells #[.int .u8 c0.toNat, .int .i64 m0, .int .u8 r0.toNat, .slice al lo.length capl, .slice ai ni capi] 115)).alloc (.cells #[.int .i64 x.place, .int .u8 x.op.toNat, .int .u8 x.cls.toNat, .int .i64 x.num, .slice x.pa x.pn x.pc] 219)) := (But.alloc _ _ _).trans (But.alloc _ _ _)
 have HAS := hid (xasks_any b cs ms c0 m0 r0 al ai capl ni capi lo x ((w.alloc (.cells #[.int .u8 c0.toNat, .int .i64 m0, .int .u8 r0.toNat, .slice al lo.length capl, .slice ai ni capi] 115)).alloc (.cells #[.int .i64 x.place, .int .u8 x.op.toNat, .int .u8 x.cls.toNat, .int .i64 x.num, .slice x.pa x.pn x.pc] 219)) hn hm (hT.but hB2) (hM.but hB2) (BtB.but hB hB2 (fun _ _ h => h)))
 obtain ⟨A, hA⟩ : ∃ A, asksX cs ms lo x.op x.cls x.num = A := ⟨_, rfl⟩
 rw [hA] at HAS hak ⊢
 clear hA
 obtain ⟨R, hRR⟩ : ∃ R, accX cs A ps = R := ⟨_, rfl⟩
 rw [hRR]
 have HRR := hid hRR
 clear hRR
 unfold itV hdV at *
 go_enter Tryz.func148, Tryz.ntmps148
 go_wp2_with fail
 refine HAS.out.mono ?_
 rintro en w1 ⟨hB1', v, rfl, hv⟩
 obtain ⟨av, cv, rfl⟩ := owns_len hv
 have hB1 := hB2.trans hB1'
 clear HAS hB1' hB2
 go_wp2_with fail
 go_loopg [10] A.length (fun mm ks wr => ∃ (k : Nat), ks = .int .i64 k ∧ k ≤ A.length ∧ k + mm ≤ A.length ∧ A.length ≤ k + mm ∧ But (fun _ => False) w1 wr ∧ Hid (∀ i, i < k → suitsX cs (tatX ps i) (A.getD i 0) = true))
 case atStart => exact ⟨0, rfl, by omega, by omega, by omega, But.refl _ _, fun i h => absurd h (by omega)⟩
 case round =>
  obtain ⟨k, rfl, hk1, hk2, hk3, hBr, HA⟩ := hrel
  have hBw := hB1.trans hBr
  by_cases hlt : k < A.length
  ·have hlI : (k : Int) < (A.length : Int) := by omega
   have hvr := BtB.but hv hBr (fun _ _ h => h)
   obtain ⟨g, rfl, hg1, hg2, hcell⟩ := owns_two hvr (by omega)
   have qk := hcell _ _ (btCells_at hlt)
   have HTA := hid (xtypeAt_any ap cp ps k wr.drew (BtB.but hP (hBw.trans (But.drew _ _)) (fun _ _ h => h)))
   have HSU := hid (xsuits_any b cs (tatX ps k) (A.getD k 0) wr.drew hn (hT.but (hBw.trans (But.drew _ _))))
   have HX : Hid ((suitsX cs (tatX ps k) (A.getD k 0) = false → R = false) ∧ (suitsX cs (tatX ps k) (A.getD k 0) = true → ∀ i, i < k + 1 → suitsX cs (tatX ps i) (A.getD i 0) = true)) := by
    refine hid ⟨fun h => by rw [← HRR.out]; exact accX_no hlt h, fun h i hi => ?_⟩
    rcases Nat.lt_or_ge i k with h' | h'
    ·exact HA.out i h'
    ·have : i = k := by omega
     subst this
     exact h
   clear hcell
   revert HSU HX qk HTA
   generalize tatX ps k = P
   generalize A.getD k 0 = Q
   intro qk HTA HSU HX
   go_wp2_with fail
   have hS0 : But (fun _ => False) wr wr.drew := But.drew _ _
   refine wpP_begin (But (fun _ => False) wr) 10 (by kernel_rfl) ?_
   refine wpP_take (k := 0) (v := ?vA0) rfl (by decide) (by kernel_rfl) (fun _ _ _ h => h) rfl hS0 ?yA0 ?rA0
   case yA0 => intro wS h; have q0 := ((h.cell (p := ⟨g, k, none⟩) hg1 (fun h => h)).trans qk); clear h; go_simp; try rfl
   dsimp only [Act.put]
   try simp only [puts]
   refine wpP_take (k := 1) (v := ?vA1) rfl (by decide) (by kernel_rfl) (fun _ _ _ h => h) rfl hS0 ?yA1 ?rA1
   case yA1 => intro wS h; have q0 := ((h.cell (p := ⟨g, k, none⟩) hg1 (fun h => h)).trans qk); clear h; go_simp; try rfl
   dsimp only [Act.put]
   try simp only [puts]
   refine wpP_take (k := 2) (v := ?vA2) rfl (by decide) (by kernel_rfl) (fun _ _ _ h => h) rfl hS0 ?yA2 ?rA2
   case yA2 => intro wS h; have q0 := ((h.cell (p := ⟨g, k, none⟩) hg1 (fun h => h)).trans qk); clear h; go_simp; try rfl
   dsimp only [Act.put]
   try simp only [puts]
   refine wpP_take (k := 4) (v := ?vA4) rfl (by decide) (by kernel_rfl) (fun _ _ _ h => h) rfl hS0 ?yA4 ?rA4
   case yA4 => intro wS h; have q0 := ((h.cell (p := ⟨g, k, none⟩) hg1 (fun h => h)).trans qk); clear h; go_simp; try rfl
   dsimp only [Act.put]
   try simp only [puts]
   refine wpP_take (k := 5) (v := ?vA5) rfl (by decide) (by kernel_rfl) (fun _ _ _ h => h) rfl hS0 ?yA5 ?rA5
   case yA5 => intro wS h; have q0 := ((h.cell (p := ⟨g, k, none⟩) hg1 (fun h => h)).trans qk); clear h; go_simp; try rfl
   dsimp only [Act.put]
   try simp only [puts]
   refine wpP_take (k := 6) (v := ?vA6) rfl (by decide) (by kernel_rfl) (fun _ _ _ h => h) rfl hS0 ?yA6 ?rA6
   case yA6 => intro wS h; have q0 := ((h.cell (p := ⟨g, k, none⟩) hg1 (fun h => h)).trans qk); clear h; go_simp; try rfl
   dsimp only [Act.put]
   try simp only [puts]
   refine wpP_take (k := 7) (v := ?vA7) rfl (by decide) (by kernel_rfl) (fun _ _ _ h => h) rfl hS0 ?yA7 ?rA7
   case yA7 => intro wS h; have q0 := ((h.cell (p := ⟨g, k, none⟩) hg1 (fun h => h)).trans qk); clear h; go_simp; try rfl
   dsimp only [Act.put]
   try simp only [puts]
   refine wpP_step (k := 3) rfl (by decide) (by kernel_rfl) ?_
   intro KS hKS
   go_simp
   refine HTA.out.mono ?_
   rintro en wx ⟨rfl, hwx⟩
   rw [hwx]
   clear hwx wx
   refine hKS.out _ _ (fun _ => hS0) ?_
   clear hKS KS
   refine wpP_step (k := 8) rfl (by decide) (by kernel_rfl) ?_
   intro KS hKS
   go_simp
   refine HSU.out.mono ?_
   rintro en wx ⟨rfl, hwx⟩
   rw [hwx]
   clear hwx wx
   refine hKS.out _ _ (fun _ => hS0) ?_
   clear hKS KS
   refine wpP_step (k := 9) rfl (by decide) (by kernel_rfl) ?_
   intro KS hKS
   go_simp
   refine hKS.out _ _ (fun _ => hS0) ?_
   clear hKS KS
   refine wpP_done rfl (by kernel_rfl) ?_
   have hBd := hBr.trans hS0
   have HX' := HX.out
   clear HX HTA HSU qk hS0
   generalize wr.drew = wd at *
   cases hq : suitsX cs P Q with
   | false =>
    have hres : R = false := HX'.1 hq
    subst hres
    clear HX' hq
    go_wp2_with fail
    go_ret
    exact ⟨hB1.trans hBd, rfl⟩
   | true =>
    have HY := hid (HX'.2 hq)
    clear HX' hq
    go_wp2_with fail
    go_roundg (A.length - (k + 1))
    case measure => omega
    case rel => exact ⟨k + 1, by simp, by omega, by omega, by omega, hBd, HY⟩
  ·have hlI : ¬ (k : Int) < (A.length : Int) := by omega
   have hres : R = true := by rw [← HRR.out]; exact accX_yes (fun i hi => HA.out i (by omega))
   subst hres
   go_wp2_with fail
   go_ret
   exact ⟨hBw, rfl⟩
end
end Go.Proofs.YtpfkkmacakjmbaaGreatDoor
