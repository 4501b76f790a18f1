import Derived.Test.YtpfkkmacakjmbaaGreatDoorP23
import Derived.Test.YtpfkkmacakjmbaaGreatDoorP24
import Derived.Test.YtpfkkmacakjmbaaGreatDoorP22
set_option maxRecDepth 100000
set_option maxHeartbeats 6400000
namespace Go.Proofs.YtpfkkmacakjmbaaGreatDoor
open Go Go.RowKit Sp
set_option linter.unusedSimpArgs false
set_option linter.unusedVariables false
attribute [local go_sem ↓] Go.wp_at_zero Go.wp_at_succ
theorem xtypesOf_any (x : XIt) (ps : List Nat) (ty : List UInt8) (ao : Option Addr) (ct : Nat) (w : World) (hl : ps.length ≤ 3) (hps : ∀ k ∈ ps, k ≤ 100) (hP : w.ownsRow 0 3 1 (.slice x.pa x.pn x.pc) ps.length (intC ps)) (hT : BtB w 0 (.slice ao ty.length ct) ty) :
  Calls Tryz.prog 147 #[itV x, .slice ao ty.length ct] w fun en w' => But (fun _ => False) w w' ∧ ∃ a' c', en = .returned (.slice a' ps.length c') ∧ BtB w' w.heap.size (.slice a' ps.length c') (ps.map (tatX ty)) := by
 obtain ⟨i0, hi0, hz0, hz1, hz2⟩ := info_parts info_u8
 obtain ⟨pl, op, cl, nu, pa, pn, pc⟩ := x
 have hpn : pn = ps.length := by
  obtain ⟨a', c', h⟩ := owns_len hP
  injection h
 subst hpn
 unfold itV
 dsimp only at hP ⊢
 have hB0 : But (fun _ => False) w (w.alloc (.cells #[.int .i64 pl, .int .u8 op.toNat, .int .u8 cl.toNat, .int .i64 nu, .slice pa ps.length pc] 219)) := But.alloc _ _ _
 have hg0 : (w.alloc (.cells #[.int .i64 pl, .int .u8 op.toNat, .int .u8 cl.toNat, .int .i64 nu, .slice pa ps.length pc] 219)).heap[w.heap.size]? = some (.cells #[.int .i64 pl, .int .u8 op.toNat, .int .u8 cl.toNat, .int .i64 nu, .slice pa ps.length pc] 219) := heap_alloc_new _ _
 go_enter Tryz.func147, Tryz.ntmps147
 go_wp2_with fail
 have hze : (w.alloc (.cells #[.int .i64 pl, .int .u8 op.toNat, .int .u8 cl.toNat, .int .i64 nu, .slice pa ps.length pc] 219)).heap.size = w.heap.size + 1 := by simp
 generalize (w.alloc (.cells #[.int .i64 pl, .int .u8 op.toNat, .int .u8 cl.toNat, .int .i64 nu, .slice pa ps.length pc] 219)) = w1 at *
 have hE := BtB.empty w1
 rw [hze] at hE
 have hz1' := hB0.size
 have hB2 : But (fun _ => False) w (w1.alloc (.cells #[] 5)) := hB0.trans (But.alloc _ _ _)
 go_loopg [5, 6] ps.length (fun mm vs ks wr => ∃ (a' : Option Addr) (c' k : Nat) (l : List UInt8), vs = .slice a' k c' ∧ ks = .int .i64 k ∧ k ≤ ps.length ∧ k + mm ≤ ps.length ∧ ps.length ≤ k + mm ∧ wr.ownsRow (w.heap.size + 1) 5 1 (.slice a' k c') k (btCells l) ∧ But (fun _ => False) w wr ∧ w.heap.size + 1 ≤ wr.heap.size ∧ wr.heap[w.heap.size]? = some (.cells #[.int .i64 pl, .int .u8 op.toNat, .int .u8 cl.toNat, .int .i64 nu, .slice pa ps.length pc] 219) ∧ Hid (l = (ps.take k).map (tatX ty)))
 case atStart => exact ⟨_, 0, 0, [], rfl, rfl, by omega, by omega, by omega, hE, hB2, by simp; omega, ((But.alloc (fun _ => False) w1 _).block _ (lt_of_block hg0) (fun h => h)).trans hg0, rfl⟩
 case round =>
  obtain ⟨a', c', k, l, rfl, rfl, hk1, hk2, hk3, hOr, hBr, hzr, hgr, HL⟩ := hrel
  have q4 : wr.cell? ⟨w.heap.size, 4, none⟩ = some (.slice pa ps.length pc) := by rw [cell_of_row wr _ 4 _ _ (0, 0) hgr]; rfl
  have hgl := lt_of_block hgr
  by_cases hlt : k < ps.length
  ·have hlI : (k : Int) < (ps.length : Int) := by omega
   obtain ⟨g, rfl, hg1, hg2, hcell⟩ := owns_two (owns_but hP hBr (fun _ _ h => h)) (by omega)
   obtain ⟨v, hv⟩ : ∃ v, ps[k] = v := ⟨_, rfl⟩
   have qk := hcell _ _ (intC_at (List.getElem?_eq_getElem hlt))
   rw [hv] at qk
   have HTA := hid (xtypeAt_any ao ct ty v wr (BtB.but hT hBr (fun _ _ h => h)))
   have HN : Hid (l ++ [tatX ty v] = (ps.take (k + 1)).map (tatX ty)) := by
    show _ = _
    rw [HL.out, List.take_add_one, List.getElem?_eq_getElem hlt, hv]
    simp
   clear hcell hv
   generalize tatX ty v = z at *
   go_wp2_with fail
   refine HTA.out.mono ?_
   rintro en wx ⟨rfl, hwx⟩
   rw [hwx]
   clear hwx wx HTA
   have hge := owns_ge hOr
   go_wp2_with (at_builtin; refine wpList_append_lies _ rfl _ _ _ rfl (w.heap.size + 1) 5 i0 _ 1 1 (by kernel_rfl) hi0 hz0 hz1 hz2 rfl (by omega) _ k (btCells l) rfl (hOr.alloc _) ⟨wr.heap.size, 0, none⟩ 1 1 [.int .u8 z.toNat] rfl rfl (World.news_of_block (cs := #[.int .u8 z.toNat]) (t := 5) (fr := (0, 0)) (heap_alloc_new wr _)) (by simp [Value.oneCell']) (by omega) (by unfold maxLen; omega) (by omega) (by simp; omega) (wr.heap.size + 1) (by simp) ?_)
   intro gg cap3 w5 hown2 hgrow hat hlt2
   have hSW : But (fun k' => (Value.slice a' k c').ownBlock = some k') wr w5 := (But.alloc _ _ _).trans (but_grown hgrow)
   have hBw5 : But (fun _ => False) w w5 := hBr.next hSW (fun k' hk' h => absurd (hge k' h) (by omega))
   have hgl1 := lt_of_block hg0
   have hg5 := (hSW.block _ hgl (fun h => absurd (hge _ h) (by omega))).trans hgr
   have hz5 := hSW.size
   clear q4 qk
   go_wp2_with fail
   go_roundg (ps.length - (k + 1))
   case measure => omega
   case rel => exact ⟨some ⟨gg, 0, none⟩, cap3, k + 1, l ++ [z], by simp, by simp, by omega, by omega, by omega, by rw [show btCells (l ++ [z]) = btCells l ++ [.int .u8 z.toNat] from by simp [btCells]]; exact hown2, hBw5, by omega, hg5, HN⟩
  ·have hlI : ¬ (k : Int) < (ps.length : Int) := by omega
   have hkn : k = ps.length := by omega
   subst hkn
   have hfin : BtB wr w.heap.size (.slice a' ps.length c') (ps.map (tatX ty)) := by
    have h1 := HL.out
    rw [List.take_length] at h1
    unfold BtB
    rw [← h1, show l.length = ps.length from by rw [h1]; simp]
    exact World.ownsRow.mono hOr (by omega)
   go_wp2_with fail
   exact bodyPost_ret (v := .slice a' ps.length c') (by simp [results, Tryz.results147, go_sem]) rfl ⟨hBr, a', c', rfl, hfin⟩
def asksX (cs : List XCls) (ms : List Sig) (lo : List UInt8) (c k : UInt8) (n : Nat) : List UInt8 :=
 if c.toNat = 105 ∨ c.toNat = 111 then [105] else if c.toNat = 115 then [tatX lo n] else takesX cs ms c k n 45
def typX (cs : List XCls) (ms : List Sig) (lo : List UInt8) (c k : UInt8) (n : Nat) (ps : List UInt8) : UInt8 :=
 if c.toNat = 115 ∨ c.toNat = 112 ∨ c.toNat = 119 ∨ c.toNat = 111 then 105 else if c.toNat = 44 then tatX ps 1 else if c.toNat = 105 then meetX cs (tatX ps 1) (tatX ps 2) else laysX cs ms c k n lo
section
variable (b : Nat) (cs : List XCls) (ms : List Sig) (c0 : UInt8) (m0 : Nat) (r0 : UInt8) (al ai : Option Addr) (capl ni capi : Nat) (lo : List UInt8) (x : XIt) (w : World)
theorem xasks_any (hn : cs.length ≤ 100) (hm : ms.length ≤ 100) (hT : TxC w b cs) (hM : TxM w b ms) (hB : BtB w 0 (.slice al lo.length capl) lo) :
  Calls Tryz.prog 203 #[.pointer (some ⟨b, 0, none⟩), hdV c0 m0 r0 (.slice al lo.length capl) (.slice ai ni capi), itV x] w fun en w' => But (fun _ => False) w w' ∧ ∃ v, en = .returned v ∧ BtB w' w.heap.size v (asksX cs ms lo x.op x.cls x.num) := by
 obtain ⟨pl, op, cl, nu, pa, pn, pc⟩ := x
 unfold itV hdV
 dsimp only
 have hB2 : But (fun _ => False) w ((w.alloc (.cells #[.int .u8 c0.toNat, .int .i64 m0, .int .u8 r0.toNat, .slice al lo.length capl, .slice ai ni capi] 115)).alloc (.cells #[.int .i64 pl, .int .u8 op.toNat, .int .u8 cl.toNat, .int .i64 nu, .slice pa pn pc] 219)) := (But.alloc _ _ _).trans (But.alloc _ _ _)
 by_cases h1 : op.toNat = 105 ∨ op.toNat = 111
 ·rw [show asksX cs ms lo op cl nu = [105] from by simp [asksX, h1]]
  have hz2 := hB2.size
  have hlit := fun W h => BtB.lit W w.heap.size h [105] (by simp)
  rcases h1 with h | h
  ·try (have e105 : ((op.toNat : Int) == 105) = false := by rw [beq_eq_false_iff_ne]; omega)
   have e105 : ((op.toNat : Int) == 105) = true := by rw [beq_iff_eq]; omega
   clear h
   go_enter Tryz.func203, Tryz.ntmps203
   go_wp2_with fail
   refine bodyPost_ret (v := .slice (some ⟨w.heap.size + 2, 0, none⟩) 1 1) (by simp [results, Tryz.results203, go_sem]) rfl ⟨hB2.trans (But.alloc _ _ _), _, rfl, ?_⟩
   have h9 := hlit ((w.alloc (.cells #[.int .u8 c0.toNat, .int .i64 m0, .int .u8 r0.toNat, .slice al lo.length capl, .slice ai ni capi] 115)).alloc (.cells #[.int .i64 pl, .int .u8 op.toNat, .int .u8 cl.toNat, .int .i64 nu, .slice pa pn pc] 219)) (by omega)
   simpa [btCells] using h9
  ·try (have e105 : ((op.toNat : Int) == 105) = false := by rw [beq_eq_false_iff_ne]; omega)
   have e111 : ((op.toNat : Int) == 111) = true := by rw [beq_iff_eq]; omega
   clear h
   go_enter Tryz.func203, Tryz.ntmps203
   go_wp2_with fail
   refine bodyPost_ret (v := .slice (some ⟨w.heap.size + 2, 0, none⟩) 1 1) (by simp [results, Tryz.results203, go_sem]) rfl ⟨hB2.trans (But.alloc _ _ _), _, rfl, ?_⟩
   have h9 := hlit ((w.alloc (.cells #[.int .u8 c0.toNat, .int .i64 m0, .int .u8 r0.toNat, .slice al lo.length capl, .slice ai ni capi] 115)).alloc (.cells #[.int .i64 pl, .int .u8 op.toNat, .int .u8 cl.toNat, .int .i64 nu, .slice pa pn pc] 219)) (by omega)
   simpa [btCells] using h9
 ·have e105 : ((op.toNat : Int) == 105) = false := by rw [beq_eq_false_iff_ne]; omega
  have e111 : ((op.toNat : Int) == 111) = false := by rw [beq_eq_false_iff_ne]; omega
  by_cases h2 : op.toNat = 115
  ·rw [show asksX cs ms lo op cl nu = [tatX lo nu] from by simp [asksX, h2]]
   have e115 : ((op.toNat : Int) == 115) = true := by rw [beq_iff_eq]; omega
   have hTA := xtypeAt_any al capl lo nu ((w.alloc (.cells #[.int .u8 c0.toNat, .int .i64 m0, .int .u8 r0.toNat, .slice al lo.length capl, .slice ai ni capi] 115)).alloc (.cells #[.int .i64 pl, .int .u8 op.toNat, .int .u8 cl.toNat, .int .i64 nu, .slice pa pn pc] 219)) (BtB.but hB hB2 (fun _ _ h => h))
   have HTA := hid hTA
   have hz2 := hB2.size
   have hlit := fun W h => BtB.lit W w.heap.size h [tatX lo nu] (by simp)
   clear h1 h2 hTA
   generalize tatX lo nu = z at *
   go_enter Tryz.func203, Tryz.ntmps203
   go_wp2_with fail
   refine HTA.out.mono ?_
   rintro en wx ⟨rfl, hwx⟩
   rw [hwx]
   clear hwx wx
   go_wp2_with fail
   refine bodyPost_ret (v := .slice (some ⟨w.heap.size + 2, 0, none⟩) 1 1) (by simp [results, Tryz.results203, go_sem]) rfl ⟨hB2.trans (But.alloc _ _ _), _, rfl, ?_⟩
   have h9 := hlit ((w.alloc (.cells #[.int .u8 c0.toNat, .int .i64 m0, .int .u8 r0.toNat, .slice al lo.length capl, .slice ai ni capi] 115)).alloc (.cells #[.int .i64 pl, .int .u8 op.toNat, .int .u8 cl.toNat, .int .i64 nu, .slice pa pn pc] 219)) (by omega)
   simpa [btCells] using h9
  ·rw [show asksX cs ms lo op cl nu = takesX cs ms op cl nu 45 from by simp [asksX, h1, h2]]
   have e115 : ((op.toNat : Int) == 115) = false := by rw [beq_eq_false_iff_ne]; omega
   have HTK := hid (xtakes_any b cs ms pl nu op cl 45 ((w.alloc (.cells #[.int .u8 c0.toNat, .int .i64 m0, .int .u8 r0.toNat, .slice al lo.length capl, .slice ai ni capi] 115)).alloc (.cells #[.int .i64 pl, .int .u8 op.toNat, .int .u8 cl.toNat, .int .i64 nu, .slice pa pn pc] 219)) (ap := pa) (np := pn) (cp := pc) hn hm (hT.but hB2) (hM.but hB2))
   have hz2 := hB2.size
   clear h1 h2
   go_enter Tryz.func203, Tryz.ntmps203
   go_wp2_with fail
   refine HTK.out.mono ?_
   rintro en w5 ⟨hB5, v, rfl, hv⟩
   go_wp2_with fail
   exact bodyPost_ret (v := v) (by simp [results, Tryz.results203, go_sem]) rfl ⟨hB2.trans hB5, v, rfl, World.ownsRow.mono hv hz2⟩
theorem xtypeOf_any (ap : Option Addr) (cp : Nat) (ps : List UInt8) (hn : cs.length ≤ 100) (hm : ms.length ≤ 100) (hT : TxC w b cs) (hM : TxM w b ms) (hB : BtB w 0 (.slice al lo.length capl) lo) (hP : BtB w 0 (.slice ap ps.length cp) ps) :
  Calls Tryz.prog 149 #[.pointer (some ⟨b, 0, none⟩), hdV c0 m0 r0 (.slice al lo.length capl) (.slice ai ni capi), itV x, .slice ap ps.length cp] w fun en w' => But (fun _ => False) w w' ∧ en = .returned (.int .u8 (typX cs ms lo x.op x.cls x.num ps).toNat) := by
 obtain ⟨pl, op, cl, nu, pa, pn, pc⟩ := x
 unfold itV hdV
 dsimp only
 have hB2 : But (fun _ => False) w ((w.alloc (.cells #[.int .u8 c0.toNat, .int .i64 m0, .int .u8 r0.toNat, .slice al lo.length capl, .slice ai ni capi] 115)).alloc (.cells #[.int .i64 pl, .int .u8 op.toNat, .int .u8 cl.toNat, .int .i64 nu, .slice pa pn pc] 219)) := (But.alloc _ _ _).trans (But.alloc _ _ _)
 have hP2 := BtB.but hP hB2 (fun _ _ h => h)
 by_cases h1 : op.toNat = 115 ∨ op.toNat = 112 ∨ op.toNat = 119 ∨ op.toNat = 111
 ·rw [show typX cs ms lo op cl nu ps = 105 from by simp [typX, h1]]
  rcases h1 with h | h | h | h
  ·try (have e115 : ((op.toNat : Int) == 115) = false := by rw [beq_eq_false_iff_ne]; omega)
   try (have e112 : ((op.toNat : Int) == 112) = false := by rw [beq_eq_false_iff_ne]; omega)
   try (have e119 : ((op.toNat : Int) == 119) = false := by rw [beq_eq_false_iff_ne]; omega)
   have e115 : ((op.toNat : Int) == 115) = true := by rw [beq_iff_eq]; omega
   clear h
   go_enter Tryz.func149, Tryz.ntmps149
   go_wp2_with fail
   go_ret
   exact ⟨hB2, rfl⟩
  ·try (have e115 : ((op.toNat : Int) == 115) = false := by rw [beq_eq_false_iff_ne]; omega)
   try (have e112 : ((op.toNat : Int) == 112) = false := by rw [beq_eq_false_iff_ne]; omega)
   try (have e119 : ((op.toNat : Int) == 119) = false := by rw [beq_eq_false_iff_ne]; omega)
   have e112 : ((op.toNat : Int) == 112) = true := by rw [beq_iff_eq]; omega
   clear h
   go_enter Tryz.func149, Tryz.ntmps149
   go_wp2_with fail
   go_ret
   exact ⟨hB2, rfl⟩
  ·try (have e115 : ((op.toNat : Int) == 115) = false := by rw [beq_eq_false_iff_ne]; omega)
   try (have e112 : ((op.toNat : Int) == 112) = false := by rw [beq_eq_false_iff_ne]; omega)
   try (have e119 : ((op.toNat : Int) == 119) = false := by rw [beq_eq_false_iff_ne]; omega)
   have e119 : ((op.toNat : Int) == 119) = true := by rw [beq_iff_eq]; omega
   clear h
   go_enter Tryz.func149, Tryz.ntmps149
   go_wp2_with fail
   go_ret
   exact ⟨hB2, rfl⟩
  ·try (have e115 : ((op.toNat : Int) == 115) = false := by rw [beq_eq_false_iff_ne]; omega)
   try (have e112 : ((op.toNat : Int) == 112) = false := by rw [beq_eq_false_iff_ne]; omega)
   try (have e119 : ((op.toNat : Int) == 119) = false := by rw [beq_eq_false_iff_ne]; omega)
   have e111 : ((op.toNat : Int) == 111) = true := by rw [beq_iff_eq]; omega
   clear h
   go_enter Tryz.func149, Tryz.ntmps149
   go_wp2_with fail
   go_ret
   exact ⟨hB2, rfl⟩
 ·have e115 : ((op.toNat : Int) == 115) = false := by rw [beq_eq_false_iff_ne]; omega
  have e112 : ((op.toNat : Int) == 112) = false := by rw [beq_eq_false_iff_ne]; omega
  have e119 : ((op.toNat : Int) == 119) = false := by rw [beq_eq_false_iff_ne]; omega
  have e111 : ((op.toNat : Int) == 111) = false := by rw [beq_eq_false_iff_ne]; omega
  have HP2 := hid hP2
  by_cases h2 : op.toNat = 44
  ·rw [show typX cs ms lo op cl nu ps = tatX ps 1 from by simp [typX, h2]]
   have e44 : ((op.toNat : Int) == 44) = true := by rw [beq_iff_eq]; omega
   have HTA := hid (xtypeAt_any ap cp ps 1 _ hP2)
   clear h1 h2
   go_enter Tryz.func149, Tryz.ntmps149
   go_wp2_with fail
   refine HTA.out.mono ?_
   rintro en wx ⟨rfl, hwx⟩
   rw [hwx]
   clear hwx wx
   go_wp2_with fail
   go_ret
   exact ⟨hB2, rfl⟩
  ·have e44 : ((op.toNat : Int) == 44) = false := by rw [beq_eq_false_iff_ne]; omega
   by_cases h3 : op.toNat = 105
   ·rw [show typX cs ms lo op cl nu ps = meetX cs (tatX ps 1) (tatX ps 2) from by simp [typX, h3]]
    have e105 : ((op.toNat : Int) == 105) = true := by rw [beq_iff_eq]; omega
    have HT1 := hid (xtypeAt_any ap cp ps 1 _ hP2)
    have HT2 := hid (xtypeAt_any ap cp ps 2 _ hP2)
    have HMT := hid (xmeeting_any b cs (tatX ps 1) (tatX ps 2) _ hn (hT.but hB2))
    clear h1 h2 h3
    go_enter Tryz.func149, Tryz.ntmps149
    go_wp2_with fail
    refine HT1.out.mono ?_
    rintro en wx ⟨rfl, hwx⟩
    rw [hwx]
    clear hwx wx
    go_wp2_with fail
    refine HT2.out.mono ?_
    rintro en wx ⟨rfl, hwx⟩
    rw [hwx]
    clear hwx wx
    go_wp2_with fail
    refine HMT.out.mono ?_
    rintro en wx ⟨rfl, hwx⟩
    rw [hwx]
    clear hwx wx
    go_wp2_with fail
    go_ret
    exact ⟨hB2, rfl⟩
   ·have e105 : ((op.toNat : Int) == 105) = false := by rw [beq_eq_false_iff_ne]; omega
    rw [show typX cs ms lo op cl nu ps = laysX cs ms op cl nu lo from by simp [typX, h1, h2, h3]]
    have HLY := hid (xlays_any b cs ms pl nu op cl al capl lo _ (ap := pa) (np := pn) (cp := pc) hn hm (hT.but hB2) (hM.but hB2) (BtB.but hB hB2 (fun _ _ h => h)))
    clear h1 h2 h3
    go_enter Tryz.func149, Tryz.ntmps149
    go_wp2_with fail
    refine HLY.out.mono ?_
    rintro en w5 ⟨rfl, hB5⟩
    go_wp2_with fail
    go_ret
    exact ⟨hB2.trans hB5, rfl⟩
def accX (cs : List XCls) (ak ps : List UInt8) : Bool := (List.range ak.length).all fun i => suitsX cs (tatX ps i) (ak.getD i 0)
theorem accX_no {cs : List XCls} {ak ps : List UInt8} {i : Nat} (hi : i < ak.length) (h : suitsX cs (tatX ps i) (ak.getD i 0) = false) : accX cs ak ps = false := by
 unfold accX
 rw [List.all_eq_false]
 exact ⟨i, List.mem_range.2 hi, by rw [h]; simp⟩
theorem accX_yes {cs : List XCls} {ak ps : List UInt8} (h : ∀ i, i < ak.length → suitsX cs (tatX ps i) (ak.getD i 0) = true) : accX cs ak ps = true := by
 unfold accX
 rw [List.all_eq_true]
 exact fun i hi => h i (List.mem_range.1 hi)
theorem xaccepts_any (ap : Option Addr) (cp : Nat) (ps : List UInt8) (hn : cs.length ≤ 100) (hm : ms.length ≤ 100) (hT : TxC w b cs) (hM : TxM w b ms) (hB : BtB w 0 (.slice al lo.length capl) lo) (hP : BtB w 0 (.slice ap ps.length cp) ps) (hak : (asksX cs ms lo x.op x.cls x.num).length ≤ 100) :
  Calls Tryz.prog 148 #[.pointer (some ⟨b, 0, none⟩), hdV c0 m0 r0 (.slice al lo.length capl) (.slice ai ni capi), itV x, .slice ap ps.length cp] w fun en w' => But (fun _ => False) w w' ∧ en = .returned (.bool (accX cs (asksX cs ms lo x.op x.cls x.num) ps)) := by
 have hB2 : But (fun _ => False) w ((w.alloc (.cells #[.int .u8 c0.toNat, .int .i64 m0, .int .u8 r0.toNat, .slice al lo.length capl, .slice ai ni capi] 115)).alloc (.cells #[.int .i64 x.place, .int .u8 x.op.toNat, .int .u8 x.cls.toNat, .int .i64 x.num, .slice x.pa x.pn x.pc] 219)) := (But.alloc _ _ _).trans (But.alloc _ _ _)
 have HAS := hid (xasks_any b cs ms c0 m0 r0 al ai capl ni capi lo x ((w.alloc (.cells #[.int .u8 c0.toNat, .int .i64 m0, .int .u8 r0.toNat, .slice al lo.length capl, .slice ai ni capi] 115)).alloc (.cells #[.int .i64 x.place, .int .u8 x.op.toNat, .int .u8 x.cls.toNat, .int .i64 x.num, .slice x.pa x.pn x.pc] 219)) hn hm (hT.but hB2) (hM.but hB2) (BtB.but hB hB2 (fun _ _ h => h)))
 obtain ⟨A, hA⟩ : ∃ A, asksX cs ms lo x.op x.cls x.num = A := ⟨_, rfl⟩
 rw [hA] at HAS hak ⊢
 clear hA
 obtain ⟨R, hRR⟩ : ∃ R, accX cs A ps = R := ⟨_, rfl⟩
 rw [hRR]
 have HRR := hid hRR
 clear hRR
 unfold itV hdV at *
 go_enter Tryz.func148, Tryz.ntmps148
 go_wp2_with fail
 refine HAS.out.mono ?_
 rintro en w1 ⟨hB1', v, rfl, hv⟩
 obtain ⟨av, cv, rfl⟩ := owns_len hv
 have hB1 := hB2.trans hB1'
 clear HAS hB1' hB2
 go_wp2_with fail
 go_loopg [10] A.length (fun mm ks wr => ∃ (k : Nat), ks = .int .i64 k ∧ k ≤ A.length ∧ k + mm ≤ A.length ∧ A.length ≤ k + mm ∧ But (fun _ => False) w1 wr ∧ Hid (∀ i, i < k → suitsX cs (tatX ps i) (A.getD i 0) = true))
 case atStart => exact ⟨0, rfl, by omega, by omega, by omega, But.refl _ _, fun i h => absurd h (by omega)⟩
 case round =>
  obtain ⟨k, rfl, hk1, hk2, hk3, hBr, HA⟩ := hrel
  have hBw := hB1.trans hBr
  by_cases hlt : k < A.length
  ·have hlI : (k : Int) < (A.length : Int) := by omega
   have hvr := BtB.but hv hBr (fun _ _ h => h)
   obtain ⟨g, rfl, hg1, hg2, hcell⟩ := owns_two hvr (by omega)
   have qk := hcell _ _ (btCells_at hlt)
   have HTA := hid (xtypeAt_any ap cp ps k wr.drew (BtB.but hP (hBw.trans (But.drew _ _)) (fun _ _ h => h)))
   have HSU := hid (xsuits_any b cs (tatX ps k) (A.getD k 0) wr.drew hn (hT.but (hBw.trans (But.drew _ _))))
   have HX : Hid ((suitsX cs (tatX ps k) (A.getD k 0) = false → R = false) ∧ (suitsX cs (tatX ps k) (A.getD k 0) = true → ∀ i, i < k + 1 → suitsX cs (tatX ps i) (A.getD i 0) = true)) := by
    refine hid ⟨fun h => by rw [← HRR.out]; exact accX_no hlt h, fun h i hi => ?_⟩
    rcases Nat.lt_or_ge i k with h' | h'
    ·exact HA.out i h'
    ·have : i = k := by omega
     subst this
     exact h
   clear hcell
   revert HSU HX qk HTA
   generalize tatX ps k = P
   generalize A.getD k 0 = Q
   intro qk HTA HSU HX
   go_wp2_with fail
   have hS0 : But (fun _ => False) wr wr.drew := But.drew _ _
   refine wpP_begin (But (fun _ => False) wr) 10 (by kernel_rfl) ?_
   refine wpP_take (k := 0) (v := ?vA0) rfl (by decide) (by kernel_rfl) (fun _ _ _ h => h) rfl hS0 ?yA0 ?rA0
   case yA0 => intro wS h; have q0 := ((h.cell (p := ⟨g, k, none⟩) hg1 (fun h => h)).trans qk); clear h; go_simp; try rfl
   dsimp only [Act.put]
   try simp only [puts]
   refine wpP_take (k := 1) (v := ?vA1) rfl (by decide) (by kernel_rfl) (fun _ _ _ h => h) rfl hS0 ?yA1 ?rA1
   case yA1 => intro wS h; have q0 := ((h.cell (p := ⟨g, k, none⟩) hg1 (fun h => h)).trans qk); clear h; go_simp; try rfl
   dsimp only [Act.put]
   try simp only [puts]
   refine wpP_take (k := 2) (v := ?vA2) rfl (by decide) (by kernel_rfl) (fun _ _ _ h => h) rfl hS0 ?yA2 ?rA2
   case yA2 => intro wS h; have q0 := ((h.cell (p := ⟨g, k, none⟩) hg1 (fun h => h)).trans qk); clear h; go_simp; try rfl
   dsimp only [Act.put]
   try simp only [puts]
   refine wpP_take (k := 4) (v := ?vA4) rfl (by decide) (by kernel_rfl) (fun _ _ _ h => h) rfl hS0 ?yA4 ?rA4
   case yA4 => intro wS h; have q0 := ((h.cell (p := ⟨g, k, none⟩) hg1 (fun h => h)).trans qk); clear h; go_simp; try rfl
   dsimp only [Act.put]
   try simp only [puts]
   refine wpP_take (k := 5) (v := ?vA5) rfl (by decide) (by kernel_rfl) (fun _ _ _ h => h) rfl hS0 ?yA5 ?rA5
   case yA5 => intro wS h; have q0 := ((h.cell (p := ⟨g, k, none⟩) hg1 (fun h => h)).trans qk); clear h; go_simp; try rfl
   dsimp only [Act.put]
   try simp only [puts]
   refine wpP_take (k := 6) (v := ?vA6) rfl (by decide) (by kernel_rfl) (fun _ _ _ h => h) rfl hS0 ?yA6 ?rA6
   case yA6 => intro wS h; have q0 := ((h.cell (p := ⟨g, k, none⟩) hg1 (fun h => h)).trans qk); clear h; go_simp; try rfl
   dsimp only [Act.put]
   try simp only [puts]
   refine wpP_take (k := 7) (v := ?vA7) rfl (by decide) (by kernel_rfl) (fun _ _ _ h => h) rfl hS0 ?yA7 ?rA7
   case yA7 => intro wS h; have q0 := ((h.cell (p := ⟨g, k, none⟩) hg1 (fun h => h)).trans qk); clear h; go_simp; try rfl
   dsimp only [Act.put]
   try simp only [puts]
   refine wpP_step (k := 3) rfl (by decide) (by kernel_rfl) ?_
   intro KS hKS
   go_simp
   refine HTA.out.mono ?_
   rintro en wx ⟨rfl, hwx⟩
   rw [hwx]
   clear hwx wx
   refine hKS.out _ _ (fun _ => hS0) ?_
   clear hKS KS
   refine wpP_step (k := 8) rfl (by decide) (by kernel_rfl) ?_
   intro KS hKS
   go_simp
   refine HSU.out.mono ?_
   rintro en wx ⟨rfl, hwx⟩
   rw [hwx]
   clear hwx wx
   refine hKS.out _ _ (fun _ => hS0) ?_
   clear hKS KS
   refine wpP_step (k := 9) rfl (by decide) (by kernel_rfl) ?_
   intro KS hKS
   go_simp
   refine hKS.out _ _ (fun _ => hS0) ?_
   clear hKS KS
   refine wpP_done rfl (by kernel_rfl) ?_
   have hBd := hBr.trans hS0
   have HX' := HX.out
   clear HX HTA HSU qk hS0
   generalize wr.drew = wd at *
   cases hq : suitsX cs P Q with
   | false =>
    have hres : R = false := HX'.1 hq
    subst hres
    clear HX' hq
    go_wp2_with fail
    go_ret
    exact ⟨hB1.trans hBd, rfl⟩
   | true =>
    have HY := hid (HX'.2 hq)
    clear HX' hq
    go_wp2_with fail
    go_roundg (A.length - (k + 1))
    case measure => omega
    case rel => exact ⟨k + 1, by simp, by omega, by omega, by omega, hBd, HY⟩
  ·have hlI : ¬ (k : Int) < (A.length : Int) := by omega
   have hres : R = true := by rw [← HRR.out]; exact accX_yes (fun i hi => HA.out i (by omega))
   subst hres
   go_wp2_with fail
   go_ret
   exact ⟨hBw, rfl⟩
end
end Go.Proofs.YtpfkkmacakjmbaaGreatDoor
namespace Go.Proofs.YtpfkkmacakjmbaaGreatDoor
open Go Go.RowKit Sp
set_option linter.unusedSimpArgs false
set_option linter.unusedVariables false
def treeB (s : ByteArray) (cs : List Cls) (ns nl i : Nat) (bad : Bool) : Except Nat (List Ins × Nat) := if bad = true then .error i else treeP s cs ns nl i
theorem tree_fin {s : ByteArray} {cs : List Cls} {ns nl i : Nat} {bad : Bool} {j : Nat} {bad' : Bool} {Q : List Ins → Prop} (h : (bad' = false ∧ ∃ is, nodesB s cs ns nl i bad = .ok (is, j) ∧ Q is) ∨ (bad' = true ∧ nodesB s cs ns nl i bad = .error j)) :
  ((tkP s 46 j bad').2 = false ∧ ∃ is, treeB s cs ns nl i bad = .ok (is, (tkP s 46 j bad').1) ∧ Q is) ∨ ((tkP s 46 j bad').2 = true ∧ treeB s cs ns nl i bad = .error (tkP s 46 j bad').1) := by
 unfold nodesB at h
 unfold treeB
 cases bad with
 | true =>
  simp only [if_true] at h ⊢
  rcases h with ⟨_, is, h, _⟩ | ⟨rfl, h⟩
  ·cases h
  ·cases h
   rw [tkP_no (Or.inl rfl)]
   exact Or.inr ⟨rfl, rfl⟩
 | false =>
  simp only [Bool.false_eq_true, if_false] at h ⊢
  unfold treeP
  rcases h with ⟨rfl, is, h, hq⟩ | ⟨rfl, h⟩
  ·rw [h]
   simp only
   by_cases hp : pk s j = 46
   ·rw [tkP_ok hp, if_pos (by rw [hp]; rfl)]
    exact Or.inl ⟨rfl, is, rfl, hq⟩
   ·rw [tkP_no (Or.inr hp), if_neg (fun h => hp ((u8n (by decide)).1 h))]
    exact Or.inr ⟨rfl, rfl⟩
  ·rw [h, tkP_no (Or.inl rfl)]
   exact Or.inr ⟨rfl, rfl⟩
structure BdN (w : World) (base : Nat) (gs : List Sig) (X : XBod) (b : Bod) : Prop where
 cls : X.cls = (toXB gs b).cls
 meth : X.meth = (toXB gs b).meth
 ans : X.ans = (toXB gs b).ans
 loc : X.locals = b.locals
 its : ItsN w base X.items b.code
def BdsN (w : World) (base : Nat) (gs : List Sig) (bs : List XBod) (BS : List Bod) : Prop := bs.length = BS.length ∧ ∀ (k : Nat) X b, bs[k]? = some X → BS[k]? = some b → BdN w base gs X b
theorem BdsN.nil (w : World) (base : Nat) (gs : List Sig) : BdsN w base gs [] [] := ⟨rfl, fun k X b h => by simp at h⟩
theorem BdsN.snoc {w : World} {base : Nat} {gs : List Sig} {bs : List XBod} {BS : List Bod} {X : XBod} {b : Bod} (h : BdsN w base gs bs BS) (hx : BdN w base gs X b) : BdsN w base gs (bs ++ [X]) (BS ++ [b]) := by
 refine ⟨by simp [h.1], fun k Y c hY hc => ?_⟩
 rcases Nat.lt_or_ge k bs.length with hk | hk
 ·rw [List.getElem?_append_left hk] at hY
  rw [List.getElem?_append_left (by rw [← h.1]; exact hk)] at hc
  exact h.2 k Y c hY hc
 ·rw [List.getElem?_append_right hk] at hY
  rw [List.getElem?_append_right (by rw [← h.1]; exact hk), ← h.1] at hc
  cases hd : k - bs.length with
  | zero => rw [hd] at hY hc; simp at hY hc; subst hY hc; exact hx
  | succ d => rw [hd] at hY; simp at hY
theorem BdsN.heads {w : World} {base : Nat} {gs : List Sig} {bs : List XBod} {BS : List Bod} (h : BdsN w base gs bs BS) : bs.map hdOf = (BS.map (toXB gs)).map hdOf := by
 apply List.ext_getElem?
 intro k
 simp only [List.getElem?_map]
 rcases Nat.lt_or_ge k bs.length with hk | hk
 ·have hk2 : k < BS.length := by rw [← h.1]; exact hk
  have h1 := h.2 k _ _ (List.getElem?_eq_getElem hk) (List.getElem?_eq_getElem hk2)
  rw [List.getElem?_eq_getElem hk, List.getElem?_eq_getElem hk2]
  simp [hdOf, h1.cls, h1.meth]
 ·rw [List.getElem?_eq_none hk, List.getElem?_eq_none (by rw [← h.1]; exact hk)]
  rfl
theorem BdsN.but {F : Nat → Prop} {w w' : World} {base : Nat} {gs : List Sig} {bs : List XBod} {BS : List Bod} (h : BdsN w base gs bs BS) (hb : But F w w') (hf : ∀ g cur, w.heap[g]? = some (.cells cur 3) → base ≤ g → ¬ F g) : BdsN w' base gs bs BS :=
 ⟨h.1, fun k X b hX hB => by
  have h1 := h.2 k X b hX hB
  exact ⟨h1.cls, h1.meth, h1.ans, h1.loc, h1.its.len, fun q y x hy hx => by
   obtain ⟨e1, e2, e3, e4, e5⟩ := h1.its.at' q y x hy hx
   exact ⟨e1, e2, e3, e4, owns_off e5 hb hf⟩⟩⟩
theorem BdsN.mono {w : World} {base base' : Nat} {gs : List Sig} {bs : List XBod} {BS : List Bod} (h : BdsN w base gs bs BS) (hb : base' ≤ base) : BdsN w base' gs bs BS :=
 ⟨h.1, fun k X b hX hB => by
  have h1 := h.2 k X b hX hB
  exact ⟨h1.cls, h1.meth, h1.ans, h1.loc, h1.its.mono hb⟩⟩
def BodN (Gd : Prop) (s : ByteArray) (cs : List Cls) (gs : List Sig) (R : Except Nat (List Bod × Nat)) (w : World) (base mm : Nat) (bs : List XBod) (j : Nat) (bad : Bool) : Prop :=
 (bad = false ∧ Gd ∧ ∃ BS, BdsN w base gs bs BS ∧ (∀ b ∈ BS, SideB b) ∧ BS.length + mm = 6 ∧ bodS s cs gs mm BS j = R) ∨ (bad = true ∧ R = .error j)
section
variable {Gd : Prop} {s : ByteArray} {cs : List Cls} {gs : List Sig} {R : Except Nat (List Bod × Nat)} {w : World} {base : Nat}
theorem bodS_step {k : Nat} {BS : List Bod} {i : Nat} (h : (pk s i).toNat ≠ 59) : bodS s cs gs (k + 1) BS i = match headP s cs.length gs BS i with
  | .error j => .error j
  | .ok ((x, m, t), p) =>
   match treeP s cs gs.length (t.length + 2) p with
   | .error q => .error q
   | .ok (is, q) => bodS s cs gs k (BS ++ [⟨x, m, UInt8.ofNat (65 + x) :: argOf gs m :: t, is⟩]) q := by
 unfold headP
 rw [bodS, if_neg h]
 cases letP s cs.length i with
 | error j => rfl
 | ok y =>
  obtain ⟨x, j⟩ := y
  simp only
  cases digP s gs.length j with
  | error l => rfl
  | ok z =>
   obtain ⟨m, l⟩ := z
   simp only
   split
   ·rfl
   ·cases tys s cs.length 58 3 [] l with
    | error p => rfl
    | ok t =>
     obtain ⟨t, p⟩ := t
     simp only
     cases treeP s cs gs.length (t.length + 2) p <;> rfl
theorem BodN.but {F : Nat → Prop} {w' : World} {mm : Nat} {bs : List XBod} {j : Nat} {bad : Bool} (h : BodN Gd s cs gs R w base mm bs j bad) (hb : But F w w') (hf : ∀ g cur, w.heap[g]? = some (.cells cur 3) → base ≤ g → ¬ F g) : BodN Gd s cs gs R w' base mm bs j bad := by
 rcases h with ⟨h1, h2, BS, h3, h4⟩ | h
 ·exact Or.inl ⟨h1, h2, BS, h3.but hb hf, h4⟩
 ·exact Or.inr h
theorem BodN.fin {mm : Nat} {bs : List XBod} {j : Nat} {bad : Bool} (h : BodN Gd s cs gs R w base mm bs j bad) (hx : ¬ bs.length < 6 ∨ (!bad && !decide (pk s j = 59)) = false) :
  ((tkP s 59 j bad).2 = false ∧ Gd ∧ ∃ BS, R = .ok (BS, (tkP s 59 j bad).1) ∧ BdsN w base gs bs BS ∧ ∀ b ∈ BS, SideB b) ∨ ((tkP s 59 j bad).2 = true ∧ R = .error (tkP s 59 j bad).1) := by
 rcases h with ⟨rfl, hG, BS, h1, h2, h3, h4⟩ | ⟨rfl, h2⟩
 ·by_cases hp : pk s j = 59
  ·left
   rw [tkP_ok hp]
   refine ⟨rfl, hG, BS, ?_, h1, h2⟩
   rw [← h4]
   cases mm <;> simp [bodS, hp]
  ·right
   rw [tkP_no (Or.inr hp)]
   refine ⟨rfl, ?_⟩
   have hm : mm = 0 := by
    rcases hx with h | h
    ·rw [h1.1] at h; omega
    ·simp [hp] at h
   subst hm
   rw [← h4]
   have : (pk s j).toNat ≠ 59 := fun h => hp ((u8n (by decide)).1 h)
   simp [bodS, this]
 ·right
  rw [tkP_no (Or.inl rfl)]
  exact ⟨rfl, h2⟩
theorem BodN.next {mm : Nat} {bs : List XBod} {j : Nat} (h : BodN Gd s cs gs R w base mm bs j false) (hnc : cs.length ≤ 4) (hl : bs.length < 6) (hp : pk s j ≠ 59) :
  Gd ∧ ∃ BS, BdsN w base gs bs BS ∧ (∀ b ∈ BS, SideB b) ∧ BS.length ≤ 6 ∧ ∀ c m r l j1 bad1, ((bad1 = false ∧ ∃ x t, headP s cs.length gs BS j = .ok ((x, m, t), j1) ∧ c = UInt8.ofNat (65 + x) ∧ x < cs.length ∧ m < gs.length ∧ r = (methX gs m).ret ∧ l = c :: (methX gs m).arg :: t) ∨ (bad1 = true ∧ headP s cs.length gs BS j = .error j1)) →
   ∀ its w' j2 bad2, BdsN w' base gs bs BS → ((bad2 = false ∧ ∃ is, treeB s cs gs.length l.length j1 bad1 = .ok (is, j2) ∧ ItsN w' base its is) ∨ (bad2 = true ∧ treeB s cs gs.length l.length j1 bad1 = .error j2)) →
   ∃ m', m' < mm ∧ BodN Gd s cs gs R w' base m' (bs ++ [⟨c, m, r, l, its⟩]) j2 bad2 := by
 rcases h with ⟨_, hG, BS, h1, h2, h3, h4⟩ | ⟨h, _⟩
 ·have hlb : BS.length < 6 := by rw [h1.1] at hl; exact hl
  refine ⟨hG, BS, h1, h2, by omega, ?_⟩
  intro c m r l j1 bad1 hh its w' j2 bad2 hw' hc
  obtain ⟨f, rfl⟩ : ∃ f, mm = f + 1 := ⟨mm - 1, by omega⟩
  have hne : (pk s j).toNat ≠ 59 := fun h => hp ((u8n (by decide)).1 h)
  rw [bodS_step hne] at h4
  rcases hh with ⟨rfl, x, t, e1, e2, e3, e4, e5, e6⟩ | ⟨rfl, e1⟩
  ·rw [e1] at h4
   simp only at h4
   unfold treeB at hc
   simp only [Bool.false_eq_true, if_false] at hc
   rw [show l.length = t.length + 2 from by rw [e6]; rfl] at hc
   rcases hc with ⟨rfl, is, c1, c2⟩ | ⟨rfl, c1⟩
   ·rw [c1] at h4
    have hx0 : ¬ ((x : Int) < 0) := by omega
    refine ⟨f, by omega, Or.inl ⟨rfl, hG, BS ++ [⟨x, m, UInt8.ofNat (65 + x) :: argOf gs m :: t, is⟩], hw'.snoc ⟨?_, ?_, ?_, ?_, c2⟩, ?_, by simp; omega, h4⟩⟩
    ·simp [toXB, hx0, e2]
    ·simp [toXB]
    ·simp [toXB, hx0, e5]
    ·simp [e6, e2, methX_arg e4]
    ·intro b hb
     rcases List.mem_append.1 hb with hb | hb
     ·exact h2 b hb
     ·simp at hb
      subst hb
      exact ⟨by simp, by simp; omega, by simp⟩
   ·rw [c1] at h4
    exact ⟨0, by omega, Or.inr ⟨rfl, h4.symm⟩⟩
  ·rw [e1] at h4
   simp only at h4
   unfold treeB at hc
   simp only [if_true] at hc
   rcases hc with ⟨_, is, c1, _⟩ | ⟨rfl, c1⟩
   ·cases c1
   ·cases c1
    exact ⟨0, by omega, Or.inr ⟨rfl, h4.symm⟩⟩
 ·cases h
end
structure TextN (w : World) (b : Nat) (im : Img) : Prop where
 cls : TxC w b (im.classes.map toX)
 met : TxM w b im.sigs
 bod : ∃ bs, TxB w b bs ∧ BdsN w 0 im.sigs bs im.bodies
theorem readN_fin {s : ByteArray} {SC : List Cls} {n : Nat} {ms : List Sig} {cs : List XCls} {bs : List XBod} {l : List UInt8} {its : List XIt} {w : World} {base : Nat} {j0 j1 j2 j3 j4 : Nat} {b0 b1 b2 b3 b4 : Bool} {R : Except Nat (List Bod × Nat)}
  (hcls : (b0 = false ∧ ∃ SC', clsP s 4 [] 0 = .ok (SC', j0) ∧ SC' = SC ∧ cs = SC.map toX ∧ WfC SC) ∨ (b0 = true ∧ clsP s 4 [] 0 = .error j0)) (hn : SC.length = n)
  (hsig : (b1 = false ∧ sigB s n j0 b0 = .ok (ms, j1)) ∨ (b1 = true ∧ sigB s n j0 b0 = .error j1))
  (hR : (if b1 = true then .error j1 else bodS s SC ms 6 [] j1) = R)
  (hbod : (b2 = false ∧ (b1 = false) ∧ ∃ BS, R = .ok (BS, j2) ∧ BdsN w base ms bs BS ∧ ∀ b ∈ BS, SideB b) ∨ (b2 = true ∧ R = .error j2))
  (hmain : (b3 = false ∧ tysB s n 58 3 j2 b2 = .ok (l, j3)) ∨ (b3 = true ∧ tysB s n 58 3 j2 b2 = .error j3))
  (hcode : (b4 = false ∧ ∃ is, treeB s SC ms.length l.length j3 b3 = .ok (is, j4) ∧ ItsN w base its is) ∨ (b4 = true ∧ treeB s SC ms.length l.length j3 b3 = .error j4)) :
  ((b4 || decide (j4 < s.size)) = true ∧ readS s = .error j4) ∨ ((b4 || decide (j4 < s.size)) = false ∧ ∃ im, readS s = .ok im ∧ im.classes = SC ∧ cs = SC.map toX ∧ im.sigs = ms ∧ BdsN w base ms (bs ++ [⟨45, 0, 105, l, its⟩]) im.bodies) := by
 unfold readS
 rcases hcls with ⟨rfl, SC', hc, rfl, hcs, hwf⟩ | ⟨rfl, hc⟩
 ·rw [hc]
  simp only
  unfold sigB at hsig
  simp only [Bool.false_eq_true, if_false] at hsig
  rw [hn]
  rcases hsig with ⟨rfl, hsg⟩ | ⟨rfl, hsg⟩
  ·rw [hsg]
   simp only
   simp only [Bool.false_eq_true, if_false] at hR
   rw [hR]
   rcases hbod with ⟨rfl, _, BS, hb, hbs, _⟩ | ⟨rfl, hb⟩
   ·rw [hb]
    simp only
    unfold tysB at hmain
    simp only [Bool.false_eq_true, if_false] at hmain
    rcases hmain with ⟨rfl, hm⟩ | ⟨rfl, hm⟩
    ·rw [hm]
     simp only
     unfold treeB at hcode
     simp only [Bool.false_eq_true, if_false] at hcode
     rcases hcode with ⟨rfl, is, hcd, hX⟩ | ⟨rfl, hcd⟩
     ·rw [hcd]
      simp only
      by_cases hlt : j4 < s.size
      ·left
       rw [if_pos hlt]
       exact ⟨by simp [hlt], rfl⟩
      ·right
       rw [if_neg hlt]
       refine ⟨by simp [hlt], _, rfl, rfl, hcs, rfl, ?_⟩
       exact hbs.snoc ⟨by simp [toXB], by simp [toXB], by simp [toXB], rfl, hX⟩
     ·rw [hcd]
      exact Or.inl ⟨rfl, rfl⟩
    ·rw [hm]
     unfold treeB at hcode
     simp only [if_true] at hcode
     rcases hcode with ⟨_, is, hcd, _⟩ | ⟨rfl, hcd⟩
     ·cases hcd
     ·cases hcd
      exact Or.inl ⟨rfl, rfl⟩
   ·rw [hb]
    unfold tysB at hmain
    simp only [if_true] at hmain
    rcases hmain with ⟨_, hm⟩ | ⟨rfl, hm⟩
    ·cases hm
    ·cases hm
     unfold treeB at hcode
     simp only [if_true] at hcode
     rcases hcode with ⟨_, is, hcd, _⟩ | ⟨rfl, hcd⟩
     ·cases hcd
     ·cases hcd
      exact Or.inl ⟨rfl, rfl⟩
  ·rw [hsg]
   simp only [if_true] at hR
   subst hR
   rcases hbod with ⟨_, h, _⟩ | ⟨rfl, hb⟩
   ·cases h
   ·cases hb
    unfold tysB at hmain
    simp only [if_true] at hmain
    rcases hmain with ⟨_, hm⟩ | ⟨rfl, hm⟩
    ·cases hm
    ·cases hm
     unfold treeB at hcode
     simp only [if_true] at hcode
     rcases hcode with ⟨_, is, hcd, _⟩ | ⟨rfl, hcd⟩
     ·cases hcd
     ·cases hcd
      exact Or.inl ⟨rfl, rfl⟩
 ·rw [hc]
  unfold sigB at hsig
  simp only [if_true] at hsig
  rcases hsig with ⟨_, h⟩ | ⟨rfl, hsg⟩
  ·cases h
  ·cases hsg
   simp only [if_true] at hR
   subst hR
   rcases hbod with ⟨_, h, _⟩ | ⟨rfl, hb⟩
   ·cases h
   ·cases hb
    unfold tysB at hmain
    simp only [if_true] at hmain
    rcases hmain with ⟨_, hm⟩ | ⟨rfl, hm⟩
    ·cases hm
    ·cases hm
     unfold treeB at hcode
     simp only [if_true] at hcode
     rcases hcode with ⟨_, is, hcd, _⟩ | ⟨rfl, hcd⟩
     ·cases hcd
     ·cases hcd
      exact Or.inl ⟨rfl, rfl⟩
end Go.Proofs.YtpfkkmacakjmbaaGreatDoor
