import Derived.Test.YtpfkkmacakjmbaaGreatDoorP28
import Derived.Test.YtpfkkmacakjmbaaGreatDoorP26
import Derived.Test.YtpfkkmacakjmbaaGreatDoorP00
import Derived.Test.YtpfkkmacakjmbaaGreatDoorP29
import Derived.Test.YtpfkkmacakjmbaaGreatDoorP02
import Derived.Test.YtpfkkmacakjmbaaGreatDoorP13
/- The program's types of nodes: those of the parts, what is asked, what a node gives. -/
namespace Go.Proofs.YtpfkkmacakjmbaaGreatDoor
open Go Go.RowKit Sp
set_option linter.unusedSimpArgs false
set_option linter.unusedVariables false
attribute [local go_sem ↓] Go.wp_at_zero Go.wp_at_succ
set_option maxHeartbeats 1600000 in
set_option maxRecDepth 100000 in
theorem xtypesOf_any (x : XIt) (ps : List Nat) (ty : List UInt8) (ao : Option Addr) (ct : Nat) (w : World) (hl : ps.length ≤ 3) (hps : ∀ k ∈ ps, k ≤ 100) (hP : w.ownsRow 0 3 1 (.slice x.pa x.pn x.pc) ps.length (intC ps)) (hT : BtB w 0 (.slice ao ty.length ct) ty) :
  Calls Tryz.prog 147 #[itV x, .slice ao ty.length ct] w fun en w' => But (fun _ => False) w w' ∧ ∃ a' c', en = .returned (.slice a' ps.length c') ∧ BtB w' w.heap.size (.slice a' ps.length c') (ps.map (tatX ty)) := by
 obtain ⟨i0, hi0, hz0, hz1, hz2⟩ := info_parts info_u8
 obtain ⟨pl, op, cl, nu, pa, pn, pc⟩ := x
 have hpn : pn = ps.length := by
  obtain ⟨a', c', h⟩ := owns_len hP
  injection h
 subst hpn
 unfold itV
 dsimp only at hP ⊢
 have hB0 : But (fun _ => False) w (w.alloc (.cells #[.int .i64 pl, .int .u8 op.toNat, .int .u8 cl.toNat, .int .i64 nu, .slice pa ps.length pc] 219)) := But.alloc _ _ _
 have hg0 : (w.alloc (.cells #[.int .i64 pl, .int .u8 op.toNat, .int .u8 cl.toNat, .int .i64 nu, .slice pa ps.length pc] 219)).heap[w.heap.size]? = some (.cells #[.int .i64 pl, .int .u8 op.toNat, .int .u8 cl.toNat, .int .i64 nu, .slice pa ps.length pc] 219) := heap_alloc_new _ _
 go_enter Tryz.func147, Tryz.ntmps147
 go_wp2_with fail
 have hze : (w.alloc (.cells #[.int .i64 pl, .int .u8 op.toNat, .int .u8 cl.toNat, .int .i64 nu, .slice pa ps.length pc] 219)).heap.size = w.heap.size + 1 := by simp
 generalize (w.alloc (.cells #[.int .i64 pl, .int .u8 op.toNat, .int .u8 cl.toNat, .int .i64 nu, .slice pa ps.length pc] 219)) = w1 at *
 have hE := BtB.empty w1
 rw [hze] at hE
 have hz1' := hB0.size
 have hB2 : But (fun _ => False) w (w1.alloc (.cells #[] 5)) := hB0.trans (But.alloc _ _ _)
 go_loopg [5, 6] ps.length (fun mm vs ks wr => ∃ (a' : Option Addr) (c' k : Nat) (l : List UInt8), vs = .slice a' k c' ∧ ks = .int .i64 k ∧ k ≤ ps.length ∧ k + mm ≤ ps.length ∧ ps.length ≤ k + mm ∧ wr.ownsRow (w.heap.size + 1) 5 1 (.slice a' k c') k (btCells l) ∧ But (fun _ => False) w wr ∧ w.heap.size + 1 ≤ wr.heap.size ∧ wr.heap[w.heap.size]? = some (.cells #[.int .i64 pl, .int .u8 op.toNat, .int .u8 cl.toNat, .int .i64 nu, .slice pa ps.length pc] 219) ∧ Hid (l = (ps.take k).map (tatX ty)))
 case atStart => exact ⟨_, 0, 0, [], rfl, rfl, by omega, by omega, by omega, hE, hB2, by simp; omega, ((But.alloc (fun _ => False) w1 _).block _ (lt_of_block hg0) (fun h => h)).trans hg0, rfl⟩
 case round =>
  obtain ⟨a', c', k, l, rfl, rfl, hk1, hk2, hk3, hOr, hBr, hzr, hgr, HL⟩ := hrel
  have q4 : wr.cell? ⟨w.heap.size, 4, none⟩ = some (.slice pa ps.length pc) := by rw [cell_of_row wr _ 4 _ _ (0, 0) hgr]; rfl
  have hgl := lt_of_block hgr
  by_cases hlt : k < ps.length
  ·have hlI : (k : Int) < (ps.length : Int) := by omega
   obtain ⟨g, rfl, hg1, hg2, hcell⟩ := owns_two (owns_but hP hBr (fun _ _ h => h)) (by omega)
   obtain ⟨v, hv⟩ : ∃ v, ps[k] = v := ⟨_, rfl⟩
   have qk := hcell _ _ (intC_at (List.getElem?_eq_getElem hlt))
   rw [hv] at qk
   have HTA := hid (xtypeAt_any ao ct ty v wr (BtB.but hT hBr (fun _ _ h => h)))
   have HN : Hid (l ++ [tatX ty v] = (ps.take (k + 1)).map (tatX ty)) := by
    show _ = _
    rw [HL.out, List.take_add_one, List.getElem?_eq_getElem hlt, hv]
    simp
   clear hcell hv
   generalize tatX ty v = z at *
   go_wp2_with fail
   refine HTA.out.mono ?_
   rintro en wx ⟨rfl, hwx⟩
   rw [hwx]
   clear hwx wx HTA
   have hge := owns_ge hOr
   go_wp2_with (at_builtin; refine wpList_append_lies _ rfl _ _ _ rfl (w.heap.size + 1) 5 i0 _ 1 1 (by kernel_rfl) hi0 hz0 hz1 hz2 rfl (by omega) _ k (btCells l) rfl (hOr.alloc _) ⟨wr.heap.size, 0, none⟩ 1 1 [.int .u8 z.toNat] rfl rfl (World.news_of_block (cs := #[.int .u8 z.toNat]) (t := 5) (fr := (0, 0)) (heap_alloc_new wr _)) (by simp [Value.oneCell']) (by omega) (by unfold maxLen; omega) (by omega) (by simp; omega) (wr.heap.size + 1) (by simp) ?_)
   intro gg cap3 w5 hown2 hgrow hat hlt2
   have hSW : But (fun k' => (Value.slice a' k c').ownBlock = some k') wr w5 := (But.alloc _ _ _).trans (but_grown hgrow)
   have hBw5 : But (fun _ => False) w w5 := hBr.next hSW (fun k' hk' h => absurd (hge k' h) (by omega))
   have hgl1 := lt_of_block hg0
   have hg5 := (hSW.block _ hgl (fun h => absurd (hge _ h) (by omega))).trans hgr
   have hz5 := hSW.size
   clear q4 qk
   go_wp2_with fail
   go_roundg (ps.length - (k + 1))
   case measure => omega
   case rel => exact ⟨some ⟨gg, 0, none⟩, cap3, k + 1, l ++ [z], by simp, by simp, by omega, by omega, by omega, by rw [show btCells (l ++ [z]) = btCells l ++ [.int .u8 z.toNat] from by simp [btCells]]; exact hown2, hBw5, by omega, hg5, HN⟩
  ·have hlI : ¬ (k : Int) < (ps.length : Int) := by omega
   have hkn : k = ps.length := by omega
   subst hkn
   have hfin : BtB wr w.heap.size (.slice a' ps.length c') (ps.map (tatX ty)) := by
    have h1 := HL.out
    rw [List.take_length] at h1
    unfold BtB
    rw [← h1, show l.length = ps.length from by rw [h1]; simp]
    exact World.ownsRow.mono hOr (by omega)
   go_wp2_with fail
   exact bodyPost_ret (v := .slice a' ps.length c') (by simp [results, Tryz.results147, go_sem]) rfl ⟨hBr, a', c', rfl, hfin⟩
end Go.Proofs.YtpfkkmacakjmbaaGreatDoor
/- The program's types of nodes: what is asked, what a node gives. -/
namespace Go.Proofs.YtpfkkmacakjmbaaGreatDoor
open Go Go.RowKit Sp
set_option linter.unusedSimpArgs false
set_option linter.unusedVariables false
attribute [local go_sem ↓] Go.wp_at_zero Go.wp_at_succ
def asksX (cs : List XCls) (ms : List Sig) (lo : List UInt8) (c k : UInt8) (n : Nat) : List UInt8 :=
 if c.toNat = 105 ∨ c.toNat = 111 then [105] else if c.toNat = 115 then [tatX lo n] else takesX cs ms c k n 45
def typX (cs : List XCls) (ms : List Sig) (lo : List UInt8) (c k : UInt8) (n : Nat) (ps : List UInt8) : UInt8 :=
 if c.toNat = 115 ∨ c.toNat = 112 ∨ c.toNat = 119 ∨ c.toNat = 111 then 105 else if c.toNat = 44 then tatX ps 1 else if c.toNat = 105 then meetX cs (tatX ps 1) (tatX ps 2) else laysX cs ms c k n lo
section
variable (b : Nat) (cs : List XCls) (ms : List Sig) (c0 : UInt8) (m0 : Nat) (r0 : UInt8) (al ai : Option Addr) (capl ni capi : Nat) (lo : List UInt8) (x : XIt) (w : World)
set_option maxHeartbeats 1600000 in
set_option maxRecDepth 100000 in
theorem xasks_any (hn : cs.length ≤ 100) (hm : ms.length ≤ 100) (hT : TxC w b cs) (hM : TxM w b ms) (hB : BtB w 0 (.slice al lo.length capl) lo) :
  Calls Tryz.prog 203 #[.pointer (some ⟨b, 0, none⟩), hdV c0 m0 r0 (.slice al lo.length capl) (.slice ai ni capi), itV x] w fun en w' => But (fun _ => False) w w' ∧ ∃ v, en = .returned v ∧ BtB w' w.heap.size v (asksX cs ms lo x.op x.cls x.num) := by
 obtain ⟨pl, op, cl, nu, pa, pn, pc⟩ := x
 unfold itV hdV
 dsimp only
 have hB2 : But (fun _ => False) w ((w.alloc (.cells #[.int .u8 c0.toNat, .int .i64 m0, .int .u8 r0.toNat, .slice al lo.length capl, .slice ai ni capi] 115)).alloc (.cells #[.int .i64 pl, .int .u8 op.toNat, .int .u8 cl.toNat, .int .i64 nu, .slice pa pn pc] 219)) := (But.alloc _ _ _).trans (But.alloc _ _ _)
 by_cases h1 : op.toNat = 105 ∨ op.toNat = 111
 ·rw [show asksX cs ms lo op cl nu = [105] from by simp [asksX, h1]]
  have hz2 := hB2.size
  have hlit := fun W h => BtB.lit W w.heap.size h [105] (by simp)
  rcases h1 with h | h
  ·try (have e105 : ((op.toNat : Int) == 105) = false := by rw [beq_eq_false_iff_ne]; omega)
   have e105 : ((op.toNat : Int) == 105) = true := by rw [beq_iff_eq]; omega
   clear h
   go_enter Tryz.func203, Tryz.ntmps203
   go_wp2_with fail
   refine bodyPost_ret (v := .slice (some ⟨w.heap.size + 2, 0, none⟩) 1 1) (by simp [results, Tryz.results203, go_sem]) rfl ⟨hB2.trans (But.alloc _ _ _), _, rfl, ?_⟩
   have h9 := hlit ((w.alloc (.cells #[.int .u8 c0.toNat, .int .i64 m0, .int .u8 r0.toNat, .slice al lo.length capl, .slice ai ni capi] 115)).alloc (.cells #[.int .i64 pl, .int .u8 op.toNat, .int .u8 cl.toNat, .int .i64 nu, .slice pa pn pc] 219)) (by omega)
   simpa [btCells] using h9
  ·try (have e105 : ((op.toNat : Int) == 105) = false := by rw [beq_eq_false_iff_ne]; omega)
   have e111 : ((op.toNat : Int) == 111) = true := by rw [beq_iff_eq]; omega
   clear h
   go_enter Tryz.func203, Tryz.ntmps203
   go_wp2_with fail
   refine bodyPost_ret (v := .slice (some ⟨w.heap.size + 2, 0, none⟩) 1 1) (by simp [results, Tryz.results203, go_sem]) rfl ⟨hB2.trans (But.alloc _ _ _), _, rfl, ?_⟩
   have h9 := hlit ((w.alloc (.cells #[.int .u8 c0.toNat, .int .i64 m0, .int .u8 r0.toNat, .slice al lo.length capl, .slice ai ni capi] 115)).alloc (.cells #[.int .i64 pl, .int .u8 op.toNat, .int .u8 cl.toNat, .int .i64 nu, .slice pa pn pc] 219)) (by omega)
   simpa [btCells] using h9
 ·have e105 : ((op.toNat : Int) == 105) = false := by rw [beq_eq_false_iff_ne]; omega
  have e111 : ((op.toNat : Int) == 111) = false := by rw [beq_eq_false_iff_ne]; omega
  by_cases h2 : op.toNat = 115
  ·rw [show asksX cs ms lo op cl nu = [tatX lo nu] from by simp [asksX, h2]]
   have e115 : ((op.toNat : Int) == 115) = true := by rw [beq_iff_eq]; omega
   have hTA := xtypeAt_any al capl lo nu ((w.alloc (.cells #[.int .u8 c0.toNat, .int .i64 m0, .int .u8 r0.toNat, .slice al lo.length capl, .slice ai ni capi] 115)).alloc (.cells #[.int .i64 pl, .int .u8 op.toNat, .int .u8 cl.toNat, .int .i64 nu, .slice pa pn pc] 219)) (BtB.but hB hB2 (fun _ _ h => h))
   have HTA := hid hTA
   have hz2 := hB2.size
   have hlit := fun W h => BtB.lit W w.heap.size h [tatX lo nu] (by simp)
   clear h1 h2 hTA
   generalize tatX lo nu = z at *
   go_enter Tryz.func203, Tryz.ntmps203
   go_wp2_with fail
   refine HTA.out.mono ?_
   rintro en wx ⟨rfl, hwx⟩
   rw [hwx]
   clear hwx wx
   go_wp2_with fail
   refine bodyPost_ret (v := .slice (some ⟨w.heap.size + 2, 0, none⟩) 1 1) (by simp [results, Tryz.results203, go_sem]) rfl ⟨hB2.trans (But.alloc _ _ _), _, rfl, ?_⟩
   have h9 := hlit ((w.alloc (.cells #[.int .u8 c0.toNat, .int .i64 m0, .int .u8 r0.toNat, .slice al lo.length capl, .slice ai ni capi] 115)).alloc (.cells #[.int .i64 pl, .int .u8 op.toNat, .int .u8 cl.toNat, .int .i64 nu, .slice pa pn pc] 219)) (by omega)
   simpa [btCells] using h9
  ·rw [show asksX cs ms lo op cl nu = takesX cs ms op cl nu 45 from by simp [asksX, h1, h2]]
   have e115 : ((op.toNat : Int) == 115) = false := by rw [beq_eq_false_iff_ne]; omega
   have HTK := hid (xtakes_any b cs ms pl nu op cl 45 ((w.alloc (.cells #[.int .u8 c0.toNat, .int .i64 m0, .int .u8 r0.toNat, .slice al lo.length capl, .slice ai ni capi] 115)).alloc (.cells #[.int .i64 pl, .int .u8 op.toNat, .int .u8 cl.toNat, .int .i64 nu, .slice pa pn pc] 219)) (ap := pa) (np := pn) (cp := pc) hn hm (hT.but hB2) (hM.but hB2))
   have hz2 := hB2.size
   clear h1 h2
   go_enter Tryz.func203, Tryz.ntmps203
   go_wp2_with fail
   refine HTK.out.mono ?_
   rintro en w5 ⟨hB5, v, rfl, hv⟩
   go_wp2_with fail
   exact bodyPost_ret (v := v) (by simp [results, Tryz.results203, go_sem]) rfl ⟨hB2.trans hB5, v, rfl, World.ownsRow.mono hv hz2⟩
set_option maxHeartbeats 1600000 in
set_option maxRecDepth 100000 in
theorem xtypeOf_any (ap : Option Addr) (cp : Nat) (ps : List UInt8) (hn : cs.length ≤ 100) (hm : ms.length ≤ 100) (hT : TxC w b cs) (hM : TxM w b ms) (hB : BtB w 0 (.slice al lo.length capl) lo) (hP : BtB w 0 (.slice ap ps.length cp) ps) :
  Calls Tryz.prog 149 #[.pointer (some ⟨b, 0, none⟩), hdV c0 m0 r0 (.slice al lo.length capl) (.slice ai ni capi), itV x, .slice ap ps.length cp] w fun en w' => But (fun _ => False) w w' ∧ en = .returned (.int .u8 (typX cs ms lo x.op x.cls x.num ps).toNat) := by
 obtain ⟨pl, op, cl, nu, pa, pn, pc⟩ := x
 unfold itV hdV
 dsimp only
 have hB2 : But (fun _ => False) w ((w.alloc (.cells #[.int .u8 c0.toNat, .int .i64 m0, .int .u8 r0.toNat, .slice al lo.length capl, .slice ai ni capi] 115)).alloc (.cells #[.int .i64 pl, .int .u8 op.toNat, .int .u8 cl.toNat, .int .i64 nu, .slice pa pn pc] 219)) := (But.alloc _ _ _).trans (But.alloc _ _ _)
 have hP2 := BtB.but hP hB2 (fun _ _ h => h)
 by_cases h1 : op.toNat = 115 ∨ op.toNat = 112 ∨ op.toNat = 119 ∨ op.toNat = 111
 ·rw [show typX cs ms lo op cl nu ps = 105 from by simp [typX, h1]]
  rcases h1 with h | h | h | h
  ·try (have e115 : ((op.toNat : Int) == 115) = false := by rw [beq_eq_false_iff_ne]; omega)
   try (have e112 : ((op.toNat : Int) == 112) = false := by rw [beq_eq_false_iff_ne]; omega)
   try (have e119 : ((op.toNat : Int) == 119) = false := by rw [beq_eq_false_iff_ne]; omega)
   have e115 : ((op.toNat : Int) == 115) = true := by rw [beq_iff_eq]; omega
   clear h
   go_enter Tryz.func149, Tryz.ntmps149
   go_wp2_with fail
   go_ret
   exact ⟨hB2, rfl⟩
  ·try (have e115 : ((op.toNat : Int) == 115) = false := by rw [beq_eq_false_iff_ne]; omega)
   try (have e112 : ((op.toNat : Int) == 112) = false := by rw [beq_eq_false_iff_ne]; omega)
   try (have e119 : ((op.toNat : Int) == 119) = false := by rw [beq_eq_false_iff_ne]; omega)
   have e112 : ((op.toNat : Int) == 112) = true := by rw [beq_iff_eq]; omega
   clear h
   go_enter Tryz.func149, Tryz.ntmps149
   go_wp2_with fail
   go_ret
   exact ⟨hB2, rfl⟩
  ·try (have e115 : ((op.toNat : Int) == 115) = false := by rw [beq_eq_false_iff_ne]; omega)
   try (have e112 : ((op.toNat : Int) == 112) = false := by rw [beq_eq_false_iff_ne]; omega)
   try (have e119 : ((op.toNat : Int) == 119) = false := by rw [beq_eq_false_iff_ne]; omega)
   have e119 : ((op.toNat : Int) == 119) = true := by rw [beq_iff_eq]; omega
   clear h
   go_enter Tryz.func149, Tryz.ntmps149
   go_wp2_with fail
   go_ret
   exact ⟨hB2, rfl⟩
  ·try (have e115 : ((op.toNat : Int) == 115) = false := by rw [beq_eq_false_iff_ne]; omega)
   try (have e112 : ((op.toNat : Int) == 112) = false := by rw [beq_eq_false_iff_ne]; omega)
   try (have e119 : ((op.toNat : Int) == 119) = false := by rw [beq_eq_false_iff_ne]; omega)
   have e111 : ((op.toNat : Int) == 111) = true := by rw [beq_iff_eq]; omega
   clear h
   go_enter Tryz.func149, Tryz.ntmps149
   go_wp2_with fail
   go_ret
   exact ⟨hB2, rfl⟩
 ·have e115 : ((op.toNat : Int) == 115) = false := by rw [beq_eq_false_iff_ne]; omega
  have e112 : ((op.toNat : Int) == 112) = false := by rw [beq_eq_false_iff_ne]; omega
  have e119 : ((op.toNat : Int) == 119) = false := by rw [beq_eq_false_iff_ne]; omega
  have e111 : ((op.toNat : Int) == 111) = false := by rw [beq_eq_false_iff_ne]; omega
  have HP2 := hid hP2
  by_cases h2 : op.toNat = 44
  ·rw [show typX cs ms lo op cl nu ps = tatX ps 1 from by simp [typX, h2]]
   have e44 : ((op.toNat : Int) == 44) = true := by rw [beq_iff_eq]; omega
   have HTA := hid (xtypeAt_any ap cp ps 1 _ hP2)
   clear h1 h2
   go_enter Tryz.func149, Tryz.ntmps149
   go_wp2_with fail
   refine HTA.out.mono ?_
   rintro en wx ⟨rfl, hwx⟩
   rw [hwx]
   clear hwx wx
   go_wp2_with fail
   go_ret
   exact ⟨hB2, rfl⟩
  ·have e44 : ((op.toNat : Int) == 44) = false := by rw [beq_eq_false_iff_ne]; omega
   by_cases h3 : op.toNat = 105
   ·rw [show typX cs ms lo op cl nu ps = meetX cs (tatX ps 1) (tatX ps 2) from by simp [typX, h3]]
    have e105 : ((op.toNat : Int) == 105) = true := by rw [beq_iff_eq]; omega
    have HT1 := hid (xtypeAt_any ap cp ps 1 _ hP2)
    have HT2 := hid (xtypeAt_any ap cp ps 2 _ hP2)
    have HMT := hid (xmeeting_any b cs (tatX ps 1) (tatX ps 2) _ hn (hT.but hB2))
    clear h1 h2 h3
    go_enter Tryz.func149, Tryz.ntmps149
    go_wp2_with fail
    refine HT1.out.mono ?_
    rintro en wx ⟨rfl, hwx⟩
    rw [hwx]
    clear hwx wx
    go_wp2_with fail
    refine HT2.out.mono ?_
    rintro en wx ⟨rfl, hwx⟩
    rw [hwx]
    clear hwx wx
    go_wp2_with fail
    refine HMT.out.mono ?_
    rintro en wx ⟨rfl, hwx⟩
    rw [hwx]
    clear hwx wx
    go_wp2_with fail
    go_ret
    exact ⟨hB2, rfl⟩
   ·have e105 : ((op.toNat : Int) == 105) = false := by rw [beq_eq_false_iff_ne]; omega
    rw [show typX cs ms lo op cl nu ps = laysX cs ms op cl nu lo from by simp [typX, h1, h2, h3]]
    have HLY := hid (xlays_any b cs ms pl nu op cl al capl lo _ (ap := pa) (np := pn) (cp := pc) hn hm (hT.but hB2) (hM.but hB2) (BtB.but hB hB2 (fun _ _ h => h)))
    clear h1 h2 h3
    go_enter Tryz.func149, Tryz.ntmps149
    go_wp2_with fail
    refine HLY.out.mono ?_
    rintro en w5 ⟨rfl, hB5⟩
    go_wp2_with fail
    go_ret
    exact ⟨hB2.trans hB5, rfl⟩
/-- Whether the first parts suit what is asked. -/
def accX (cs : List XCls) (ak ps : List UInt8) : Bool := (List.range ak.length).all fun i => suitsX cs (tatX ps i) (ak.getD i 0)
theorem accX_no {cs : List XCls} {ak ps : List UInt8} {i : Nat} (hi : i < ak.length) (h : suitsX cs (tatX ps i) (ak.getD i 0) = false) : accX cs ak ps = false := by
 unfold accX
 rw [List.all_eq_false]
 exact ⟨i, List.mem_range.2 hi, by rw [h]; simp⟩
theorem accX_yes {cs : List XCls} {ak ps : List UInt8} (h : ∀ i, i < ak.length → suitsX cs (tatX ps i) (ak.getD i 0) = true) : accX cs ak ps = true := by
 unfold accX
 rw [List.all_eq_true]
 exact fun i hi => h i (List.mem_range.1 hi)
set_option maxHeartbeats 1600000 in
set_option maxRecDepth 100000 in
theorem xaccepts_any (ap : Option Addr) (cp : Nat) (ps : List UInt8) (hn : cs.length ≤ 100) (hm : ms.length ≤ 100) (hT : TxC w b cs) (hM : TxM w b ms) (hB : BtB w 0 (.slice al lo.length capl) lo) (hP : BtB w 0 (.slice ap ps.length cp) ps) (hak : (asksX cs ms lo x.op x.cls x.num).length ≤ 100) :
  Calls Tryz.prog 148 #[.pointer (some ⟨b, 0, none⟩), hdV c0 m0 r0 (.slice al lo.length capl) (.slice ai ni capi), itV x, .slice ap ps.length cp] w fun en w' => But (fun _ => False) w w' ∧ en = .returned (.bool (accX cs (asksX cs ms lo x.op x.cls x.num) ps)) := by
 have hB2 : But (fun _ => False) w ((w.alloc (.cells #[.int .u8 c0.toNat, .int .i64 m0, .int .u8 r0.toNat, .slice al lo.length capl, .slice ai ni capi] 115)).alloc (.cells #[.int .i64 x.place, .int .u8 x.op.toNat, .int .u8 x.cls.toNat, .int .i64 x.num, .slice x.pa x.pn x.pc] 219)) := (But.alloc _ _ _).trans (But.alloc _ _ _)
 have HAS := hid (xasks_any b cs ms c0 m0 r0 al ai capl ni capi lo x ((w.alloc (.cells #[.int .u8 c0.toNat, .int .i64 m0, .int .u8 r0.toNat, .slice al lo.length capl, .slice ai ni capi] 115)).alloc (.cells #[.int .i64 x.place, .int .u8 x.op.toNat, .int .u8 x.cls.toNat, .int .i64 x.num, .slice x.pa x.pn x.pc] 219)) hn hm (hT.but hB2) (hM.but hB2) (BtB.but hB hB2 (fun _ _ h => h)))
 obtain ⟨A, hA⟩ : ∃ A, asksX cs ms lo x.op x.cls x.num = A := ⟨_, rfl⟩
 rw [hA] at HAS hak ⊢
 clear hA
 obtain ⟨R, hRR⟩ : ∃ R, accX cs A ps = R := ⟨_, rfl⟩
 rw [hRR]
 have HRR := hid hRR
 clear hRR
 unfold itV hdV at *
 go_enter Tryz.func148, Tryz.ntmps148
 go_wp2_with fail
 refine HAS.out.mono ?_
 rintro en w1 ⟨hB1', v, rfl, hv⟩
 obtain ⟨av, cv, rfl⟩ := owns_len hv
 have hB1 := hB2.trans hB1'
 clear HAS hB1' hB2
 go_wp2_with fail
 go_loopg [10] A.length (fun mm ks wr => ∃ (k : Nat), ks = .int .i64 k ∧ k ≤ A.length ∧ k + mm ≤ A.length ∧ A.length ≤ k + mm ∧ But (fun _ => False) w1 wr ∧ Hid (∀ i, i < k → suitsX cs (tatX ps i) (A.getD i 0) = true))
 case atStart => exact ⟨0, rfl, by omega, by omega, by omega, But.refl _ _, fun i h => absurd h (by omega)⟩
 case round =>
  obtain ⟨k, rfl, hk1, hk2, hk3, hBr, HA⟩ := hrel
  have hBw := hB1.trans hBr
  by_cases hlt : k < A.length
  ·have hlI : (k : Int) < (A.length : Int) := by omega
   have hvr := BtB.but hv hBr (fun _ _ h => h)
   obtain ⟨g, rfl, hg1, hg2, hcell⟩ := owns_two hvr (by omega)
   have qk := hcell _ _ (btCells_at hlt)
   have HTA := hid (xtypeAt_any ap cp ps k wr.drew (BtB.but hP (hBw.trans (But.drew _ _)) (fun _ _ h => h)))
   have HSU := hid (xsuits_any b cs (tatX ps k) (A.getD k 0) wr.drew hn (hT.but (hBw.trans (But.drew _ _))))
   have HX : Hid ((suitsX cs (tatX ps k) (A.getD k 0) = false → R = false) ∧ (suitsX cs (tatX ps k) (A.getD k 0) = true → ∀ i, i < k + 1 → suitsX cs (tatX ps i) (A.getD i 0) = true)) := by
    refine hid ⟨fun h => by rw [← HRR.out]; exact accX_no hlt h, fun h i hi => ?_⟩
    rcases Nat.lt_or_ge i k with h' | h'
    ·exact HA.out i h'
    ·have : i = k := by omega
     subst this
     exact h
   clear hcell
   revert HSU HX qk HTA
   generalize tatX ps k = P
   generalize A.getD k 0 = Q
   intro qk HTA HSU HX
   go_wp2_with fail
   have hS0 : But (fun _ => False) wr wr.drew := But.drew _ _
   refine wpP_begin (But (fun _ => False) wr) 10 (by kernel_rfl) ?_
   refine wpP_take (k := 0) (v := ?vA0) rfl (by decide) (by kernel_rfl) ?qA0 rfl hS0 ?yA0 ?rA0
   case yA0 => intro wS h; have q0 := ((h.cell (p := ⟨g, k, none⟩) hg1 (fun h => h)).trans qk); clear h; go_simp; try rfl
   case qA0 => exact fun _ _ _ h => h
   dsimp only [Act.put]
   try simp only [puts]
   refine wpP_take (k := 1) (v := ?vA1) rfl (by decide) (by kernel_rfl) ?qA1 rfl hS0 ?yA1 ?rA1
   case yA1 => intro wS h; have q0 := ((h.cell (p := ⟨g, k, none⟩) hg1 (fun h => h)).trans qk); clear h; go_simp; try rfl
   case qA1 => exact fun _ _ _ h => h
   dsimp only [Act.put]
   try simp only [puts]
   refine wpP_take (k := 2) (v := ?vA2) rfl (by decide) (by kernel_rfl) ?qA2 rfl hS0 ?yA2 ?rA2
   case yA2 => intro wS h; have q0 := ((h.cell (p := ⟨g, k, none⟩) hg1 (fun h => h)).trans qk); clear h; go_simp; try rfl
   case qA2 => exact fun _ _ _ h => h
   dsimp only [Act.put]
   try simp only [puts]
   refine wpP_take (k := 4) (v := ?vA4) rfl (by decide) (by kernel_rfl) ?qA4 rfl hS0 ?yA4 ?rA4
   case yA4 => intro wS h; have q0 := ((h.cell (p := ⟨g, k, none⟩) hg1 (fun h => h)).trans qk); clear h; go_simp; try rfl
   case qA4 => exact fun _ _ _ h => h
   dsimp only [Act.put]
   try simp only [puts]
   refine wpP_take (k := 5) (v := ?vA5) rfl (by decide) (by kernel_rfl) ?qA5 rfl hS0 ?yA5 ?rA5
   case yA5 => intro wS h; have q0 := ((h.cell (p := ⟨g, k, none⟩) hg1 (fun h => h)).trans qk); clear h; go_simp; try rfl
   case qA5 => exact fun _ _ _ h => h
   dsimp only [Act.put]
   try simp only [puts]
   refine wpP_take (k := 6) (v := ?vA6) rfl (by decide) (by kernel_rfl) ?qA6 rfl hS0 ?yA6 ?rA6
   case yA6 => intro wS h; have q0 := ((h.cell (p := ⟨g, k, none⟩) hg1 (fun h => h)).trans qk); clear h; go_simp; try rfl
   case qA6 => exact fun _ _ _ h => h
   dsimp only [Act.put]
   try simp only [puts]
   refine wpP_take (k := 7) (v := ?vA7) rfl (by decide) (by kernel_rfl) ?qA7 rfl hS0 ?yA7 ?rA7
   case yA7 => intro wS h; have q0 := ((h.cell (p := ⟨g, k, none⟩) hg1 (fun h => h)).trans qk); clear h; go_simp; try rfl
   case qA7 => exact fun _ _ _ h => h
   dsimp only [Act.put]
   try simp only [puts]
   refine wpP_step (k := 3) (o := ?oA3) ?hoA3 ?hlA3 ?hrA3 ?stA3
   case hoA3 => rfl
   case hlA3 => decide
   case hrA3 => kernel_rfl
   case' stA3 =>
   intro KS hKS
   go_simp
   refine HTA.out.mono ?_
   rintro en wx ⟨rfl, hwx⟩
   rw [hwx]
   clear hwx wx
   refine hKS.out _ _ (fun _ => hS0) ?_
   clear hKS KS
   refine wpP_step (k := 8) (o := ?oA8) ?hoA8 ?hlA8 ?hrA8 ?stA8
   case hoA8 => rfl
   case hlA8 => decide
   case hrA8 => kernel_rfl
   case' stA8 =>
   intro KS hKS
   go_simp
   refine HSU.out.mono ?_
   rintro en wx ⟨rfl, hwx⟩
   rw [hwx]
   clear hwx wx
   refine hKS.out _ _ (fun _ => hS0) ?_
   clear hKS KS
   refine wpP_step (k := 9) (o := ?oA9) ?hoA9 ?hlA9 ?hrA9 ?stA9
   case hoA9 => rfl
   case hlA9 => decide
   case hrA9 => kernel_rfl
   case' stA9 =>
   intro KS hKS
   go_simp
   refine hKS.out _ _ (fun _ => hS0) ?_
   clear hKS KS
   refine wpP_done rfl (by kernel_rfl) ?_
   have hBd := hBr.trans hS0
   have HX' := HX.out
   clear HX HTA HSU qk hS0
   generalize wr.drew = wd at *
   cases hq : suitsX cs P Q with
   | false =>
    have hres : R = false := HX'.1 hq
    subst hres
    clear HX' hq
    go_wp2_with fail
    go_ret
    exact ⟨hB1.trans hBd, rfl⟩
   | true =>
    have HY := hid (HX'.2 hq)
    clear HX' hq
    go_wp2_with fail
    go_roundg (A.length - (k + 1))
    case measure => omega
    case rel => exact ⟨k + 1, by simp, by omega, by omega, by omega, hBd, HY⟩
  ·have hlI : ¬ (k : Int) < (A.length : Int) := by omega
   have hres : R = true := by rw [← HRR.out]; exact accX_yes (fun i hi => HA.out i (by omega))
   subst hres
   go_wp2_with fail
   go_ret
   exact ⟨hBw, rfl⟩
end
end Go.Proofs.YtpfkkmacakjmbaaGreatDoor
/- The program's links of a source are the document's. -/
namespace Go.Proofs.YtpfkkmacakjmbaaGreatDoor
open Go Go.RowKit Sp
set_option linter.unusedSimpArgs false
set_option linter.unusedVariables false
theorem find_same : ∀ {its : List XIt} {is : List Ins} {p : XIt → Bool} {q : Ins → Bool}, its.length = is.length → (∀ (k : Nat) x y, its[k]? = some x → is[k]? = some y → p x = q y ∧ x.place = y.pos) → (its.find? p).map (·.place) = (is.find? q).map (·.pos) := by
 intro its
 induction its with
 | nil => intro is p q hl _; cases is with | nil => rfl | cons y is => simp at hl
 | cons x its ih =>
  intro is p q hl h
  cases is with
  | nil => simp at hl
  | cons y is =>
   obtain ⟨h1, h2⟩ := h 0 x y rfl rfl
   rw [List.find?_cons, List.find?_cons, h1]
   cases q y with
   | true => simp [h2]
   | false => exact ih (by simpa using hl) (fun k a b ha hb => h (k + 1) a b (by simpa using ha) (by simpa using hb))
theorem findSome_same {α β γ : Type} : ∀ {bs : List α} {BS : List β} {f : α → Option γ} {g : β → Option γ}, bs.length = BS.length → (∀ (k : Nat) x y, bs[k]? = some x → BS[k]? = some y → f x = g y) → bs.findSome? f = BS.findSome? g := by
 intro bs
 induction bs with
 | nil => intro BS f g hl _; cases BS with | nil => rfl | cons y BS => simp at hl
 | cons x bs ih =>
  intro BS f g hl h
  cases BS with
  | nil => simp at hl
  | cons y BS =>
   rw [List.findSome?_cons, List.findSome?_cons, h 0 x y rfl rfl, ih (by simpa using hl) (fun k a b ha hb => h (k + 1) a b (by simpa using ha) (by simpa using hb))]
theorem bodyF_heads {cs : List XCls} {xs ys : List XBod} (h : xs.map hdOf = ys.map hdOf) (m : Nat) : ∀ (f : Nat) (c : UInt8), bodyF cs xs m f c = bodyF cs ys m f c := by
 intro f
 induction f with
 | zero => intro c; rfl
 | succ f ih =>
  intro c
  simp only [bodyF, heads_len h, ownF_heads h, ih]
theorem SideOfN {cs : List Cls} {gs : List Sig} {b : Bod} (h : WfBS cs gs b) (hn : cs.length ≤ 4) : (b.cls = -1) ∨ SideB b := by
 rcases h.cls with ⟨h1, _⟩ | ⟨h1, h2, h3, h4⟩
 ·exact Or.inl h1
 ·exact Or.inr ⟨h1, by omega, h3⟩
theorem toXN_place (y : Ins) : (toXN y).place = y.pos := by unfold toXN; split <;> rfl
theorem brokN {cs : List Cls} {gs : List Sig} {BS : List Bod} {bs : List XBod} {y : Ins} {x : XIt} {nl n n' : Nat} (hw : WfC cs) (hn : cs.length ≤ 4) (hB : ∀ b ∈ BS, (b.cls = -1) ∨ SideB b) (hy : WfN cs gs.length nl y) (hh : bs.map hdOf = (BS.map (toXB gs)).map hdOf)
  (h1 : x.op = (toXN y).op) (h2 : x.cls = (toXN y).cls) (h3 : x.num = (toXN y).num) : brokX (cs.map toX) bs n x = broken cs BS n' y := by
 have hop := hy.op
 have hne : ∀ v : Nat, nodeLetters.contains v = false → y.op.toNat ≠ v := fun v hv h => by rw [h, hv] at hop; cases hop
 have e106 := hne 106 (by decide)
 have e102 := hne 102 (by decide)
 unfold brokX broken
 rw [h1, h2, h3]
 by_cases hd : isDigit y.op = true
 ·have hr := digit_range hd
  have e1 : toXN y = ⟨y.pos, 107, 45, y.b, none, 0, 0⟩ := by unfold toXN; rw [if_pos hd]
  rw [e1]
  have h99 : ¬ y.op.toNat = 99 := by omega
  simp [e106, e102, h99]
 ·have e1 : toXN y = toXI y := by unfold toXN; rw [if_neg hd]
  rw [e1]
  have e2 : (toXI y).op = y.op := rfl
  have e3 : (toXI y).num = y.b := rfl
  rw [e2, e3, if_neg (by omega)]
  by_cases h9 : y.op.toNat = 99
  ·rw [if_pos h9]
   have ha := hy.cls (by omega)
   have e4 : (toXI y).cls = UInt8.ofNat (65 + y.a) := by
    unfold toXI
    rw [if_pos (by omega)]
   rw [e4, List.length_map, bodyF_heads hh, bodyF_findF hw hn hB y.b cs.length 5 y.a ha ha (by omega)]
   simp [h9]
  ·rw [if_neg h9]
   simp [h9, e106, e102]
theorem xlinkN_any (b : Nat) (im : Img) (w : World) (hW : WfIS im) (hT : TextN w b im) :
  Calls Tryz.prog 104 #[.pointer (some ⟨b, 0, none⟩)] w fun e w' => e = .returned (.int .i64 (placeI (im.bodies.findSome? (fun b => unl im.classes im.bodies b.code)))) ∧ But (fun _ => False) w w' := by
 obtain ⟨bs, hTb, hBd⟩ := hT.bod
 have hsame : (bs.findSome? fun x => unlX (im.classes.map toX) bs x.items) = im.bodies.findSome? (fun b => unl im.classes im.bodies b.code) := by
  refine findSome_same hBd.1 (fun k X B hX hB => ?_)
  have h1 := hBd.2 k X B hX hB
  have hwb := hW.bod B (List.mem_of_getElem? hB)
  unfold unlX unl
  refine find_same h1.its.len (fun q x y hx hy => ?_)
  obtain ⟨e1, e2, e3, e4, _⟩ := h1.its.at' q y x hy hx
  exact ⟨brokN hW.cls hW.nc (fun b hb => SideOfN (hW.bod b hb) hW.nc) (hwb.code y (List.mem_of_getElem? hy)) hBd.heads e2 e3 e4, by rw [e1, toXN_place]⟩
 rw [← hsame]
 refine xbrokenLink_any b (im.classes.map toX) bs w (by rw [List.length_map]; have := hW.nc; omega) (by rw [hBd.1]; have := hW.nb; omega) ?_ hT.cls hTb
 intro x hx
 obtain ⟨k, hk, rfl⟩ := List.getElem_of_mem hx
 have hk2 : k < im.bodies.length := by rw [← hBd.1]; exact hk
 have h1 := hBd.2 k _ _ (List.getElem?_eq_getElem hk) (List.getElem?_eq_getElem hk2)
 have := (hW.bod _ (List.getElem_mem hk2)).len
 rw [h1.its.len]
 omega
end Go.Proofs.YtpfkkmacakjmbaaGreatDoor
/- Types of nodes, from the right: what holds of the pure spec. -/
namespace Go.Proofs.YtpfkkmacakjmbaaGreatDoor
open Go Go.RowKit Sp
set_option linter.unusedSimpArgs false
set_option linter.unusedVariables false
theorem full_at : ∀ {t : List Ins} {m : Nat}, full m t → ∀ i, i < t.length → ∃ m', full (m' + 1) (t.drop i) := by
 intro t
 induction t with
 | nil => intro m _ i h; simp at h
 | cons x t ih =>
  intro m h i hi
  cases m with
  | zero => cases h
  | succ m =>
   cases i with
   | zero => exact ⟨m, h⟩
   | succ i => exact ih (m := m + arity x.op) h i (by simpa using hi)
theorem ptsL_len {t : List Ins} : ∀ {j m k : Nat}, full (m + j) (t.drop k) → (ptsL t j k).length = j := by
 intro j
 induction j with
 | zero => intro m k _; rfl
 | succ j ih =>
  intro m k h
  have h0 := full_pos (m := m + j) (by rw [show m + j + 1 = m + (j + 1) from by omega]; exact h)
  rw [List.length_drop] at h0
  have h1 := full_drop (u := t.drop k) (m := m + j) (by rw [show 1 + (m + j) = m + (j + 1) from by omega]; exact h)
  rw [List.drop_drop] at h1
  simp only [ptsL, show k < t.length from by omega, if_true, List.length_cons]
  rw [ih (m := m) (k := endN t k) h1]
theorem ptsN_len {t : List Ins} (hf : full 1 t) {i : Nat} {x : Ins} (hx : t[i]? = some x) : (ptsN t i).length = arity x.op := by
 obtain ⟨hl, hg⟩ := List.getElem?_eq_some_iff.1 hx
 obtain ⟨m, hm⟩ := full_at hf i hl
 rw [List.drop_eq_getElem_cons hl, hg] at hm
 have hm' : full (m + arity x.op) (t.drop (i + 1)) := hm
 unfold ptsN
 rw [hx]
 exact ptsL_len hm'
theorem ptsL_mem {t : List Ins} : ∀ {j k : Nat}, ∀ q ∈ ptsL t j k, k ≤ q ∧ q < t.length := by
 intro j
 induction j with
 | zero => intro k q h; simp [ptsL] at h
 | succ j ih =>
  intro k q h
  unfold ptsL at h
  split at h
  ·rename_i hk
   rcases List.mem_cons.1 h with rfl | h
   ·exact ⟨Nat.le_refl _, hk⟩
   ·have h1 := ih q h
    have h2 := endN_gt hk
    exact ⟨by omega, h1.2⟩
  ·simp at h
theorem ptsN_mem {t : List Ins} {i q : Nat} (h : q ∈ ptsN t i) : i < q ∧ q < t.length := by
 unfold ptsN at h
 split at h
 ·have := ptsL_mem q h
  exact ⟨by omega, this.2⟩
 ·simp at h
section
variable {cs : List Cls} {gs : List Sig} {lo : List UInt8} {t : List Ins}
theorem partsT_same {f g : Nat → Option UInt8} : ∀ {n k : Nat}, (∀ q, k ≤ q → q < t.length → f q = g q) → (∀ q, t.length ≤ q → f q = none ∧ g q = none) → partsT t f n k = partsT t g n k := by
 intro n
 induction n with
 | zero => intro k _ _; rfl
 | succ n ih =>
  intro k h1 h2
  unfold partsT
  rcases Nat.lt_or_ge k t.length with hk | hk
  ·rw [h1 k (Nat.le_refl _) hk, ih (fun q hq => h1 q (by have := endN_gt hk; omega)) h2]
  ·rw [(h2 k hk).1, (h2 k hk).2]
theorem typN_out {F q : Nat} (h : t.length ≤ q) : typN cs gs lo t F q = none := by
 cases F with
 | zero => rfl
 | succ F => simp [typN, List.getElem?_eq_none h]
/-- More fuel than there are nodes behind makes no difference. -/
theorem typN_fuel : ∀ {F G k : Nat}, t.length - k ≤ F → t.length - k ≤ G → typN cs gs lo t F k = typN cs gs lo t G k := by
 intro F
 induction F with
 | zero => intro G k h1 _; rw [typN_out (by omega), typN_out (by omega)]
 | succ F ih =>
  intro G k h1 h2
  cases G with
  | zero => rw [typN_out (by omega), typN_out (by omega)]
  | succ G =>
   have hp : ∀ n, partsT t (typN cs gs lo t F) n (k + 1) = partsT t (typN cs gs lo t G) n (k + 1) := fun n =>
    partsT_same (fun q hq hl => ih (by omega) (by omega)) (fun q hq => ⟨typN_out hq, typN_out hq⟩)
   simp only [typN, hp]
/-- The type of a node, by those of its parts. -/
theorem typN_step {k : Nat} {x : Ins} (hx : t[k]? = some x) : typN cs gs lo t t.length k = match partsT t (typN cs gs lo t t.length) (arity x.op) (k + 1) with
  | none => none
  | some ts => nodeT cs gs lo x ts := by
 have hl := (List.getElem?_eq_some_iff.1 hx).1
 obtain ⟨n, hn⟩ : ∃ n, t.length = n + 1 := ⟨t.length - 1, by omega⟩
 have h1 : typN cs gs lo t t.length k = typN cs gs lo t (n + 1) k := by rw [hn]
 rw [h1]
 have hp : partsT t (typN cs gs lo t n) (arity x.op) (k + 1) = partsT t (typN cs gs lo t t.length) (arity x.op) (k + 1) :=
  partsT_same (fun q hq hl => typN_fuel (by omega) (by omega)) (fun q hq => ⟨typN_out hq, typN_out hq⟩)
 simp only [typN, hx, hp]
 cases partsT t (typN cs gs lo t t.length) (arity x.op) (k + 1) <;> rfl
/-- The parts' types, where all behind have theirs. -/
theorem partsT_map {ty : Nat → UInt8} : ∀ {n k : Nat}, (ptsL t n k).length = n → (∀ q ∈ ptsL t n k, typN cs gs lo t t.length q = some (ty q)) → partsT t (typN cs gs lo t t.length) n k = some ((ptsL t n k).map ty) := by
 intro n
 induction n with
 | zero => intro k _ _; rfl
 | succ n ih =>
  intro k hl h
  unfold ptsL at hl h ⊢
  split at hl
  ·rename_i hk
   rw [if_pos hk] at h ⊢
   unfold partsT
   rw [h k (by simp), ih (by simpa using hl) (fun q hq => h q (by simp [hq]))]
   rfl
  ·simp at hl
/-- A node has no type if one in it has none. -/
theorem typN_in : ∀ {F k : Nat}, t.length - k ≤ F → typN cs gs lo t t.length k ≠ none → ∀ j, k ≤ j → j < endN t k → typN cs gs lo t t.length j ≠ none := by
 intro F
 induction F with
 | zero => intro k hF h j _ _; exact absurd (typN_out (by omega)) h
 | succ F ih =>
  intro k hF h j h1 h2
  rcases Nat.eq_or_lt_of_le h1 with rfl | h1
  ·exact h
  ·have hl : k < t.length := by
    rcases Nat.lt_or_ge k t.length with hl | hl
    ·exact hl
    ·exact absurd (typN_out hl) h
   have hx := List.getElem?_eq_getElem hl
   rw [typN_step hx] at h
   rw [endN_cons hx] at h2
   have hp : ∀ n p, k < p → partsT t (typN cs gs lo t t.length) n p ≠ none → ∀ j, p ≤ j → j < p + sk n (t.drop p) → typN cs gs lo t t.length j ≠ none := by
    intro n
    induction n with
    | zero => intro p _ _ j a1 a2; rw [sk_zero] at a2; omega
    | succ n ihn =>
     intro p hkp hpt j a1 a2
     rw [sk_step] at a2
     have hT : typN cs gs lo t t.length p ≠ none := fun h0 => hpt (by simp [partsT, h0])
     rcases Nat.lt_or_ge j (endN t p) with hj | hj
     ·exact ih (k := p) (by omega) hT j a1 hj
     ·refine ihn (endN t p) ?_ ?_ j hj a2
      ·have : p < t.length := by
        rcases Nat.lt_or_ge p t.length with hl | hl
        ·exact hl
        ·exact absurd (typN_out hl) hT
       have := endN_gt this
       omega
      ·intro h0
       apply hpt
       unfold partsT
       cases typN cs gs lo t t.length p <;> simp [h0]
   refine hp (arity t[k].op) (k + 1) (by omega) ?_ j (by omega) h2
   intro h0
   rw [h0] at h
   exact h rfl
theorem typN_all (hf : full 1 t) (h : typN cs gs lo t t.length 0 ≠ none) : ∀ j, j < t.length → typN cs gs lo t t.length j ≠ none := by
 intro j hj
 refine typN_in (F := t.length) (by omega) h j (Nat.zero_le _) ?_
 unfold endN
 rw [List.drop_zero]
 have := full_sk (v := []) hf
 rw [List.append_nil] at this
 omega
end
end Go.Proofs.YtpfkkmacakjmbaaGreatDoor
