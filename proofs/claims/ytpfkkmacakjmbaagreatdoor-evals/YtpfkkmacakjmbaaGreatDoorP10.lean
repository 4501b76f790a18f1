import Derived.Test.YtpfkkmacakjmbaaGreatDoorP09
set_option maxRecDepth 100000
set_option maxHeartbeats 6400000
namespace Go.Proofs.YtpfkkmacakjmbaaGreatDoor
open Go Go.RowKit Sp
set_option linter.unusedSimpArgs false
set_option linter.unusedVariables false
attribute [local go_sem ↓] Go.wp_at_zero Go.wp_at_succ
theorem lget (l : List UInt8) (k : Nat) (h : k < l.length) (h' : k < (⟨l.toArray⟩ : ByteArray).size) : (⟨l.toArray⟩ : ByteArray)[k] = l[k] := rfl
theorem getD_lt (l : List UInt8) (k : Nat) (h : k < l.length) : l.getD k 0 = l[k] := by simp [List.getD, h]
theorem fits_any (bi : Nat) (cs : List Cls) (st wa : List UInt8) (w : World) (hI : ClsAt w bi cs) (hw : WfC cs) (hn : cs.length ≤ 4) (hst : ∀ c ∈ st, okT cs.length c = true) (hl1 : st.length ≤ 100000) (hl2 : wa.length ≤ 100) :
  Calls Tryz.prog 83 #[.pointer (some ⟨bi, 0, none⟩), .string ⟨st.toArray⟩, .string ⟨wa.toArray⟩] w fun en w' => en = .returned (.bool (fitsT cs st wa)) ∧ But (fun _ => False) w w' := by
 obtain ⟨R, hRR⟩ : ∃ R, fitsT cs st wa = R := ⟨_, rfl⟩
 rw [hRR]
 have HRR : Hid (fitsT cs st wa = R) := hRR
 clear hRR
 by_cases hlen : (st.length : Int) - (wa.length : Int) < 0
 ·have hres : R = false := by rw [← HRR.out]; exact fitsT_false (by omega)
  subst hres
  go_enter Tryz.func83, Tryz.ntmps83
  go_wp2_with fail
  go_ret
  exact ⟨rfl, But.refl _ _⟩
 go_enter Tryz.func83, Tryz.ntmps83
 go_wp2_with fail
 go_loopg [8] wa.length (fun mm ks wr => ∃ (k : Nat), ks = .int .i64 k ∧ k ≤ wa.length ∧ k + mm ≤ wa.length ∧ wa.length ≤ k + mm ∧ But (fun _ => False) w wr ∧ Hid (∀ j, j < k → subT cs (st.getD (st.length - wa.length + j) 0) (wa.getD j 0) = true))
 case atStart => exact ⟨0, rfl, by omega, by omega, by omega, But.refl _ _, fun j h => absurd h (by omega)⟩
 case round =>
  obtain ⟨k, rfl, hk1, hk2, hk3, hBr, HA⟩ := hrel
  by_cases hlt : k < wa.length
  ·have hkn : (k : Int) < (wa.length : Int) := by omega
   have hi1 : (0 : Int) ≤ (st.length : Int) - (wa.length : Int) + (k : Int) := by omega
   have hi2 : (st.length : Int) - (wa.length : Int) + (k : Int) < (st.length : Int) := by omega
   have hin : st.length - wa.length + k < st.length := by omega
   have hwrp := wrapI ((st.length : Int) - (wa.length : Int) + (k : Int)) (by omega) (by omega)
   go_wp2_with fail
   refine wpTx_begin (But (fun _ => False) wr) 10 (by kernel_rfl) ?_
   have hS0 : But (fun _ => False) wr wr.drew := But.drew _ _
   iterate 9 (refine wpTx_take (v := ?_) rfl (by kernel_rfl) (fun _ _ _ h => h) rfl hS0 ?_ ?_; rotate_left; (focus (intro wS h; clear h; go_simp; try rfl)); dsimp only [Act.put]; try simp only [puts])
   clear hwrp
   refine wpTx_step rfl (by kernel_rfl) ?_
   intro KS hKS
   go_simp
   have ha : ∀ h, (⟨st.toArray⟩ : ByteArray)[((st.length : Int) - (wa.length : Int) + (k : Int)).toNat]'h = st.getD (st.length - wa.length + k) 0 := fun h => by
    have hidx : ((st.length : Int) - (wa.length : Int) + (k : Int)).toNat = st.length - wa.length + k := by omega
    rw [getD_lt st _ hin]
    simp only [hidx]
    exact lget st _ hin _
   have hb : ∀ h, (⟨wa.toArray⟩ : ByteArray)[k]'h = wa.getD k 0 := fun h => by
    rw [getD_lt wa _ hlt]
    exact lget wa _ hlt _
   simp only [ha, hb]
   have hak : okT cs.length (st.getD (st.length - wa.length + k) 0) = true := by rw [getD_lt st _ hin]; exact hst _ (List.getElem_mem _)
   have HNX : Hid (∀ q, subT cs (st.getD (st.length - wa.length + k) 0) (wa.getD k 0) = q → (q = false → R = false) ∧ (q = true → ∀ j, j < k + 1 → subT cs (st.getD (st.length - wa.length + j) 0) (wa.getD j 0) = true)) := fun q hq => by
    refine ⟨fun h => by subst h; rw [← HRR.out]; exact fitsT_no hlt hq, fun h j hj => ?_⟩
    rcases Nat.lt_or_ge j k with h' | h'
    ·exact HA.out j h'
    ·have : j = k := by omega
     subst this
     rw [hq, h]
   clear ha hb hin
   generalize st.getD (st.length - wa.length + k) 0 = A at *
   generalize wa.getD k 0 = B at *
   refine (sub_any bi cs A B _ ((hI.but hBr).but hS0) hw hn hak).mono ?_
   rintro en wx ⟨rfl, hwx⟩
   rw [hwx]
   clear hwx wx
   refine hKS.out _ _ (fun _ => hS0) ?_
   clear hKS KS
   refine wpTx_step rfl (by kernel_rfl) ?_
   intro KS hKS
   go_simp
   refine hKS.out _ _ (fun h => absurd h (by decide)) ?_
   clear hKS KS
   refine wpTx_done rfl (by kernel_rfl) ?_
   have HX := HNX.out _ rfl
   cases hq : subT cs A B with
   | false =>
    have hres : R = false := HX.1 hq
    subst hres
    clear HX hq
    go_wp2_with fail
    go_ret
    exact ⟨rfl, hBr.trans hS0⟩
   | true =>
    have HY : Hid (∀ j, j < k + 1 → subT cs (st.getD (st.length - wa.length + j) 0) (wa.getD j 0) = true) := HX.2 hq
    clear HX hq
    go_wp2_with fail
    go_roundg (wa.length - (k + 1))
    case measure => omega
    case rel => exact ⟨k + 1, by simp, by omega, by omega, by omega, hBr.trans hS0, HY⟩
  ·have hres : R = true := by rw [← HRR.out]; exact fitsT_yes (by omega) (fun j hj => HA.out j (by omega))
   subst hres
   go_wp2_with fail
   go_ret
   exact ⟨rfl, hBr⟩
theorem conv1i (a : Int) (c : UInt8) (ha : a = c.toNat) (w : World) : (convert 112 9 (.slice (some ⟨w.heap.size, 0, none⟩) 1 1)).run Tryz.prog (w.alloc (.cells #[.int .u8 a] 5)) = .ok (.string ⟨#[c]⟩) (w.alloc (.cells #[.int .u8 a] 5)) := by
 subst ha
 exact conv1 c w
theorem conv2d (a d : Int) (c e : UInt8) (ha : a = c.toNat) (hd : d = e.toNat) (w : World) : (convert 112 9 (.slice (some ⟨w.heap.size, 0, none⟩) 2 2)).run Tryz.prog (w.alloc (.cells #[.int .u8 a, .int .u8 d] 5)).drew = .ok (.string ⟨#[c, e]⟩) (w.alloc (.cells #[.int .u8 a, .int .u8 d] 5)).drew := conv2i a d c e ha hd w.drew
theorem clsT_nat {a : Nat} (h : a < 4) : (65 + (a : Int)) = ((clsT a).toNat : Int) := by
 unfold clsT
 rw [UInt8.toNat_ofNat']
 omega
def SigAt (w : World) (bi : Nat) (gs : List Sig) : Prop :=
 ∃ v0 v1 v2, ImB w bi v0 v1 v2 ∧ w.ownsRow 0 129 2 v1 gs.length (sigCells gs)
theorem ImgAt.sig {w : World} {bi : Nat} {im : Img} (h : ImgAt w bi im) : SigAt w bi im.sigs := by
 obtain ⟨v0, v1, v2, l, hI, _, h1, _⟩ := h
 exact ⟨v0, v1, v2, hI, h1⟩
theorem SigAt.but {w w' : World} {bi : Nat} {gs : List Sig} (h : SigAt w bi gs) (hb : But (fun _ => False) w w') : SigAt w' bi gs := by
 obtain ⟨v0, v1, v2, hI, h0⟩ := h
 exact ⟨v0, v1, v2, hI.but hb (fun h => h), owns_but h0 hb (fun _ _ h => h)⟩
theorem SigAt.at {w : World} {bi : Nat} {gs : List Sig} (h : SigAt w bi gs) {k : Nat} (hk : k < gs.length) :
  ∃ (g n cap : Nat), w.cell? ⟨bi, 1, none⟩ = some (.slice (some ⟨g, 0, none⟩) n cap) ∧ (k : Int) < (n : Int) ∧ w.cell? ⟨g, k * 2, none⟩ = some (.int .u8 (argT gs k).toNat) ∧ w.cell? ⟨g, k * 2 + 1, none⟩ = some (.int .u8 (retT gs k).toNat) ∧ bi < w.heap.size ∧ g < w.heap.size := by
 obtain ⟨v0, v1, v2, hI, hO⟩ := h
 obtain ⟨a0, cap0, rfl⟩ := owns_len hO
 have hgl := List.getElem?_eq_getElem hk
 obtain ⟨g, rfl, hg1, hg2, hcell⟩ := owns_two hO (by omega)
 refine ⟨g, gs.length, cap0, hI.c1, by omega, ?_, ?_, hI.lt, hg1⟩
 ·rw [show argT gs k = gs[k].arg from by simp [argT, hgl]]; exact hcell _ _ (sigCells_at0 hgl)
 ·rw [show retT gs k = gs[k].ret from by simp [retT, hgl]]; exact hcell _ _ (sigCells_at1 hgl)
theorem ClsAt.flds {w : World} {bi : Nat} {cs : List Cls} (h : ClsAt w bi cs) {k j : Nat} (hk : k < cs.length) (hj : j < nFields cs k) :
  ∃ (g n cap : Nat) (fl : List UInt8), w.cell? ⟨bi, 0, none⟩ = some (.slice (some ⟨g, 0, none⟩) n cap) ∧ (k : Int) < (n : Int) ∧ w.cell? ⟨g, k * 2 + 1, none⟩ = some (.string ⟨fl.toArray⟩) ∧ j < fl.length ∧ fl.getD j 0 = fieldT cs k j ∧ bi < w.heap.size ∧ g < w.heap.size := by
 obtain ⟨v0, v1, v2, hI, hO⟩ := h
 obtain ⟨a0, cap0, rfl⟩ := owns_len hO
 have hgl := List.getElem?_eq_getElem hk
 obtain ⟨g, rfl, hg1, hg2, hcell⟩ := owns_two hO (by omega)
 refine ⟨g, cs.length, cap0, cs[k].fields, hI.c0, by omega, hcell _ _ (clsCells_at1 hgl), ?_, ?_, hI.lt, hg1⟩
 ·simpa [nFields, hgl] using hj
 ·simp [fieldT, hgl]
theorem extract_one (l : List UInt8) (k : Nat) (h : k < l.length) : (⟨l.toArray⟩ : ByteArray).extract k (k + 1) = ⟨[l.getD k 0].toArray⟩ := by
 apply ByteArray.ext
 rw [ByteArray.data_extract]
 apply Array.ext'
 simp [List.getD, h]
 rw [List.drop_eq_getElem_cons h]
 rfl
theorem ImgS.cls {w : World} {bi : Nat} {im : Img} (h : ImgS w bi im) : ClsAt w bi im.classes := by
 obtain ⟨v0, v1, v2, l, hI, h0, _⟩ := h
 exact ⟨v0, v1, v2, hI, h0⟩
theorem ImgS.sig {w : World} {bi : Nat} {im : Img} (h : ImgS w bi im) : SigAt w bi im.sigs := by
 obtain ⟨v0, v1, v2, l, hI, _, h1, _⟩ := h
 exact ⟨v0, v1, v2, hI, h1⟩
theorem asked_43 (bi : Nat) (im : Img) (bd : Bod) (ak : Option Addr) (n capk : Nat) (x : Ins) (e : Nat) (w : World) (hI : ImgS w bi im) (hW : WfIS im) (hbd : WfBS im.classes im.sigs bd) (hx : WfN im.classes im.sigs.length bd.locals.length x) (hv : x.op.toNat = 43) :
  Calls Tryz.prog 118 #[.pointer (some ⟨bi, 0, none⟩), .agg #[.int .i64 bd.cls, .int .i64 bd.meth, .string ⟨bd.locals.toArray⟩, .slice none 0 0, .slice ak n capk], .agg #[.int .u8 x.op.toNat, .int .i64 x.a, .int .i64 x.b, .int .i64 x.pos, .int .i64 e]] w fun en w' => en = .returned (.string ⟨(askT im.classes im.sigs bd.locals x).toArray⟩) ∧ But (fun _ => False) w w' := by
 rw [show askT im.classes im.sigs bd.locals x = [105, 105] from by simp [askT, hv, arith]]
 have t43 : ((x.op.toNat : Int) == 43) = true := by rw [beq_iff_eq]; omega
 clear hv
 go_enter Tryz.func118, Tryz.ntmps118
 go_wp2_with fail
 go_ret
 exact ⟨rfl, (But.alloc _ _ _).trans (But.alloc _ _ _)⟩
theorem asked_45 (bi : Nat) (im : Img) (bd : Bod) (ak : Option Addr) (n capk : Nat) (x : Ins) (e : Nat) (w : World) (hI : ImgS w bi im) (hW : WfIS im) (hbd : WfBS im.classes im.sigs bd) (hx : WfN im.classes im.sigs.length bd.locals.length x) (hv : x.op.toNat = 45) :
  Calls Tryz.prog 118 #[.pointer (some ⟨bi, 0, none⟩), .agg #[.int .i64 bd.cls, .int .i64 bd.meth, .string ⟨bd.locals.toArray⟩, .slice none 0 0, .slice ak n capk], .agg #[.int .u8 x.op.toNat, .int .i64 x.a, .int .i64 x.b, .int .i64 x.pos, .int .i64 e]] w fun en w' => en = .returned (.string ⟨(askT im.classes im.sigs bd.locals x).toArray⟩) ∧ But (fun _ => False) w w' := by
 rw [show askT im.classes im.sigs bd.locals x = [105, 105] from by simp [askT, hv, arith]]
 have t43 : ((x.op.toNat : Int) == 43) = false := by rw [beq_eq_false_iff_ne]; omega
 have t45 : ((x.op.toNat : Int) == 45) = true := by rw [beq_iff_eq]; omega
 clear hv
 go_enter Tryz.func118, Tryz.ntmps118
 go_wp2_with fail
 go_ret
 exact ⟨rfl, (But.alloc _ _ _).trans (But.alloc _ _ _)⟩
theorem asked_42 (bi : Nat) (im : Img) (bd : Bod) (ak : Option Addr) (n capk : Nat) (x : Ins) (e : Nat) (w : World) (hI : ImgS w bi im) (hW : WfIS im) (hbd : WfBS im.classes im.sigs bd) (hx : WfN im.classes im.sigs.length bd.locals.length x) (hv : x.op.toNat = 42) :
  Calls Tryz.prog 118 #[.pointer (some ⟨bi, 0, none⟩), .agg #[.int .i64 bd.cls, .int .i64 bd.meth, .string ⟨bd.locals.toArray⟩, .slice none 0 0, .slice ak n capk], .agg #[.int .u8 x.op.toNat, .int .i64 x.a, .int .i64 x.b, .int .i64 x.pos, .int .i64 e]] w fun en w' => en = .returned (.string ⟨(askT im.classes im.sigs bd.locals x).toArray⟩) ∧ But (fun _ => False) w w' := by
 rw [show askT im.classes im.sigs bd.locals x = [105, 105] from by simp [askT, hv, arith]]
 have t43 : ((x.op.toNat : Int) == 43) = false := by rw [beq_eq_false_iff_ne]; omega
 have t45 : ((x.op.toNat : Int) == 45) = false := by rw [beq_eq_false_iff_ne]; omega
 have t42 : ((x.op.toNat : Int) == 42) = true := by rw [beq_iff_eq]; omega
 clear hv
 go_enter Tryz.func118, Tryz.ntmps118
 go_wp2_with fail
 go_ret
 exact ⟨rfl, (But.alloc _ _ _).trans (But.alloc _ _ _)⟩
theorem asked_47 (bi : Nat) (im : Img) (bd : Bod) (ak : Option Addr) (n capk : Nat) (x : Ins) (e : Nat) (w : World) (hI : ImgS w bi im) (hW : WfIS im) (hbd : WfBS im.classes im.sigs bd) (hx : WfN im.classes im.sigs.length bd.locals.length x) (hv : x.op.toNat = 47) :
  Calls Tryz.prog 118 #[.pointer (some ⟨bi, 0, none⟩), .agg #[.int .i64 bd.cls, .int .i64 bd.meth, .string ⟨bd.locals.toArray⟩, .slice none 0 0, .slice ak n capk], .agg #[.int .u8 x.op.toNat, .int .i64 x.a, .int .i64 x.b, .int .i64 x.pos, .int .i64 e]] w fun en w' => en = .returned (.string ⟨(askT im.classes im.sigs bd.locals x).toArray⟩) ∧ But (fun _ => False) w w' := by
 rw [show askT im.classes im.sigs bd.locals x = [105, 105] from by simp [askT, hv, arith]]
 have t43 : ((x.op.toNat : Int) == 43) = false := by rw [beq_eq_false_iff_ne]; omega
 have t45 : ((x.op.toNat : Int) == 45) = false := by rw [beq_eq_false_iff_ne]; omega
 have t42 : ((x.op.toNat : Int) == 42) = false := by rw [beq_eq_false_iff_ne]; omega
 have t47 : ((x.op.toNat : Int) == 47) = true := by rw [beq_iff_eq]; omega
 clear hv
 go_enter Tryz.func118, Tryz.ntmps118
 go_wp2_with fail
 go_ret
 exact ⟨rfl, (But.alloc _ _ _).trans (But.alloc _ _ _)⟩
theorem asked_60 (bi : Nat) (im : Img) (bd : Bod) (ak : Option Addr) (n capk : Nat) (x : Ins) (e : Nat) (w : World) (hI : ImgS w bi im) (hW : WfIS im) (hbd : WfBS im.classes im.sigs bd) (hx : WfN im.classes im.sigs.length bd.locals.length x) (hv : x.op.toNat = 60) :
  Calls Tryz.prog 118 #[.pointer (some ⟨bi, 0, none⟩), .agg #[.int .i64 bd.cls, .int .i64 bd.meth, .string ⟨bd.locals.toArray⟩, .slice none 0 0, .slice ak n capk], .agg #[.int .u8 x.op.toNat, .int .i64 x.a, .int .i64 x.b, .int .i64 x.pos, .int .i64 e]] w fun en w' => en = .returned (.string ⟨(askT im.classes im.sigs bd.locals x).toArray⟩) ∧ But (fun _ => False) w w' := by
 rw [show askT im.classes im.sigs bd.locals x = [105, 105] from by simp [askT, hv, arith]]
 have t43 : ((x.op.toNat : Int) == 43) = false := by rw [beq_eq_false_iff_ne]; omega
 have t45 : ((x.op.toNat : Int) == 45) = false := by rw [beq_eq_false_iff_ne]; omega
 have t42 : ((x.op.toNat : Int) == 42) = false := by rw [beq_eq_false_iff_ne]; omega
 have t47 : ((x.op.toNat : Int) == 47) = false := by rw [beq_eq_false_iff_ne]; omega
 have t60 : ((x.op.toNat : Int) == 60) = true := by rw [beq_iff_eq]; omega
 clear hv
 go_enter Tryz.func118, Tryz.ntmps118
 go_wp2_with fail
 go_ret
 exact ⟨rfl, (But.alloc _ _ _).trans (But.alloc _ _ _)⟩
theorem asked_61 (bi : Nat) (im : Img) (bd : Bod) (ak : Option Addr) (n capk : Nat) (x : Ins) (e : Nat) (w : World) (hI : ImgS w bi im) (hW : WfIS im) (hbd : WfBS im.classes im.sigs bd) (hx : WfN im.classes im.sigs.length bd.locals.length x) (hv : x.op.toNat = 61) :
  Calls Tryz.prog 118 #[.pointer (some ⟨bi, 0, none⟩), .agg #[.int .i64 bd.cls, .int .i64 bd.meth, .string ⟨bd.locals.toArray⟩, .slice none 0 0, .slice ak n capk], .agg #[.int .u8 x.op.toNat, .int .i64 x.a, .int .i64 x.b, .int .i64 x.pos, .int .i64 e]] w fun en w' => en = .returned (.string ⟨(askT im.classes im.sigs bd.locals x).toArray⟩) ∧ But (fun _ => False) w w' := by
 rw [show askT im.classes im.sigs bd.locals x = [105, 105] from by simp [askT, hv, arith]]
 have t43 : ((x.op.toNat : Int) == 43) = false := by rw [beq_eq_false_iff_ne]; omega
 have t45 : ((x.op.toNat : Int) == 45) = false := by rw [beq_eq_false_iff_ne]; omega
 have t42 : ((x.op.toNat : Int) == 42) = false := by rw [beq_eq_false_iff_ne]; omega
 have t47 : ((x.op.toNat : Int) == 47) = false := by rw [beq_eq_false_iff_ne]; omega
 have t60 : ((x.op.toNat : Int) == 60) = false := by rw [beq_eq_false_iff_ne]; omega
 have t61 : ((x.op.toNat : Int) == 61) = true := by rw [beq_iff_eq]; omega
 clear hv
 go_enter Tryz.func118, Tryz.ntmps118
 go_wp2_with fail
 go_ret
 exact ⟨rfl, (But.alloc _ _ _).trans (But.alloc _ _ _)⟩
theorem asked_119 (bi : Nat) (im : Img) (bd : Bod) (ak : Option Addr) (n capk : Nat) (x : Ins) (e : Nat) (w : World) (hI : ImgS w bi im) (hW : WfIS im) (hbd : WfBS im.classes im.sigs bd) (hx : WfN im.classes im.sigs.length bd.locals.length x) (hv : x.op.toNat = 119) :
  Calls Tryz.prog 118 #[.pointer (some ⟨bi, 0, none⟩), .agg #[.int .i64 bd.cls, .int .i64 bd.meth, .string ⟨bd.locals.toArray⟩, .slice none 0 0, .slice ak n capk], .agg #[.int .u8 x.op.toNat, .int .i64 x.a, .int .i64 x.b, .int .i64 x.pos, .int .i64 e]] w fun en w' => en = .returned (.string ⟨(askT im.classes im.sigs bd.locals x).toArray⟩) ∧ But (fun _ => False) w w' := by
 rw [show askT im.classes im.sigs bd.locals x = [105] from by simp [askT, hv, arith]]
 have t43 : ((x.op.toNat : Int) == 43) = false := by rw [beq_eq_false_iff_ne]; omega
 have t45 : ((x.op.toNat : Int) == 45) = false := by rw [beq_eq_false_iff_ne]; omega
 have t42 : ((x.op.toNat : Int) == 42) = false := by rw [beq_eq_false_iff_ne]; omega
 have t47 : ((x.op.toNat : Int) == 47) = false := by rw [beq_eq_false_iff_ne]; omega
 have t60 : ((x.op.toNat : Int) == 60) = false := by rw [beq_eq_false_iff_ne]; omega
 have t61 : ((x.op.toNat : Int) == 61) = false := by rw [beq_eq_false_iff_ne]; omega
 have t119 : ((x.op.toNat : Int) == 119) = true := by rw [beq_iff_eq]; omega
 clear hv
 go_enter Tryz.func118, Tryz.ntmps118
 go_wp2_with fail
 go_ret
 exact ⟨rfl, (But.alloc _ _ _).trans (But.alloc _ _ _)⟩
theorem asked_115 (bi : Nat) (im : Img) (bd : Bod) (ak : Option Addr) (n capk : Nat) (x : Ins) (e : Nat) (w : World) (hI : ImgS w bi im) (hW : WfIS im) (hbd : WfBS im.classes im.sigs bd) (hx : WfN im.classes im.sigs.length bd.locals.length x) (hv : x.op.toNat = 115) :
  Calls Tryz.prog 118 #[.pointer (some ⟨bi, 0, none⟩), .agg #[.int .i64 bd.cls, .int .i64 bd.meth, .string ⟨bd.locals.toArray⟩, .slice none 0 0, .slice ak n capk], .agg #[.int .u8 x.op.toNat, .int .i64 x.a, .int .i64 x.b, .int .i64 x.pos, .int .i64 e]] w fun en w' => en = .returned (.string ⟨(askT im.classes im.sigs bd.locals x).toArray⟩) ∧ But (fun _ => False) w w' := by
 rw [show askT im.classes im.sigs bd.locals x = [bd.locals.getD x.b 0] from by simp [askT, hv, arith]]
 have t43 : ((x.op.toNat : Int) == 43) = false := by rw [beq_eq_false_iff_ne]; omega
 have t45 : ((x.op.toNat : Int) == 45) = false := by rw [beq_eq_false_iff_ne]; omega
 have t42 : ((x.op.toNat : Int) == 42) = false := by rw [beq_eq_false_iff_ne]; omega
 have t47 : ((x.op.toNat : Int) == 47) = false := by rw [beq_eq_false_iff_ne]; omega
 have t60 : ((x.op.toNat : Int) == 60) = false := by rw [beq_eq_false_iff_ne]; omega
 have t61 : ((x.op.toNat : Int) == 61) = false := by rw [beq_eq_false_iff_ne]; omega
 have t119 : ((x.op.toNat : Int) == 119) = false := by rw [beq_eq_false_iff_ne]; omega
 have t115 : ((x.op.toNat : Int) == 115) = true := by rw [beq_iff_eq]; omega
 have hb := hx.loc (by omega)
 have hbI : (x.b : Int) + 1 ≤ (bd.locals.length : Int) := by omega
 have hb5 := hbd.loc.1
 clear hv
 have hext := extract_one bd.locals x.b hb
 obtain ⟨D, hD⟩ : ∃ D, bd.locals.getD x.b 0 = D := ⟨_, rfl⟩
 rw [hD] at hext ⊢
 clear hD
 go_enter Tryz.func118, Tryz.ntmps118
 go_wp2_with fail
 exact bodyPost_ret (v := .string ⟨[D].toArray⟩) (by simp [results, Tryz.results118, go_sem, hext]) rfl ⟨rfl, (But.alloc _ _ _).trans (But.alloc _ _ _)⟩
theorem asked_103 (bi : Nat) (im : Img) (bd : Bod) (ak : Option Addr) (n capk : Nat) (x : Ins) (e : Nat) (w : World) (hI : ImgS w bi im) (hW : WfIS im) (hbd : WfBS im.classes im.sigs bd) (hx : WfN im.classes im.sigs.length bd.locals.length x) (hv : x.op.toNat = 103) :
  Calls Tryz.prog 118 #[.pointer (some ⟨bi, 0, none⟩), .agg #[.int .i64 bd.cls, .int .i64 bd.meth, .string ⟨bd.locals.toArray⟩, .slice none 0 0, .slice ak n capk], .agg #[.int .u8 x.op.toNat, .int .i64 x.a, .int .i64 x.b, .int .i64 x.pos, .int .i64 e]] w fun en w' => en = .returned (.string ⟨(askT im.classes im.sigs bd.locals x).toArray⟩) ∧ But (fun _ => False) w w' := by
 have hres : askT im.classes im.sigs bd.locals x = [clsT x.a] := by simp [askT, hv, arith]
 rw [hres]
 clear hres
 have hxa : x.a < 4 := by have := hx.cls (by omega); have := hW.nc; omega
 have hxi : (x.a : Int) < 4 := by omega
 have t43 : ((x.op.toNat : Int) == 43) = false := by rw [beq_eq_false_iff_ne]; omega
 have t45 : ((x.op.toNat : Int) == 45) = false := by rw [beq_eq_false_iff_ne]; omega
 have t42 : ((x.op.toNat : Int) == 42) = false := by rw [beq_eq_false_iff_ne]; omega
 have t47 : ((x.op.toNat : Int) == 47) = false := by rw [beq_eq_false_iff_ne]; omega
 have t60 : ((x.op.toNat : Int) == 60) = false := by rw [beq_eq_false_iff_ne]; omega
 have t61 : ((x.op.toNat : Int) == 61) = false := by rw [beq_eq_false_iff_ne]; omega
 have t119 : ((x.op.toNat : Int) == 119) = false := by rw [beq_eq_false_iff_ne]; omega
 have t115 : ((x.op.toNat : Int) == 115) = false := by rw [beq_eq_false_iff_ne]; omega
 have t103 : ((x.op.toNat : Int) == 103) = true := by rw [beq_iff_eq]; omega
 clear hv
 have hcv := conv1i (65 + (x.a : Int)) (clsT x.a) (clsT_nat hxa) ((w.alloc (.cells #[.int .i64 bd.cls, .int .i64 bd.meth, .string ⟨bd.locals.toArray⟩, .slice none 0 0, .slice ak n capk] 52)).alloc (.cells #[.int .u8 x.op.toNat, .int .i64 x.a, .int .i64 x.b, .int .i64 x.pos, .int .i64 e] 147))
 rw [show ((w.alloc (.cells #[.int .i64 bd.cls, .int .i64 bd.meth, .string ⟨bd.locals.toArray⟩, .slice none 0 0, .slice ak n capk] 52)).alloc (.cells #[.int .u8 x.op.toNat, .int .i64 x.a, .int .i64 x.b, .int .i64 x.pos, .int .i64 e] 147)).heap.size = w.heap.size + 2 from by simp] at hcv
 generalize clsT x.a = C at *
 go_enter Tryz.func118, Tryz.ntmps118
 go_wp2_with fail
 go_ret
 exact ⟨rfl, ((But.alloc _ _ _).trans (But.alloc _ _ _)).trans (But.alloc _ _ _)⟩
theorem asked_112 (bi : Nat) (im : Img) (bd : Bod) (ak : Option Addr) (n capk : Nat) (x : Ins) (e : Nat) (w : World) (hI : ImgS w bi im) (hW : WfIS im) (hbd : WfBS im.classes im.sigs bd) (hx : WfN im.classes im.sigs.length bd.locals.length x) (hv : x.op.toNat = 112) :
  Calls Tryz.prog 118 #[.pointer (some ⟨bi, 0, none⟩), .agg #[.int .i64 bd.cls, .int .i64 bd.meth, .string ⟨bd.locals.toArray⟩, .slice none 0 0, .slice ak n capk], .agg #[.int .u8 x.op.toNat, .int .i64 x.a, .int .i64 x.b, .int .i64 x.pos, .int .i64 e]] w fun en w' => en = .returned (.string ⟨(askT im.classes im.sigs bd.locals x).toArray⟩) ∧ But (fun _ => False) w w' := by
 have hres : askT im.classes im.sigs bd.locals x = [clsT x.a, fieldT im.classes x.a x.b] := by simp [askT, hv, arith]
 rw [hres]
 clear hres
 generalize hCe : clsT x.a = C
 generalize hEe : fieldT im.classes x.a x.b = E
 have HCE : Hid (clsT x.a = C) := hCe
 have HEE : Hid (fieldT im.classes x.a x.b = E) := hEe
 clear hCe hEe
 have hxa : x.a < im.classes.length := hx.cls (by omega)
 have hxb := hx.fld (by omega)
 have hnc := hW.nc
 have hxi : (x.a : Int) < 4 := by omega
 have t43 : ((x.op.toNat : Int) == 43) = false := by rw [beq_eq_false_iff_ne]; omega
 have t45 : ((x.op.toNat : Int) == 45) = false := by rw [beq_eq_false_iff_ne]; omega
 have t42 : ((x.op.toNat : Int) == 42) = false := by rw [beq_eq_false_iff_ne]; omega
 have t47 : ((x.op.toNat : Int) == 47) = false := by rw [beq_eq_false_iff_ne]; omega
 have t60 : ((x.op.toNat : Int) == 60) = false := by rw [beq_eq_false_iff_ne]; omega
 have t61 : ((x.op.toNat : Int) == 61) = false := by rw [beq_eq_false_iff_ne]; omega
 have t119 : ((x.op.toNat : Int) == 119) = false := by rw [beq_eq_false_iff_ne]; omega
 have t115 : ((x.op.toNat : Int) == 115) = false := by rw [beq_eq_false_iff_ne]; omega
 have t103 : ((x.op.toNat : Int) == 103) = false := by rw [beq_eq_false_iff_ne]; omega
 have t112 : ((x.op.toNat : Int) == 112) = true := by rw [beq_iff_eq]; omega
 clear hv
 go_enter Tryz.func118, Tryz.ntmps118
 go_wp2_with fail
 have hB0 : But (fun _ => False) w ((w.alloc (.cells #[.int .i64 bd.cls, .int .i64 bd.meth, .string ⟨bd.locals.toArray⟩, .slice none 0 0, .slice ak n capk] 52)).alloc (.cells #[.int .u8 x.op.toNat, .int .i64 x.a, .int .i64 x.b, .int .i64 x.pos, .int .i64 e] 147)) := (But.alloc _ _ _).trans (But.alloc _ _ _)
 have hgI : ((w.alloc (.cells #[.int .i64 bd.cls, .int .i64 bd.meth, .string ⟨bd.locals.toArray⟩, .slice none 0 0, .slice ak n capk] 52)).alloc (.cells #[.int .u8 x.op.toNat, .int .i64 x.a, .int .i64 x.b, .int .i64 x.pos, .int .i64 e] 147)).heap[w.heap.size + 1]? = some (.cells #[.int .u8 x.op.toNat, .int .i64 x.a, .int .i64 x.b, .int .i64 x.pos, .int .i64 e] 147) := heap_alloc_at (by simp) _
 have hgB : ((w.alloc (.cells #[.int .i64 bd.cls, .int .i64 bd.meth, .string ⟨bd.locals.toArray⟩, .slice none 0 0, .slice ak n capk] 52)).alloc (.cells #[.int .u8 x.op.toNat, .int .i64 x.a, .int .i64 x.b, .int .i64 x.pos, .int .i64 e] 147)).heap[w.heap.size]? = some (.cells #[.int .i64 bd.cls, .int .i64 bd.meth, .string ⟨bd.locals.toArray⟩, .slice none 0 0, .slice ak n capk] 52) := ((But.alloc (fun _ => False) (w.alloc (.cells #[.int .i64 bd.cls, .int .i64 bd.meth, .string ⟨bd.locals.toArray⟩, .slice none 0 0, .slice ak n capk] 52)) _).block w.heap.size (by simp) (fun h => h)).trans (heap_alloc_new w _)
 generalize ((w.alloc (.cells #[.int .i64 bd.cls, .int .i64 bd.meth, .string ⟨bd.locals.toArray⟩, .slice none 0 0, .slice ak n capk] 52)).alloc (.cells #[.int .u8 x.op.toNat, .int .i64 x.a, .int .i64 x.b, .int .i64 x.pos, .int .i64 e] 147)) = W at *
 have i1 : W.cell? ⟨w.heap.size + 1, 1, none⟩ = some (.int .i64 x.a) := by rw [cell_of_row W _ 1 _ _ (0, 0) hgI]; rfl
 have i2 : W.cell? ⟨w.heap.size + 1, 2, none⟩ = some (.int .i64 x.b) := by rw [cell_of_row W _ 2 _ _ (0, 0) hgI]; rfl
 have b0 : W.cell? ⟨w.heap.size, 0, none⟩ = some (.int .i64 bd.cls) := by rw [cell_of_row W _ 0 _ _ (0, 0) hgB]; rfl
 have b1 : W.cell? ⟨w.heap.size, 1, none⟩ = some (.int .i64 bd.meth) := by rw [cell_of_row W _ 1 _ _ (0, 0) hgB]; rfl
 have lI := lt_of_block hgI
 have lB := lt_of_block hgB
 have hIW := hI.but hB0
 obtain ⟨g, m, cap, fl, d0, hm, hc, hjl, hfe, lbi, lg⟩ := hIW.cls.flds hxa hxb
 have hjl2 : (x.b : Int) < (fl.length : Int) := by omega
 have hcx := clsT_nat (a := x.a) (by omega)
 have hwr := wrapI (65 + (x.a : Int)) (by omega) (by omega)
 have hwr8 := IntWalk.u8_in (65 + (x.a : Int)) (by omega)
 have HFE : Hid (fl.getD x.b 0 = fieldT im.classes x.a x.b) := hfe
 have HCX : Hid ((65 + (x.a : Int)) = (C.toNat : Int)) := by show _ = _; rw [← HCE.out]; exact hcx
 clear hfe hcx
 have hS0 : But (fun _ => False) W W.drew := But.drew _ _
 refine wpTx_begin (But (fun _ => False) W) 18 (by kernel_rfl) ?_
 have fSA := hid (fun wS (h : (But (fun _ => False) W) wS) => (And.intro ((h.cell (p := ⟨w.heap.size + 1, 1, none⟩) lI (fun h => h)).trans i1) (And.intro ((h.cell (p := ⟨w.heap.size + 1, 2, none⟩) lI (fun h => h)).trans i2) (And.intro ((h.cell (p := ⟨bi, 0, none⟩) lbi (fun h => h)).trans d0) ((h.cell (p := ⟨g, x.a * 2 + 1, none⟩) lg (fun h => h)).trans hc)))))
 iterate 16 (refine wpTx_take (v := ?_) rfl (by kernel_rfl) (fun _ _ _ h => h) rfl hS0 ?_ ?_; rotate_left; (focus (intro wS h; obtain ⟨q0, q1, q2, q3⟩ := fSA.out wS h; clear h; go_simp; try rfl)); dsimp only [Act.put]; try simp only [puts])
 try clear fSA
 clear hwr hwr8
 refine wpTx_step rfl (by kernel_rfl) ?_
 intro KS hKS
 go_simp
 have hfl : ∀ h, (⟨fl.toArray⟩ : ByteArray)[x.b]'h = E := fun h => by rw [← HEE.out, ← HFE.out, getD_lt fl _ hjl]; exact lget fl _ hjl _
 simp only [hfl]
 refine hKS.out _ _ (fun _ => (But.alloc _ _ _).trans (But.drew _ _)) ?_
 clear hKS KS hfl
 have hcv := conv2d (65 + (x.a : Int)) (E.toNat : Int) C E HCX.out rfl
 refine wpTx_step rfl (by kernel_rfl) ?_
 intro KS hKS
 go_simp
 refine hKS.out _ _ (fun _ => (But.alloc _ _ _).trans (But.drew _ _)) ?_
 clear hKS KS
 refine wpTx_step rfl (by kernel_rfl) ?_
 intro KS hKS
 go_simp
 refine hKS.out _ _ (fun h => absurd h (by decide)) ?_
 clear hKS KS
 refine wpTx_done rfl (by kernel_rfl) ?_
 go_wp2_with fail
 go_ret
 exact ⟨rfl, hB0.trans ((But.alloc _ _ _).trans (But.drew _ _))⟩
theorem asked_99 (bi : Nat) (im : Img) (bd : Bod) (ak : Option Addr) (n capk : Nat) (x : Ins) (e : Nat) (w : World) (hI : ImgS w bi im) (hW : WfIS im) (hbd : WfBS im.classes im.sigs bd) (hx : WfN im.classes im.sigs.length bd.locals.length x) (hv : x.op.toNat = 99) :
  Calls Tryz.prog 118 #[.pointer (some ⟨bi, 0, none⟩), .agg #[.int .i64 bd.cls, .int .i64 bd.meth, .string ⟨bd.locals.toArray⟩, .slice none 0 0, .slice ak n capk], .agg #[.int .u8 x.op.toNat, .int .i64 x.a, .int .i64 x.b, .int .i64 x.pos, .int .i64 e]] w fun en w' => en = .returned (.string ⟨(askT im.classes im.sigs bd.locals x).toArray⟩) ∧ But (fun _ => False) w w' := by
 have hres : askT im.classes im.sigs bd.locals x = [clsT x.a, argT im.sigs x.b] := by simp [askT, hv, arith]
 rw [hres]
 clear hres
 generalize hCe : clsT x.a = C
 generalize hEe : argT im.sigs x.b = E
 have HCE : Hid (clsT x.a = C) := hCe
 have HEE : Hid (argT im.sigs x.b = E) := hEe
 clear hCe hEe
 have hxa : x.a < im.classes.length := hx.cls (by omega)
 have hxb := hx.sig (by omega)
 have hnc := hW.nc
 have hxi : (x.a : Int) < 4 := by omega
 have t43 : ((x.op.toNat : Int) == 43) = false := by rw [beq_eq_false_iff_ne]; omega
 have t45 : ((x.op.toNat : Int) == 45) = false := by rw [beq_eq_false_iff_ne]; omega
 have t42 : ((x.op.toNat : Int) == 42) = false := by rw [beq_eq_false_iff_ne]; omega
 have t47 : ((x.op.toNat : Int) == 47) = false := by rw [beq_eq_false_iff_ne]; omega
 have t60 : ((x.op.toNat : Int) == 60) = false := by rw [beq_eq_false_iff_ne]; omega
 have t61 : ((x.op.toNat : Int) == 61) = false := by rw [beq_eq_false_iff_ne]; omega
 have t119 : ((x.op.toNat : Int) == 119) = false := by rw [beq_eq_false_iff_ne]; omega
 have t115 : ((x.op.toNat : Int) == 115) = false := by rw [beq_eq_false_iff_ne]; omega
 have t103 : ((x.op.toNat : Int) == 103) = false := by rw [beq_eq_false_iff_ne]; omega
 have t112 : ((x.op.toNat : Int) == 112) = false := by rw [beq_eq_false_iff_ne]; omega
 have t99 : ((x.op.toNat : Int) == 99) = true := by rw [beq_iff_eq]; omega
 clear hv
 go_enter Tryz.func118, Tryz.ntmps118
 go_wp2_with fail
 have hB0 : But (fun _ => False) w ((w.alloc (.cells #[.int .i64 bd.cls, .int .i64 bd.meth, .string ⟨bd.locals.toArray⟩, .slice none 0 0, .slice ak n capk] 52)).alloc (.cells #[.int .u8 x.op.toNat, .int .i64 x.a, .int .i64 x.b, .int .i64 x.pos, .int .i64 e] 147)) := (But.alloc _ _ _).trans (But.alloc _ _ _)
 have hgI : ((w.alloc (.cells #[.int .i64 bd.cls, .int .i64 bd.meth, .string ⟨bd.locals.toArray⟩, .slice none 0 0, .slice ak n capk] 52)).alloc (.cells #[.int .u8 x.op.toNat, .int .i64 x.a, .int .i64 x.b, .int .i64 x.pos, .int .i64 e] 147)).heap[w.heap.size + 1]? = some (.cells #[.int .u8 x.op.toNat, .int .i64 x.a, .int .i64 x.b, .int .i64 x.pos, .int .i64 e] 147) := heap_alloc_at (by simp) _
 have hgB : ((w.alloc (.cells #[.int .i64 bd.cls, .int .i64 bd.meth, .string ⟨bd.locals.toArray⟩, .slice none 0 0, .slice ak n capk] 52)).alloc (.cells #[.int .u8 x.op.toNat, .int .i64 x.a, .int .i64 x.b, .int .i64 x.pos, .int .i64 e] 147)).heap[w.heap.size]? = some (.cells #[.int .i64 bd.cls, .int .i64 bd.meth, .string ⟨bd.locals.toArray⟩, .slice none 0 0, .slice ak n capk] 52) := ((But.alloc (fun _ => False) (w.alloc (.cells #[.int .i64 bd.cls, .int .i64 bd.meth, .string ⟨bd.locals.toArray⟩, .slice none 0 0, .slice ak n capk] 52)) _).block w.heap.size (by simp) (fun h => h)).trans (heap_alloc_new w _)
 generalize ((w.alloc (.cells #[.int .i64 bd.cls, .int .i64 bd.meth, .string ⟨bd.locals.toArray⟩, .slice none 0 0, .slice ak n capk] 52)).alloc (.cells #[.int .u8 x.op.toNat, .int .i64 x.a, .int .i64 x.b, .int .i64 x.pos, .int .i64 e] 147)) = W at *
 have i1 : W.cell? ⟨w.heap.size + 1, 1, none⟩ = some (.int .i64 x.a) := by rw [cell_of_row W _ 1 _ _ (0, 0) hgI]; rfl
 have i2 : W.cell? ⟨w.heap.size + 1, 2, none⟩ = some (.int .i64 x.b) := by rw [cell_of_row W _ 2 _ _ (0, 0) hgI]; rfl
 have b0 : W.cell? ⟨w.heap.size, 0, none⟩ = some (.int .i64 bd.cls) := by rw [cell_of_row W _ 0 _ _ (0, 0) hgB]; rfl
 have b1 : W.cell? ⟨w.heap.size, 1, none⟩ = some (.int .i64 bd.meth) := by rw [cell_of_row W _ 1 _ _ (0, 0) hgB]; rfl
 have lI := lt_of_block hgI
 have lB := lt_of_block hgB
 have hIW := hI.but hB0
 obtain ⟨g, m, cap, d1, hm, hc, hc2, lbi, lg⟩ := hIW.sig.at hxb
 have HCX : Hid ((65 + (x.a : Int)) = (C.toNat : Int)) := by show _ = _; rw [← HCE.out]; exact clsT_nat (by omega)
 rw [HEE.out] at hc
 have hwr := wrapI (65 + (x.a : Int)) (by omega) (by omega)
 have hwr8 := IntWalk.u8_in (65 + (x.a : Int)) (by omega)
 have hS0 : But (fun _ => False) W W.drew := But.drew _ _
 refine wpTx_begin (But (fun _ => False) W) 15 (by kernel_rfl) ?_
 have fSA := hid (fun wS (h : (But (fun _ => False) W) wS) => (And.intro ((h.cell (p := ⟨w.heap.size + 1, 1, none⟩) lI (fun h => h)).trans i1) (And.intro ((h.cell (p := ⟨w.heap.size + 1, 2, none⟩) lI (fun h => h)).trans i2) (And.intro ((h.cell (p := ⟨bi, 1, none⟩) lbi (fun h => h)).trans d1) ((h.cell (p := ⟨g, x.b * 2, none⟩) lg (fun h => h)).trans hc)))))
 iterate 13 (refine wpTx_take (v := ?_) rfl (by kernel_rfl) (fun _ _ _ h => h) rfl hS0 ?_ ?_; rotate_left; (focus (intro wS h; obtain ⟨q0, q1, q2, q3⟩ := fSA.out wS h; clear h; go_simp; try rfl)); dsimp only [Act.put]; try simp only [puts])
 try clear fSA
 clear hwr hwr8
 refine wpTx_step rfl (by kernel_rfl) ?_
 intro KS hKS
 go_simp
 refine hKS.out _ _ (fun _ => (But.alloc _ _ _).trans (But.drew _ _)) ?_
 clear hKS KS
 have hcv := conv2d (65 + (x.a : Int)) (E.toNat : Int) C E HCX.out rfl
 refine wpTx_step rfl (by kernel_rfl) ?_
 intro KS hKS
 go_simp
 refine hKS.out _ _ (fun _ => (But.alloc _ _ _).trans (But.drew _ _)) ?_
 clear hKS KS
 refine wpTx_step rfl (by kernel_rfl) ?_
 intro KS hKS
 go_simp
 refine hKS.out _ _ (fun h => absurd h (by decide)) ?_
 clear hKS KS
 refine wpTx_done rfl (by kernel_rfl) ?_
 go_wp2_with fail
 go_ret
 exact ⟨rfl, hB0.trans ((But.alloc _ _ _).trans (But.drew _ _))⟩
theorem asked_no (bi : Nat) (im : Img) (bd : Bod) (ak : Option Addr) (n capk : Nat) (x : Ins) (e : Nat) (w : World) (hI : ImgS w bi im) (hW : WfIS im) (hbd : WfBS im.classes im.sigs bd) (hx : WfN im.classes im.sigs.length bd.locals.length x) (hv : x.op.toNat ≠ 43 ∧ x.op.toNat ≠ 45 ∧ x.op.toNat ≠ 42 ∧ x.op.toNat ≠ 47 ∧ x.op.toNat ≠ 60 ∧ x.op.toNat ≠ 61 ∧ x.op.toNat ≠ 119 ∧ x.op.toNat ≠ 115 ∧ x.op.toNat ≠ 103 ∧ x.op.toNat ≠ 112 ∧ x.op.toNat ≠ 99) :
  Calls Tryz.prog 118 #[.pointer (some ⟨bi, 0, none⟩), .agg #[.int .i64 bd.cls, .int .i64 bd.meth, .string ⟨bd.locals.toArray⟩, .slice none 0 0, .slice ak n capk], .agg #[.int .u8 x.op.toNat, .int .i64 x.a, .int .i64 x.b, .int .i64 x.pos, .int .i64 e]] w fun en w' => en = .returned (.string ⟨(askT im.classes im.sigs bd.locals x).toArray⟩) ∧ But (fun _ => False) w w' := by
 rw [show askT im.classes im.sigs bd.locals x = [] from by simp [askT, hv, arith]]
 have t43 : ((x.op.toNat : Int) == 43) = false := by rw [beq_eq_false_iff_ne]; omega
 have t45 : ((x.op.toNat : Int) == 45) = false := by rw [beq_eq_false_iff_ne]; omega
 have t42 : ((x.op.toNat : Int) == 42) = false := by rw [beq_eq_false_iff_ne]; omega
 have t47 : ((x.op.toNat : Int) == 47) = false := by rw [beq_eq_false_iff_ne]; omega
 have t60 : ((x.op.toNat : Int) == 60) = false := by rw [beq_eq_false_iff_ne]; omega
 have t61 : ((x.op.toNat : Int) == 61) = false := by rw [beq_eq_false_iff_ne]; omega
 have t119 : ((x.op.toNat : Int) == 119) = false := by rw [beq_eq_false_iff_ne]; omega
 have t115 : ((x.op.toNat : Int) == 115) = false := by rw [beq_eq_false_iff_ne]; omega
 have t103 : ((x.op.toNat : Int) == 103) = false := by rw [beq_eq_false_iff_ne]; omega
 have t112 : ((x.op.toNat : Int) == 112) = false := by rw [beq_eq_false_iff_ne]; omega
 have t99 : ((x.op.toNat : Int) == 99) = false := by rw [beq_eq_false_iff_ne]; omega
 clear hv
 go_enter Tryz.func118, Tryz.ntmps118
 go_wp2_with fail
 go_ret
 exact ⟨rfl, (But.alloc _ _ _).trans (But.alloc _ _ _)⟩
theorem asked_any (bi : Nat) (im : Img) (bd : Bod) (ak : Option Addr) (n capk : Nat) (x : Ins) (e : Nat) (w : World) (hI : ImgS w bi im) (hW : WfIS im) (hbd : WfBS im.classes im.sigs bd) (hx : WfN im.classes im.sigs.length bd.locals.length x) :
  Calls Tryz.prog 118 #[.pointer (some ⟨bi, 0, none⟩), .agg #[.int .i64 bd.cls, .int .i64 bd.meth, .string ⟨bd.locals.toArray⟩, .slice none 0 0, .slice ak n capk], .agg #[.int .u8 x.op.toNat, .int .i64 x.a, .int .i64 x.b, .int .i64 x.pos, .int .i64 e]] w fun en w' => en = .returned (.string ⟨(askT im.classes im.sigs bd.locals x).toArray⟩) ∧ But (fun _ => False) w w' := by
 by_cases h43 : x.op.toNat = 43
 ·exact asked_43 bi im bd ak n capk x e w hI hW hbd hx h43
 by_cases h45 : x.op.toNat = 45
 ·exact asked_45 bi im bd ak n capk x e w hI hW hbd hx h45
 by_cases h42 : x.op.toNat = 42
 ·exact asked_42 bi im bd ak n capk x e w hI hW hbd hx h42
 by_cases h47 : x.op.toNat = 47
 ·exact asked_47 bi im bd ak n capk x e w hI hW hbd hx h47
 by_cases h60 : x.op.toNat = 60
 ·exact asked_60 bi im bd ak n capk x e w hI hW hbd hx h60
 by_cases h61 : x.op.toNat = 61
 ·exact asked_61 bi im bd ak n capk x e w hI hW hbd hx h61
 by_cases h119 : x.op.toNat = 119
 ·exact asked_119 bi im bd ak n capk x e w hI hW hbd hx h119
 by_cases h115 : x.op.toNat = 115
 ·exact asked_115 bi im bd ak n capk x e w hI hW hbd hx h115
 by_cases h103 : x.op.toNat = 103
 ·exact asked_103 bi im bd ak n capk x e w hI hW hbd hx h103
 by_cases h112 : x.op.toNat = 112
 ·exact asked_112 bi im bd ak n capk x e w hI hW hbd hx h112
 by_cases h99 : x.op.toNat = 99
 ·exact asked_99 bi im bd ak n capk x e w hI hW hbd hx h99
 exact asked_no bi im bd ak n capk x e w hI hW hbd hx (by omega)
theorem gives_122 (bi : Nat) (im : Img) (bd : Bod) (ak : Option Addr) (n capk : Nat) (x : Ins) (e : Nat) (w : World) (hI : ImgS w bi im) (hW : WfIS im) (hbd : WfBS im.classes im.sigs bd) (hx : WfN im.classes im.sigs.length bd.locals.length x) (hv : x.op.toNat = 122) :
  Calls Tryz.prog 121 #[.pointer (some ⟨bi, 0, none⟩), .agg #[.int .i64 bd.cls, .int .i64 bd.meth, .string ⟨bd.locals.toArray⟩, .slice none 0 0, .slice ak n capk], .agg #[.int .u8 x.op.toNat, .int .i64 x.a, .int .i64 x.b, .int .i64 x.pos, .int .i64 e]] w fun en w' => en = .returned (.int .u8 (giveT im.classes im.sigs bd.locals x).toNat) ∧ But (fun _ => False) w w' := by
 rw [show giveT im.classes im.sigs bd.locals x = 122 from by simp [giveT, hv]]
 have t122 : ((x.op.toNat : Int) == 122) = true := by rw [beq_iff_eq]; omega
 clear hv
 go_enter Tryz.func121, Tryz.ntmps121
 go_wp2_with fail
 go_ret
 exact ⟨rfl, (But.alloc _ _ _).trans (But.alloc _ _ _)⟩
theorem gives_110 (bi : Nat) (im : Img) (bd : Bod) (ak : Option Addr) (n capk : Nat) (x : Ins) (e : Nat) (w : World) (hI : ImgS w bi im) (hW : WfIS im) (hbd : WfBS im.classes im.sigs bd) (hx : WfN im.classes im.sigs.length bd.locals.length x) (hv : x.op.toNat = 110) :
  Calls Tryz.prog 121 #[.pointer (some ⟨bi, 0, none⟩), .agg #[.int .i64 bd.cls, .int .i64 bd.meth, .string ⟨bd.locals.toArray⟩, .slice none 0 0, .slice ak n capk], .agg #[.int .u8 x.op.toNat, .int .i64 x.a, .int .i64 x.b, .int .i64 x.pos, .int .i64 e]] w fun en w' => en = .returned (.int .u8 (giveT im.classes im.sigs bd.locals x).toNat) ∧ But (fun _ => False) w w' := by
 rw [show giveT im.classes im.sigs bd.locals x = clsT x.a from by simp [giveT, hv]]
 have t122 : ((x.op.toNat : Int) == 122) = false := by rw [beq_eq_false_iff_ne]; omega
 have t108 : ((x.op.toNat : Int) == 108) = false := by rw [beq_eq_false_iff_ne]; omega
 have t110 : ((x.op.toNat : Int) == 110) = true := by rw [beq_iff_eq]; omega
 have hxa : x.a < 4 := by have := hx.cls (by omega); have := hW.nc; omega
 have hcx := clsT_nat hxa
 have hxi : (x.a : Int) < 4 := by omega
 have hwr := wrapI (65 + (x.a : Int)) (by omega) (by omega)
 have hwr8 := IntWalk.u8_in (65 + (x.a : Int)) (by omega)
 clear hv
 go_enter Tryz.func121, Tryz.ntmps121
 go_wp2_with fail
 go_ret
 exact ⟨rfl, (But.alloc _ _ _).trans (But.alloc _ _ _)⟩
theorem gives_108 (bi : Nat) (im : Img) (bd : Bod) (ak : Option Addr) (n capk : Nat) (x : Ins) (e : Nat) (w : World) (hI : ImgS w bi im) (hW : WfIS im) (hbd : WfBS im.classes im.sigs bd) (hx : WfN im.classes im.sigs.length bd.locals.length x) (hv : x.op.toNat = 108) :
  Calls Tryz.prog 121 #[.pointer (some ⟨bi, 0, none⟩), .agg #[.int .i64 bd.cls, .int .i64 bd.meth, .string ⟨bd.locals.toArray⟩, .slice none 0 0, .slice ak n capk], .agg #[.int .u8 x.op.toNat, .int .i64 x.a, .int .i64 x.b, .int .i64 x.pos, .int .i64 e]] w fun en w' => en = .returned (.int .u8 (giveT im.classes im.sigs bd.locals x).toNat) ∧ But (fun _ => False) w w' := by
 rw [show giveT im.classes im.sigs bd.locals x = bd.locals.getD x.b 0 from by simp [giveT, hv]]
 have t122 : ((x.op.toNat : Int) == 122) = false := by rw [beq_eq_false_iff_ne]; omega
 have t108 : ((x.op.toNat : Int) == 108) = true := by rw [beq_iff_eq]; omega
 have hb := hx.loc (by omega)
 have hbI : (x.b : Int) < (bd.locals.length : Int) := by omega
 have hb5 := hbd.loc.1
 have hnc := hW.nc
 clear hv
 have hIW := hI.but (show But (fun _ => False) w ((w.alloc (.cells #[.int .i64 bd.cls, .int .i64 bd.meth, .string ⟨bd.locals.toArray⟩, .slice none 0 0, .slice ak n capk] 52)).alloc (.cells #[.int .u8 x.op.toNat, .int .i64 x.a, .int .i64 x.b, .int .i64 x.pos, .int .i64 e] 147)) from (But.alloc _ _ _).trans (But.alloc _ _ _))
 have hfl : ∀ h, (⟨bd.locals.toArray⟩ : ByteArray)[x.b]'h = bd.locals.getD x.b 0 := fun h => by rw [getD_lt bd.locals _ hb]; exact lget bd.locals _ hb _
 obtain ⟨D, hD⟩ : ∃ D, bd.locals.getD x.b 0 = D := ⟨_, rfl⟩
 rw [hD] at hfl ⊢
 clear hD
 go_enter Tryz.func121, Tryz.ntmps121
 go_wp2_with fail
 go_ret
 exact ⟨rfl, (But.alloc _ _ _).trans (But.alloc _ _ _)⟩
theorem gives_103 (bi : Nat) (im : Img) (bd : Bod) (ak : Option Addr) (n capk : Nat) (x : Ins) (e : Nat) (w : World) (hI : ImgS w bi im) (hW : WfIS im) (hbd : WfBS im.classes im.sigs bd) (hx : WfN im.classes im.sigs.length bd.locals.length x) (hv : x.op.toNat = 103) :
  Calls Tryz.prog 121 #[.pointer (some ⟨bi, 0, none⟩), .agg #[.int .i64 bd.cls, .int .i64 bd.meth, .string ⟨bd.locals.toArray⟩, .slice none 0 0, .slice ak n capk], .agg #[.int .u8 x.op.toNat, .int .i64 x.a, .int .i64 x.b, .int .i64 x.pos, .int .i64 e]] w fun en w' => en = .returned (.int .u8 (giveT im.classes im.sigs bd.locals x).toNat) ∧ But (fun _ => False) w w' := by
 rw [show giveT im.classes im.sigs bd.locals x = fieldT im.classes x.a x.b from by simp [giveT, hv]]
 have t122 : ((x.op.toNat : Int) == 122) = false := by rw [beq_eq_false_iff_ne]; omega
 have t108 : ((x.op.toNat : Int) == 108) = false := by rw [beq_eq_false_iff_ne]; omega
 have t110 : ((x.op.toNat : Int) == 110) = false := by rw [beq_eq_false_iff_ne]; omega
 have t103 : ((x.op.toNat : Int) == 103) = true := by rw [beq_iff_eq]; omega
 have hnc := hW.nc
 have hxa : x.a < im.classes.length := hx.cls (by omega)
 have hxb := hx.fld (by omega)
 clear hv
 have hIW := hI.but (show But (fun _ => False) w ((w.alloc (.cells #[.int .i64 bd.cls, .int .i64 bd.meth, .string ⟨bd.locals.toArray⟩, .slice none 0 0, .slice ak n capk] 52)).alloc (.cells #[.int .u8 x.op.toNat, .int .i64 x.a, .int .i64 x.b, .int .i64 x.pos, .int .i64 e] 147)) from (But.alloc _ _ _).trans (But.alloc _ _ _))
 obtain ⟨g, m, cap, fl, d0, hm, hc, hjl, hfe, lbi, lg⟩ := hIW.cls.flds hxa hxb
 have hjl2 : (x.b : Int) < (fl.length : Int) := by omega
 have hfl : ∀ h, (⟨fl.toArray⟩ : ByteArray)[x.b]'h = fieldT im.classes x.a x.b := fun h => by rw [← hfe, getD_lt fl _ hjl]; exact lget fl _ hjl _
 go_enter Tryz.func121, Tryz.ntmps121
 go_wp2_with fail
 go_quiet (fail)
 go_wp2
 go_ret
 exact ⟨rfl, ((But.alloc _ _ _).trans (But.alloc _ _ _)).trans (But.drewN _ _ _)⟩
theorem gives_99 (bi : Nat) (im : Img) (bd : Bod) (ak : Option Addr) (n capk : Nat) (x : Ins) (e : Nat) (w : World) (hI : ImgS w bi im) (hW : WfIS im) (hbd : WfBS im.classes im.sigs bd) (hx : WfN im.classes im.sigs.length bd.locals.length x) (hv : x.op.toNat = 99) :
  Calls Tryz.prog 121 #[.pointer (some ⟨bi, 0, none⟩), .agg #[.int .i64 bd.cls, .int .i64 bd.meth, .string ⟨bd.locals.toArray⟩, .slice none 0 0, .slice ak n capk], .agg #[.int .u8 x.op.toNat, .int .i64 x.a, .int .i64 x.b, .int .i64 x.pos, .int .i64 e]] w fun en w' => en = .returned (.int .u8 (giveT im.classes im.sigs bd.locals x).toNat) ∧ But (fun _ => False) w w' := by
 rw [show giveT im.classes im.sigs bd.locals x = retT im.sigs x.b from by simp [giveT, hv]]
 have t122 : ((x.op.toNat : Int) == 122) = false := by rw [beq_eq_false_iff_ne]; omega
 have t108 : ((x.op.toNat : Int) == 108) = false := by rw [beq_eq_false_iff_ne]; omega
 have t110 : ((x.op.toNat : Int) == 110) = false := by rw [beq_eq_false_iff_ne]; omega
 have t103 : ((x.op.toNat : Int) == 103) = false := by rw [beq_eq_false_iff_ne]; omega
 have t99 : ((x.op.toNat : Int) == 99) = true := by rw [beq_iff_eq]; omega
 have hnc := hW.nc
 have hxb := hx.sig hv
 clear hv
 have hIW := hI.but (show But (fun _ => False) w ((w.alloc (.cells #[.int .i64 bd.cls, .int .i64 bd.meth, .string ⟨bd.locals.toArray⟩, .slice none 0 0, .slice ak n capk] 52)).alloc (.cells #[.int .u8 x.op.toNat, .int .i64 x.a, .int .i64 x.b, .int .i64 x.pos, .int .i64 e] 147)) from (But.alloc _ _ _).trans (But.alloc _ _ _))
 obtain ⟨g, m, cap, d1, hm, hc, hc2, lbi, lg⟩ := hIW.sig.at hxb
 go_enter Tryz.func121, Tryz.ntmps121
 go_wp2_with fail
 go_quiet (fail)
 go_wp2
 go_ret
 exact ⟨rfl, ((But.alloc _ _ _).trans (But.alloc _ _ _)).trans (But.drewN _ _ _)⟩
theorem gives_no (bi : Nat) (im : Img) (bd : Bod) (ak : Option Addr) (n capk : Nat) (x : Ins) (e : Nat) (w : World) (hI : ImgS w bi im) (hW : WfIS im) (hbd : WfBS im.classes im.sigs bd) (hx : WfN im.classes im.sigs.length bd.locals.length x) (hv : x.op.toNat ≠ 122 ∧ x.op.toNat ≠ 108 ∧ x.op.toNat ≠ 110 ∧ x.op.toNat ≠ 103 ∧ x.op.toNat ≠ 99) :
  Calls Tryz.prog 121 #[.pointer (some ⟨bi, 0, none⟩), .agg #[.int .i64 bd.cls, .int .i64 bd.meth, .string ⟨bd.locals.toArray⟩, .slice none 0 0, .slice ak n capk], .agg #[.int .u8 x.op.toNat, .int .i64 x.a, .int .i64 x.b, .int .i64 x.pos, .int .i64 e]] w fun en w' => en = .returned (.int .u8 (giveT im.classes im.sigs bd.locals x).toNat) ∧ But (fun _ => False) w w' := by
 rw [show giveT im.classes im.sigs bd.locals x = 105 from by simp [giveT, hv]]
 have t122 : ((x.op.toNat : Int) == 122) = false := by rw [beq_eq_false_iff_ne]; omega
 have t108 : ((x.op.toNat : Int) == 108) = false := by rw [beq_eq_false_iff_ne]; omega
 have t110 : ((x.op.toNat : Int) == 110) = false := by rw [beq_eq_false_iff_ne]; omega
 have t103 : ((x.op.toNat : Int) == 103) = false := by rw [beq_eq_false_iff_ne]; omega
 have t99 : ((x.op.toNat : Int) == 99) = false := by rw [beq_eq_false_iff_ne]; omega
 clear hv
 go_enter Tryz.func121, Tryz.ntmps121
 go_wp2_with fail
 go_ret
 exact ⟨rfl, (But.alloc _ _ _).trans (But.alloc _ _ _)⟩
theorem gives_any (bi : Nat) (im : Img) (bd : Bod) (ak : Option Addr) (n capk : Nat) (x : Ins) (e : Nat) (w : World) (hI : ImgS w bi im) (hW : WfIS im) (hbd : WfBS im.classes im.sigs bd) (hx : WfN im.classes im.sigs.length bd.locals.length x) :
  Calls Tryz.prog 121 #[.pointer (some ⟨bi, 0, none⟩), .agg #[.int .i64 bd.cls, .int .i64 bd.meth, .string ⟨bd.locals.toArray⟩, .slice none 0 0, .slice ak n capk], .agg #[.int .u8 x.op.toNat, .int .i64 x.a, .int .i64 x.b, .int .i64 x.pos, .int .i64 e]] w fun en w' => en = .returned (.int .u8 (giveT im.classes im.sigs bd.locals x).toNat) ∧ But (fun _ => False) w w' := by
 by_cases h122 : x.op.toNat = 122
 ·exact gives_122 bi im bd ak n capk x e w hI hW hbd hx h122
 by_cases h108 : x.op.toNat = 108
 ·exact gives_108 bi im bd ak n capk x e w hI hW hbd hx h108
 by_cases h110 : x.op.toNat = 110
 ·exact gives_110 bi im bd ak n capk x e w hI hW hbd hx h110
 by_cases h103 : x.op.toNat = 103
 ·exact gives_103 bi im bd ak n capk x e w hI hW hbd hx h103
 by_cases h99 : x.op.toNat = 99
 ·exact gives_99 bi im bd ak n capk x e w hI hW hbd hx h99
 exact gives_no bi im bd ak n capk x e w hI hW hbd hx (by omega)
end Go.Proofs.YtpfkkmacakjmbaaGreatDoor
