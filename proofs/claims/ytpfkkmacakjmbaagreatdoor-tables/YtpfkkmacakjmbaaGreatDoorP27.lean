import Derived.Test.YtpfkkmacakjmbaaGreatDoorP26
/- What an instruction takes: the letters whose literal calls. -/
namespace Go.Proofs.YtpfkkmacakjmbaaGreatDoor
open Go Go.RowKit Sp
set_option linter.unusedSimpArgs false
set_option linter.unusedVariables false
attribute [local go_sem ↓] Go.wp_at_zero Go.wp_at_succ
set_option maxHeartbeats 1600000 in
set_option maxRecDepth 100000 in
theorem xtakes_112 (b : Nat) (cs : List XCls) (ms : List Sig) (p n : Nat) (k ans : UInt8) (w : World) {ap : Option Addr} {np cp : Nat} (hn : cs.length ≤ 100) (hT : TxC w b cs) :
  Calls Tryz.prog 140 #[.pointer (some ⟨b, 0, none⟩), .agg #[.int .i64 p, .int .u8 112, .int .u8 k.toNat, .int .i64 n, .slice ap np cp], .int .u8 ans.toNat] w fun e w' => But (fun _ => False) w w' ∧ ∃ v, e = .returned v ∧ BtB w' w.heap.size v [k, tatX (fldsX cs k) n] := by
 go_enter Tryz.func140, Tryz.ntmps140
 go_wp2_with fail
 have hBW : But (fun _ => False) w (w.alloc (.cells #[.int .i64 p, .int .u8 112, .int .u8 k.toNat, .int .i64 n, .slice ap np cp] 219)) := But.alloc _ _ _
 have hgW := heap_alloc_new w (.cells #[.int .i64 p, .int .u8 112, .int .u8 k.toNat, .int .i64 n, .slice ap np cp] 219)
 revert hBW hgW
 generalize (w.alloc (.cells #[.int .i64 p, .int .u8 112, .int .u8 k.toNat, .int .i64 n, .slice ap np cp] 219)) = W
 intro hBW hgW
 obtain ⟨k0, k1, k2, k3, k4⟩ := row5 hgW
 have gltW := lt_of_block hgW
 have HGW := hid hgW
 clear hgW
 have hS0 : But (fun _ => False) W W.drew := But.drew _ _
 have HCALL := hid (xft_any b cs k n W.drew hn ((hT.but hBW).but hS0))
 refine wpTx_begin (But (fun _ => False) W) 9 (by kernel_rfl) ?_
 have fSA := hid (fun wS (h : (But (fun _ => False) W) wS) => (And.intro ((h.cell (p := ⟨w.heap.size, 2, none⟩) gltW (fun h => h)).trans k2) ((h.cell (p := ⟨w.heap.size, 3, none⟩) gltW (fun h => h)).trans k3)))
 refine wpTx_take (v := ?vA0) rfl (by kernel_rfl) ?qA0 rfl hS0 ?yA0 ?rA0
 case yA0 => intro wS h; obtain ⟨q0, q1⟩ := fSA.out wS h; clear h; go_simp; try rfl
 case qA0 => exact fun _ _ _ h => h
 dsimp only [Act.put]
 try simp only [puts]
 refine wpTx_take (v := ?vA1) rfl (by kernel_rfl) ?qA1 rfl hS0 ?yA1 ?rA1
 case yA1 => intro wS h; obtain ⟨q0, q1⟩ := fSA.out wS h; clear h; go_simp; try rfl
 case qA1 => exact fun _ _ _ h => h
 dsimp only [Act.put]
 try simp only [puts]
 refine wpTx_take (v := ?vA2) rfl (by kernel_rfl) ?qA2 rfl hS0 ?yA2 ?rA2
 case yA2 => intro wS h; obtain ⟨q0, q1⟩ := fSA.out wS h; clear h; go_simp; try rfl
 case qA2 => exact fun _ _ _ h => h
 dsimp only [Act.put]
 try simp only [puts]
 refine wpTx_take (v := ?vA3) rfl (by kernel_rfl) ?qA3 rfl hS0 ?yA3 ?rA3
 case yA3 => intro wS h; obtain ⟨q0, q1⟩ := fSA.out wS h; clear h; go_simp; try rfl
 case qA3 => exact fun _ _ _ h => h
 dsimp only [Act.put]
 try simp only [puts]
 refine wpTx_take (v := ?vA4) rfl (by kernel_rfl) ?qA4 rfl hS0 ?yA4 ?rA4
 case yA4 => intro wS h; obtain ⟨q0, q1⟩ := fSA.out wS h; clear h; go_simp; try rfl
 case qA4 => exact fun _ _ _ h => h
 dsimp only [Act.put]
 try simp only [puts]
 refine wpTx_take (v := ?vA5) rfl (by kernel_rfl) ?qA5 rfl hS0 ?yA5 ?rA5
 case yA5 => intro wS h; obtain ⟨q0, q1⟩ := fSA.out wS h; clear h; go_simp; try rfl
 case qA5 => exact fun _ _ _ h => h
 dsimp only [Act.put]
 try simp only [puts]
 refine wpTx_take (v := ?vA6) rfl (by kernel_rfl) ?qA6 rfl hS0 ?yA6 ?rA6
 case yA6 => intro wS h; obtain ⟨q0, q1⟩ := fSA.out wS h; clear h; go_simp; try rfl
 case qA6 => exact fun _ _ _ h => h
 dsimp only [Act.put]
 try simp only [puts]
 try clear fSA
 refine wpTx_step (o := ?oA7) (rest := ?rsA7) ?hoA7 ?hrA7 ?stA7
 case hoA7 => rfl
 case hrA7 => kernel_rfl
 case' stA7 =>
 intro KS hKS
 go_simp
 refine HCALL.out.mono ?_
 rintro en wx ⟨rfl, hwx⟩
 rw [hwx]
 clear hwx wx HCALL
 refine hKS.out _ _ (fun _ => hS0) ?_
 clear hKS KS
 obtain ⟨z, hz'⟩ : ∃ z, tatX (fldsX cs k) n = z := ⟨_, rfl⟩
 rw [hz']
 have HZ := hid hz'
 clear hz'
 refine wpTx_step (o := ?oA8) (rest := ?rsA8) ?hoA8 ?hrA8 ?stA8
 case hoA8 => rfl
 case hrA8 => kernel_rfl
 case' stA8 =>
 intro KS hKS
 go_simp
 refine hKS.out _ _ (fun _ => hS0.trans (But.alloc _ _ _)) ?_
 clear hKS KS
 refine wpTx_step (o := ?oA9) (rest := ?rsA9) ?hoA9 ?hrA9 ?stA9
 case hoA9 => rfl
 case hrA9 => kernel_rfl
 case' stA9 =>
 intro KS hKS
 go_simp
 refine hKS.out _ _ (fun h => absurd h (by decide)) ?_
 clear hKS KS
 refine wpTx_done rfl (by kernel_rfl) ?_
 have hz := hBW.size
 go_wp2_with fail
 exact bodyPost_ret (v := .slice (some ⟨W.heap.size, 0, none⟩) 2 2) (by simp [results, Tryz.results140, go_sem]) rfl ⟨hBW.trans ((But.alloc _ _ _).trans (But.drew _ _)), _, rfl, by rw [HZ.out]; exact BtB.but (BtB.lit W w.heap.size hz [k, z] (by simp)) (But.drew (fun _ => False) _) (fun _ _ h => h)⟩
set_option maxHeartbeats 1600000 in
set_option maxRecDepth 100000 in
theorem xtakes_99 (b : Nat) (cs : List XCls) (ms : List Sig) (p n : Nat) (k ans : UInt8) (w : World) {ap : Option Addr} {np cp : Nat} (hm : ms.length ≤ 100) (hM : TxM w b ms) :
  Calls Tryz.prog 140 #[.pointer (some ⟨b, 0, none⟩), .agg #[.int .i64 p, .int .u8 99, .int .u8 k.toNat, .int .i64 n, .slice ap np cp], .int .u8 ans.toNat] w fun e w' => But (fun _ => False) w w' ∧ ∃ v, e = .returned v ∧ BtB w' w.heap.size v [k, (methX ms n).arg] := by
 go_enter Tryz.func140, Tryz.ntmps140
 go_wp2_with fail
 have hBW : But (fun _ => False) w (w.alloc (.cells #[.int .i64 p, .int .u8 99, .int .u8 k.toNat, .int .i64 n, .slice ap np cp] 219)) := But.alloc _ _ _
 have hgW := heap_alloc_new w (.cells #[.int .i64 p, .int .u8 99, .int .u8 k.toNat, .int .i64 n, .slice ap np cp] 219)
 revert hBW hgW
 generalize (w.alloc (.cells #[.int .i64 p, .int .u8 99, .int .u8 k.toNat, .int .i64 n, .slice ap np cp] 219)) = W
 intro hBW hgW
 obtain ⟨k0, k1, k2, k3, k4⟩ := row5 hgW
 have gltW := lt_of_block hgW
 have HGW := hid hgW
 clear hgW
 have hS0 : But (fun _ => False) W W.drew := But.drew _ _
 have HCALL := hid (xmethodAt_any b ms n W.drew hm ((hM.but hBW).but hS0))
 refine wpTx_begin (But (fun _ => False) W) 8 (by kernel_rfl) ?_
 have fSA := hid (fun wS (h : (But (fun _ => False) W) wS) => (And.intro ((h.cell (p := ⟨w.heap.size, 2, none⟩) gltW (fun h => h)).trans k2) ((h.cell (p := ⟨w.heap.size, 3, none⟩) gltW (fun h => h)).trans k3)))
 refine wpTx_take (v := ?vA0) rfl (by kernel_rfl) ?qA0 rfl hS0 ?yA0 ?rA0
 case yA0 => intro wS h; obtain ⟨q0, q1⟩ := fSA.out wS h; clear h; go_simp; try rfl
 case qA0 => exact fun _ _ _ h => h
 dsimp only [Act.put]
 try simp only [puts]
 refine wpTx_take (v := ?vA1) rfl (by kernel_rfl) ?qA1 rfl hS0 ?yA1 ?rA1
 case yA1 => intro wS h; obtain ⟨q0, q1⟩ := fSA.out wS h; clear h; go_simp; try rfl
 case qA1 => exact fun _ _ _ h => h
 dsimp only [Act.put]
 try simp only [puts]
 refine wpTx_take (v := ?vA2) rfl (by kernel_rfl) ?qA2 rfl hS0 ?yA2 ?rA2
 case yA2 => intro wS h; obtain ⟨q0, q1⟩ := fSA.out wS h; clear h; go_simp; try rfl
 case qA2 => exact fun _ _ _ h => h
 dsimp only [Act.put]
 try simp only [puts]
 refine wpTx_take (v := ?vA3) rfl (by kernel_rfl) ?qA3 rfl hS0 ?yA3 ?rA3
 case yA3 => intro wS h; obtain ⟨q0, q1⟩ := fSA.out wS h; clear h; go_simp; try rfl
 case qA3 => exact fun _ _ _ h => h
 dsimp only [Act.put]
 try simp only [puts]
 refine wpTx_take (v := ?vA4) rfl (by kernel_rfl) ?qA4 rfl hS0 ?yA4 ?rA4
 case yA4 => intro wS h; obtain ⟨q0, q1⟩ := fSA.out wS h; clear h; go_simp; try rfl
 case qA4 => exact fun _ _ _ h => h
 dsimp only [Act.put]
 try simp only [puts]
 try clear fSA
 refine wpTx_step (o := ?oA5) (rest := ?rsA5) ?hoA5 ?hrA5 ?stA5
 case hoA5 => rfl
 case hrA5 => kernel_rfl
 case' stA5 =>
 intro KS hKS
 go_simp
 refine HCALL.out.mono ?_
 rintro en wx ⟨rfl, hwx⟩
 clear HCALL
 have hSx := hS0.trans hwx
 refine hKS.out _ _ (fun _ => hSx) ?_
 clear hKS KS
 obtain ⟨z, hz'⟩ : ∃ z, methX ms n = z := ⟨_, rfl⟩
 rw [hz']
 have HZ := hid hz'
 clear hz'
 obtain ⟨za, zr⟩ := z
 dsimp only
 refine wpTx_step (o := ?oA6) (rest := ?rsA6) ?hoA6 ?hrA6 ?stA6
 case hoA6 => rfl
 case hrA6 => kernel_rfl
 case' stA6 =>
 intro KS hKS
 go_simp
 refine hKS.out _ _ (fun _ => hSx) ?_
 clear hKS KS
 refine wpTx_step (o := ?oA7) (rest := ?rsA7) ?hoA7 ?hrA7 ?stA7
 case hoA7 => rfl
 case hrA7 => kernel_rfl
 case' stA7 =>
 intro KS hKS
 go_simp
 refine hKS.out _ _ (fun _ => hSx.trans (But.alloc _ _ _)) ?_
 clear hKS KS
 refine wpTx_step (o := ?oA8) (rest := ?rsA8) ?hoA8 ?hrA8 ?stA8
 case hoA8 => rfl
 case hrA8 => kernel_rfl
 case' stA8 =>
 intro KS hKS
 go_simp
 refine hKS.out _ _ (fun h => absurd h (by decide)) ?_
 clear hKS KS
 refine wpTx_done rfl (by kernel_rfl) ?_
 have hz := hBW.size
 go_wp2_with fail
 have hzx := hSx.size
 exact bodyPost_ret (v := .slice (some ⟨wx.heap.size, 0, none⟩) 2 2) (by simp [results, Tryz.results140, go_sem]) rfl ⟨(hBW.trans hSx).trans (But.alloc _ _ _), _, rfl, by rw [HZ.out]; exact BtB.lit wx w.heap.size (by omega) [k, za] (by simp)⟩
/-- What an instruction takes, any letter. -/
theorem xtakes_any (b : Nat) (cs : List XCls) (ms : List Sig) (p n : Nat) (c k ans : UInt8) (w : World) {ap : Option Addr} {np cp : Nat} (hn : cs.length ≤ 100) (hm : ms.length ≤ 100) (hT : TxC w b cs) (hM : TxM w b ms) :
  Calls Tryz.prog 140 #[.pointer (some ⟨b, 0, none⟩), .agg #[.int .i64 p, .int .u8 c.toNat, .int .u8 k.toNat, .int .i64 n, .slice ap np cp], .int .u8 ans.toNat] w fun e w' => But (fun _ => False) w w' ∧ ∃ v, e = .returned v ∧ BtB w' w.heap.size v (takesX cs ms c k n ans) := by
 by_cases h112 : c.toNat = 112
 ·have hc : c = 112 := UInt8.toNat_inj.1 h112
  subst hc
  exact xtakes_112 b cs ms p n k ans w hn hT
 by_cases h99 : c.toNat = 99
 ·have hc : c = 99 := UInt8.toNat_inj.1 h99
  subst hc
  exact xtakes_99 b cs ms p n k ans w hm hM
 exact xtakes_plain b cs ms p n c k ans w h112 h99
end Go.Proofs.YtpfkkmacakjmbaaGreatDoor
/- The program's states: copies, likeness. -/
namespace Go.Proofs.YtpfkkmacakjmbaaGreatDoor
open Go Go.RowKit Sp
set_option linter.unusedSimpArgs false
set_option linter.unusedVariables false
attribute [local go_sem ↓] Go.wp_at_zero Go.wp_at_succ
def xsV (kn : Bool) (vs vl : Value) : Value := .agg #[.bool kn, vs, vl]
set_option maxHeartbeats 1600000 in
set_option maxRecDepth 100000 in
theorem xcopyOf_any (bx : Nat) (kn : Bool) (aa al : Option Addr) (cs cl : Nat) (st lo : List UInt8) (w : World) (hs : BtB w bx (.slice aa st.length cs) st) (hl : BtB w bx (.slice al lo.length cl) lo) (h1 : st.length ≤ 1000) (h2 : lo.length ≤ 1000) :
  Calls Tryz.prog 171 #[xsV kn (.slice aa st.length cs) (.slice al lo.length cl)] w fun en w' => But (fun _ => False) w w' ∧ ∃ a1 c1 a2 c2 B2, en = .returned (xsV kn (.slice a1 st.length c1) (.slice a2 lo.length c2)) ∧ BtB w' w.heap.size (.slice a1 st.length c1) st ∧ BtB w' B2 (.slice a2 lo.length c2) lo ∧ w.heap.size ≤ B2 ∧ (∀ g, (Value.slice a1 st.length c1).ownBlock = some g → g < B2) ∧ (Value.slice a1 st.length c1).ownBlock ≠ none := by
 unfold xsV
 have hW1 : But (fun _ => False) w ((w.alloc (.cells #[.bool kn, .slice aa st.length cs, .slice al lo.length cl] 117)).alloc (.cells #[.bool false, .slice none 0 0, .slice none 0 0] 117)) := (But.alloc _ _ _).trans (But.alloc _ _ _)
 have hz1 : ((w.alloc (.cells #[.bool kn, .slice aa st.length cs, .slice al lo.length cl] 117)).alloc (.cells #[.bool false, .slice none 0 0, .slice none 0 0] 117)).heap.size = w.heap.size + 1 + 1 := by simp
 have hg0 : ((w.alloc (.cells #[.bool kn, .slice aa st.length cs, .slice al lo.length cl] 117)).alloc (.cells #[.bool false, .slice none 0 0, .slice none 0 0] 117)).heap[w.heap.size]? = some (.cells #[.bool kn, .slice aa st.length cs, .slice al lo.length cl] 117) := by
  rw [(But.alloc (fun _ => False) (w.alloc (.cells #[.bool kn, .slice aa st.length cs, .slice al lo.length cl] 117)) (.cells #[.bool false, .slice none 0 0, .slice none 0 0] 117)).block w.heap.size (lt_of_block (heap_alloc_new w _)) (fun h => h)]
  exact heap_alloc_new w _
 have hg1 : ((w.alloc (.cells #[.bool kn, .slice aa st.length cs, .slice al lo.length cl] 117)).alloc (.cells #[.bool false, .slice none 0 0, .slice none 0 0] 117)).heap[w.heap.size + 1]? = some (.cells #[.bool false, .slice none 0 0, .slice none 0 0] 117) := heap_alloc_at (by simp) _
 have hE := BtB.empty ((w.alloc (.cells #[.bool kn, .slice aa st.length cs, .slice al lo.length cl] 117)).alloc (.cells #[.bool false, .slice none 0 0, .slice none 0 0] 117))
 have hB2 : But (fun _ => False) ((w.alloc (.cells #[.bool kn, .slice aa st.length cs, .slice al lo.length cl] 117)).alloc (.cells #[.bool false, .slice none 0 0, .slice none 0 0] 117)) (((w.alloc (.cells #[.bool kn, .slice aa st.length cs, .slice al lo.length cl] 117)).alloc (.cells #[.bool false, .slice none 0 0, .slice none 0 0] 117)).alloc (.cells #[] 5)) := But.alloc _ _ _
 rw [hz1] at hE
 have hs2 := (hs.but hW1 (fun _ _ h => h)).but hB2 (fun _ _ h => h)
 have hl2 := (hl.but hW1 (fun _ _ h => h)).but hB2 (fun _ _ h => h)
 have hz2 : ((w.alloc (.cells #[.bool kn, .slice aa st.length cs, .slice al lo.length cl] 117)).alloc (.cells #[.bool false, .slice none 0 0, .slice none 0 0] 117)).alloc (.cells #[] 5) |>.heap.size |> (w.heap.size + 1 + 1 ≤ ·) := by simp
 have HN : Hid ([] ++ st = st) := hid (by simp)
 have HG0 := hid ((hB2.block w.heap.size (lt_of_block hg0) (fun h => h)).trans hg0)
 have HG1 := hid ((hB2.block (w.heap.size + 1) (lt_of_block hg1) (fun h => h)).trans hg1)
 have hBx := hW1.trans hB2
 clear hg0 hg1 hW1 hB2 hz1
 go_enter Tryz.func171, Tryz.ntmps171
 go_wp2_with (at_builtin; refine wpList_append_btl rfl _ _ rfl (w.heap.size + 1 + 1) bx _ _ [] st st HN rfl rfl hE hs2 (by omega) hz2 ?_)
 intro a1 c1 w3 h3 hB3 hor
 have hlit : (Value.slice (some ⟨w.heap.size + 1 + 1, 0, none⟩) 0 0).ownBlock = some (w.heap.size + 1 + 1) := rfl
 have hnn : (Value.slice a1 st.length c1).ownBlock ≠ none := fun h => by
  rcases hor with h' | h' <;> (rw [h] at h'; cases h')
 have HNN := hid hnn
 clear hnn
 have hF : ∀ k, k < w.heap.size + 1 + 1 → ¬ (Value.slice (some ⟨w.heap.size + 1 + 1, 0, none⟩) 0 0).ownBlock = some k := fun k hk h => by rw [hlit] at h; injection h with h; omega
 have hg03 := (hB3.block w.heap.size (lt_of_block HG0.out) (hF _ (by omega))).trans HG0.out
 have hg13 := (hB3.block (w.heap.size + 1) (lt_of_block HG1.out) (hF _ (by omega))).trans HG1.out
 have hl3 := hl2.but hB3 (fun g hg => hF g (by have := owns_lt hl g hg; omega))
 have hBw3 : But (fun _ => False) w w3 := hBx.next hB3 (fun k hk h => hF k (by omega) h)
 have hs3lt := owns_lt h3
 have hs3ge := owns_ge h3
 have hz3 := hBw3.size
 have hg13l := lt_of_block hg13
 have hg03l : w.heap.size < w3.heap.size := by omega
 have hE4 := BtB.empty w3
 have hB4 : But (fun _ => False) w3 (w3.alloc (.cells #[] 5)) := But.alloc _ _ _
 have hl4 := hl3.but hB4 (fun _ _ h => h)
 have hs4 := h3.but hB4 (fun _ _ h => h)
 have hz4 : w3.heap.size ≤ (w3.alloc (.cells #[] 5)).heap.size := hB4.size
 have hq : w3.cell? ⟨w.heap.size, 2, none⟩ = some (.slice al lo.length cl) := by rw [cell_of_row w3 w.heap.size 2 _ _ (0, 0) hg03]; rfl
 have HN2 : Hid ([] ++ lo = lo) := hid (by simp)
 have HG03 := hid hg03
 have HG13 := hid hg13
 have HF := hid hF
 clear hg03 hg13 hF hlit HG0 HG1 hs2 hl2 hE hz2 h3 hl3
 go_wp2_with (at_builtin; refine wpList_append_btl rfl _ _ rfl w3.heap.size bx _ _ [] lo lo HN2 rfl rfl hE4 hl4 (by omega) hz4 ?_)
 intro a2 c2 w5 h5 hB5 hor5
 have hlit5 : (Value.slice (some ⟨w3.heap.size, 0, none⟩) 0 0).ownBlock = some w3.heap.size := rfl
 have hF5 : ∀ k, k < w3.heap.size → ¬ (Value.slice (some ⟨w3.heap.size, 0, none⟩) 0 0).ownBlock = some k := fun k hk h => by rw [hlit5] at h; injection h with h; omega
 have hB35 : But (fun k => (Value.slice (some ⟨w3.heap.size, 0, none⟩) 0 0).ownBlock = some k) w3 w5 := (hB4.mono (fun _ _ h => h.elim)).trans hB5
 have hg05 := (hB35.block w.heap.size (lt_of_block HG03.out) (hF5 _ (by omega))).trans HG03.out
 have hg15 := (hB35.block (w.heap.size + 1) (lt_of_block HG13.out) (hF5 _ (by omega))).trans HG13.out
 have hs5 := hs4.but hB5 (fun g hg => hF5 g (hs3lt g hg))
 have hBw5 : But (fun _ => False) w w5 := hBw3.next hB35 (fun k hk h => hF5 k (by omega) h)
 have h5ge := owns_ge h5
 have q0 : w5.cell? ⟨w.heap.size, 0, none⟩ = some (.bool kn) := by rw [cell_of_row w5 w.heap.size 0 _ _ (0, 0) hg05]; rfl
 have y0 : w5.cell? ⟨w.heap.size + 1, 0, none⟩ = some (.bool false) := by rw [cell_of_row w5 (w.heap.size + 1) 0 _ _ (0, 0) hg15]; rfl
 have y1 : w5.cell? ⟨w.heap.size + 1, 1, none⟩ = some (.slice none 0 0) := by rw [cell_of_row w5 (w.heap.size + 1) 1 _ _ (0, 0) hg15]; rfl
 have y2 : w5.cell? ⟨w.heap.size + 1, 2, none⟩ = some (.slice none 0 0) := by rw [cell_of_row w5 (w.heap.size + 1) 2 _ _ (0, 0) hg15]; rfl
 have g0 : w5.frozen? ⟨w.heap.size + 1, 0, none⟩ = false := frozen_of_row w5 (w.heap.size + 1) 0 _ _ hg15
 have g1 : w5.frozen? ⟨w.heap.size + 1, 1, none⟩ = false := frozen_of_row w5 (w.heap.size + 1) 1 _ _ hg15
 have g2 : w5.frozen? ⟨w.heap.size + 1, 2, none⟩ = false := frozen_of_row w5 (w.heap.size + 1) 2 _ _ hg15
 have HG15 := hid hg15
 clear hg05 hg15 HG03 HG13 hq hlit5 hF5
 go_wp2_with fail
 have h6a := heap_setCell_same w5 (w.heap.size + 1) 0 _ _ (.bool kn) HG15.out
 have h6b := heap_setCell_same _ (w.heap.size + 1) 1 _ _ (.slice a1 st.length c1) h6a
 have h6c := heap_setCell_same _ (w.heap.size + 1) 2 _ _ (.slice a2 lo.length c2) h6b
 have hB6 := ((But.setB w5 (w.heap.size + 1) 0 (.bool kn)).trans (But.setB _ (w.heap.size + 1) 1 (.slice a1 st.length c1))).trans (But.setB _ (w.heap.size + 1) 2 (.slice a2 lo.length c2))
 revert h6c hB6
 generalize (((w5.setCell ⟨w.heap.size + 1, 0, none⟩ (.bool kn)).setCell ⟨w.heap.size + 1, 1, none⟩ (.slice a1 st.length c1)).setCell ⟨w.heap.size + 1, 2, none⟩ (.slice a2 lo.length c2)) = w6
 intro h6c hB6
 have r0 : w6.cell? ⟨w.heap.size + 1, 0, none⟩ = some (.bool kn) := by rw [cell_of_row w6 (w.heap.size + 1) 0 _ _ (0, 0) h6c]; rfl
 have r1 : w6.cell? ⟨w.heap.size + 1, 1, none⟩ = some (.slice a1 st.length c1) := by rw [cell_of_row w6 (w.heap.size + 1) 1 _ _ (0, 0) h6c]; rfl
 have r2 : w6.cell? ⟨w.heap.size + 1, 2, none⟩ = some (.slice a2 lo.length c2) := by rw [cell_of_row w6 (w.heap.size + 1) 2 _ _ (0, 0) h6c]; rfl
 exact bodyPost_ret (v := .agg #[.bool kn, .slice a1 st.length c1, .slice a2 lo.length c2]) (by simp [results, Tryz.results171, go_sem, r0, r1, r2]) rfl
  ⟨hBw5.next hB6 (fun k hk h => by omega), a1, c1, a2, c2, w3.heap.size, rfl, BtB.but (World.ownsRow.mono hs5 (by omega)) hB6 (fun g hg h => by have := hs3ge g hg; omega), BtB.but h5 hB6 (fun g hg h => by have := h5ge g hg; omega), by omega, hs3lt, HNN.out⟩
/-- A list of bytes as a string. -/
theorem conv_bts {w : World} {base : Nat} {v : Value} {l : List UInt8} (h : BtB w base v l) : (convert 112 9 v).run Tryz.prog w = .ok (.string ⟨l.toArray⟩) w := by
 obtain ⟨ao, cap, rfl⟩ := owns_len h
 cases ao with
 | none =>
  have hm : l.length = 0 := by
   rcases Nat.eq_zero_or_pos l.length with h' | h'
   ·exact h'
   ·obtain ⟨g, hg, _⟩ := owns_two h h'
    cases hg
  have hl0 : l = [] := List.length_eq_zero_iff.1 hm
  subst hl0
  have hu1 : Tryz.prog.underlying 112 = some (.slice 5) := by kernel_rfl
  have hu2 : Tryz.prog.underlying 9 = some .string := by kernel_rfl
  have hu3 : Tryz.prog.underlying 5 = some (.int .u8) := by kernel_rfl
  have h9 := run_convert_bytes_string (P := Tryz.prog) w 112 9 5 none 0 cap hu1 hu3 hu2
  refine h9.trans ?_
  simp [Conv.bytesToString]
  rfl
 | some ad =>
  refine (?_ : (convert 112 9 (.slice (some ad) l.length cap)).run Tryz.prog w = _)
  refine run_convert_bytes_back w 112 9 5 ad cap l (by kernel_rfl) (by kernel_rfl) (by kernel_rfl) ?_
  intro j hj
  obtain ⟨g, hg, hg1, hg2, hc⟩ := owns_two h (by omega)
  have hg' := Option.some.inj hg
  rw [hg']
  have h3 := hc j _ (btCells_at hj)
  have e : (⟨g, 0, none⟩ : Addr).add j = ⟨g, j, none⟩ := by simp [Addr.add]; exact fun h => h.symm
  rw [e, h3]
  simp [List.getD, hj]
set_option maxHeartbeats 1600000 in
set_option maxRecDepth 100000 in
theorem xsame_any (aa al : Option Addr) (cs cl : Nat) (st lo : List UInt8) (w : World) (hs : BtB w 0 (.slice aa st.length cs) st) (hl : BtB w 0 (.slice al lo.length cl) lo) :
  Calls Tryz.prog 173 #[.slice aa st.length cs, .slice al lo.length cl] w fun en w' => en = .returned (.bool (decide (st = lo))) ∧ w' = w := by
 have hc1 := conv_bts hs
 have hc2 := conv_bts hl
 go_enter Tryz.func173, Tryz.ntmps173
 go_wp2_with fail
 exact bodyPost_ret (v := .bool (decide (st = lo))) (by simp [results, Tryz.results173, go_sem]; rw [Bool.eq_iff_iff]; simp) rfl ⟨rfl, rfl⟩
end Go.Proofs.YtpfkkmacakjmbaaGreatDoor
/- The program's state behind an instruction. -/
namespace Go.Proofs.YtpfkkmacakjmbaaGreatDoor
open Go Go.RowKit Sp
set_option linter.unusedSimpArgs false
set_option linter.unusedVariables false
attribute [local go_sem ↓] Go.wp_at_zero Go.wp_at_succ
def suitAll (cs : List XCls) (st asked : List UInt8) : Bool := (List.range asked.length).all fun i => suitsX cs (st.getD (st.length - asked.length + i) 0) (asked.getD i 0)
def behX (cs : List XCls) (ms : List Sig) (x : XIt) (ans : UInt8) (st lo : List UInt8) : Option (List UInt8 × List UInt8) :=
 if st.length < (takesX cs ms x.op x.cls x.num ans).length ∨ suitAll cs st (takesX cs ms x.op x.cls x.num ans) = false then none else
 if x.op.toNat = 115 ∧ ¬ x.num < lo.length then none else
 if x.op.toNat = 108 ∧ (laysX cs ms x.op x.cls x.num (if x.op.toNat = 115 then lo.set x.num (st.getD (st.length - (takesX cs ms x.op x.cls x.num ans).length) 0) else lo)).toNat = 45 then none else
 some (st.take (st.length - (takesX cs ms x.op x.cls x.num ans).length) ++ (if (laysX cs ms x.op x.cls x.num (if x.op.toNat = 115 then lo.set x.num (st.getD (st.length - (takesX cs ms x.op x.cls x.num ans).length) 0) else lo)).toNat = 0 then [] else [laysX cs ms x.op x.cls x.num (if x.op.toNat = 115 then lo.set x.num (st.getD (st.length - (takesX cs ms x.op x.cls x.num ans).length) 0) else lo)]),
  if x.op.toNat = 115 then lo.set x.num (st.getD (st.length - (takesX cs ms x.op x.cls x.num ans).length) 0) else lo)
/-- The boxes of the parameters and of the result. -/
structure BhW (w wx : World) (c r : UInt8) (m : Nat) (vl vi : Value) (pl nu : Nat) (op ic : UInt8) : Prop where
 but : But (fun _ => False) w wx
 bod : wx.heap[w.heap.size]? = some (.cells #[.int .u8 c.toNat, .int .i64 m, .int .u8 r.toNat, vl, vi] 115)
 item : wx.heap[w.heap.size + 1]? = some (.cells #[.int .i64 pl, .int .u8 op.toNat, .int .u8 ic.toNat, .int .i64 nu, .slice none 0 0] 219)
 res : wx.heap[w.heap.size + 1 + 1 + 1]? = some (.cells #[.bool false, .slice none 0 0, .slice none 0 0] 117)
section
variable {w w1 w2 : World} {c r : UInt8} {m : Nat} {vl vi : Value} {pl nu : Nat} {op ic : UInt8}
theorem BhW.next {F : Nat → Prop} (h : BhW w w1 c r m vl vi pl nu op ic) (hb : But F w1 w2) (hF : ∀ k, k < w.heap.size + 4 → ¬ F k) : BhW w w2 c r m vl vi pl nu op ic :=
 ⟨h.but.next hb (fun k hk hf => hF k (by omega) hf), (hb.block _ (lt_of_block h.bod) (hF _ (by omega))).trans h.bod, (hb.block _ (lt_of_block h.item) (hF _ (by omega))).trans h.item, (hb.block _ (lt_of_block h.res) (hF _ (by omega))).trans h.res⟩
theorem BhW.gt (h : BhW w w1 c r m vl vi pl nu op ic) : w.heap.size + 3 < w1.heap.size := lt_of_block h.res
end
theorem row3 {w : World} {g t : Nat} {x0 x1 x2 : Value} (h : w.heap[g]? = some (.cells #[x0, x1, x2] t)) : w.cell? ⟨g, 0, none⟩ = some x0 ∧ w.cell? ⟨g, 1, none⟩ = some x1 ∧ w.cell? ⟨g, 2, none⟩ = some x2 := by
 refine ⟨?_, ?_, ?_⟩
 ·rw [cell_of_row w g 0 _ _ (0, 0) h]; rfl
 ·rw [cell_of_row w g 1 _ _ (0, 0) h]; rfl
 ·rw [cell_of_row w g 2 _ _ (0, 0) h]; rfl
theorem froz3 {w : World} {g t : Nat} {x0 x1 x2 : Value} (h : w.heap[g]? = some (.cells #[x0, x1, x2] t)) : w.frozen? ⟨g, 0, none⟩ = false ∧ w.frozen? ⟨g, 1, none⟩ = false ∧ w.frozen? ⟨g, 2, none⟩ = false :=
 ⟨frozen_of_row w g 0 _ _ h, frozen_of_row w g 1 _ _ h, frozen_of_row w g 2 _ _ h⟩
def put3 (w : World) (g : Nat) (x0 x1 x2 : Value) : World := ((w.setCell ⟨g, 0, none⟩ x0).setCell ⟨g, 1, none⟩ x1).setCell ⟨g, 2, none⟩ x2
theorem put3_heap {w : World} {g t : Nat} {a0 a1 a2 : Value} (h : w.heap[g]? = some (.cells #[a0, a1, a2] t)) (x0 x1 x2 : Value) : (put3 w g x0 x1 x2).heap[g]? = some (.cells #[x0, x1, x2] t) := by
 have h1 := heap_setCell_same w g 0 _ _ x0 h
 have h2 := heap_setCell_same _ g 1 _ _ x1 h1
 exact heap_setCell_same _ g 2 _ _ x2 h2
theorem put3_but (w : World) (g : Nat) (x0 x1 x2 : Value) : But (· = g) w (put3 w g x0 x1 x2) := ((But.setB w g 0 x0).trans (But.setB _ g 1 x1)).trans (But.setB _ g 2 x2)
theorem BtB.pre {w : World} {base g cap n : Nat} {l : List UInt8} (h : BtB w base (.slice (some ⟨g, 0, none⟩) l.length cap) l) (hn : n ≤ l.length) : BtB w base (.slice (some ⟨g, 0, none⟩) (l.take n).length cap) (l.take n) := by
 have hl : (l.take n).length = n := by simp; omega
 rcases h.2 with ⟨h1, _⟩ | ⟨g', cap', cur, h1, h2, h3, h4, h5, h6, h7⟩
 ·cases h1
 ·have e1 : cap = cap' := congrArg (fun v => match v with | Value.slice _ _ c => c | _ => 0) h1
  have e2 : g = g' := by
   have := congrArg (fun v => match v with | Value.slice (some a) _ _ => a.block | _ => 0) h1
   exact this
  subst e1 e2
  refine ⟨by simp [btCells], Or.inr ⟨g, cap, cur, by rw [hl], h2, h3, by rw [hl]; omega, h5, h6, ?_⟩⟩
  rw [hl]
  simp only [Nat.mul_one] at h7 ⊢
  have : cur.toList.take n = (cur.toList.take l.length).take n := by rw [List.take_take, Nat.min_eq_left hn]
  rw [this, h7]
  simp [btCells, List.map_take]
theorem BtB.cap {w : World} {base cap : Nat} {ao : Option Addr} {l : List UInt8} (h : BtB w base (.slice ao l.length cap) l) : l.length ≤ cap := by
 rcases h.2 with ⟨h1, h2⟩ | ⟨g', cap', cur, h1, _, _, h4, _⟩
 ·omega
 ·have e1 : cap = cap' := congrArg (fun v => match v with | Value.slice _ _ c => c | _ => 0) h1
  rw [e1]; exact h4
theorem BtB.put {w : World} {base g cap k : Nat} {l : List UInt8} (h : BtB w base (.slice (some ⟨g, 0, none⟩) l.length cap) l) (c : UInt8) : BtB (w.setCell ⟨g, k, none⟩ (.int .u8 c.toNat)) base (.slice (some ⟨g, 0, none⟩) l.length cap) (l.set k c) := by
 rcases h.2 with ⟨h1, _⟩ | ⟨g', cap', cur, h1, h2, h3, h4, h5, h6, h7⟩
 ·cases h1
 ·have e1 : cap = cap' := congrArg (fun v => match v with | Value.slice _ _ c => c | _ => 0) h1
  have e2 : g = g' := congrArg (fun v => match v with | Value.slice (some a) _ _ => a.block | _ => 0) h1
  subst e1 e2
  refine ⟨by simp [btCells], Or.inr ⟨g, cap, cur.setIfInBounds k (.int .u8 c.toNat), by simp, h2, heap_setCell_same w g k _ _ _ h3, by simpa using h4, h5, by simpa using h6, ?_⟩⟩
  simp only [Nat.mul_one, List.length_set] at h7 ⊢
  rw [Array.toList_setIfInBounds, List.take_set, h7]
  simp [btCells, List.map_set]
theorem BtB.row {w : World} {base g cap : Nat} {n : Nat} {l : List UInt8} (h : BtB w base (.slice (some ⟨g, 0, none⟩) n cap) l) : ∃ cur, w.heap[g]? = some (.cells cur 5) := by
 rcases h.2 with ⟨h1, _⟩ | ⟨g', cap', cur, h1, h2, h3, _⟩
 ·cases h1
 ·have e2 : g = g' := congrArg (fun v => match v with | Value.slice (some a) _ _ => a.block | _ => 0) h1
  subst e2
  exact ⟨cur, h3⟩
theorem takesX_len (cs : List XCls) (ms : List Sig) (c k : UInt8) (n : Nat) (ans : UInt8) : (takesX cs ms c k n ans).length ≤ 2 := by
 unfold takesX
 repeat' split
 all_goals simp
set_option maxHeartbeats 3200000 in
set_option maxRecDepth 100000 in
theorem xbehind_any (b : Nat) (cs : List XCls) (ms : List Sig) (c r : UInt8) (m : Nat) (vl vi : Value) (x : XIt) (aa al : Option Addr) (ca cl : Nat) (st lo : List UInt8) (w : World) (hn : cs.length ≤ 100) (hm : ms.length ≤ 100) (hT : TxC w b cs) (hM : TxM w b ms)
  (hvl : vl.oneCell' = true) (hvi : vi.oneCell' = true) (hs : BtB w 0 (.slice aa st.length ca) st) (hl : BtB w 0 (.slice al lo.length cl) lo) (h1 : st.length ≤ 200) (h2 : lo.length ≤ 200) :
  Calls Tryz.prog 174 #[.pointer (some ⟨b, 0, none⟩), hdV c m r vl vi, itV x, xsV true (.slice aa st.length ca) (.slice al lo.length cl)] w fun en w' => But (fun _ => False) w w' ∧
   ((behX cs ms x r st lo = none ∧ en = .returned (.tuple #[xsV false (.slice none 0 0) (.slice none 0 0), .bool false])) ∨
    (∃ st' lo' a1 c1 a2 c2, behX cs ms x r st lo = some (st', lo') ∧ en = .returned (.tuple #[xsV true (.slice a1 (List.length st') c1) (.slice a2 (List.length lo') c2), .bool true]) ∧ BtB w' w.heap.size (.slice a1 st'.length c1) st' ∧ BtB w' w.heap.size (.slice a2 lo'.length c2) lo')) := by
 obtain ⟨pl, op, ic, nu⟩ := x
 obtain ⟨t0, ht0, ht1, ht2, ht3⟩ := info_parts info_u8
 unfold hdV itV xsV
 have hW0 : BhW w ((((w.alloc (.cells #[.int .u8 c.toNat, .int .i64 m, .int .u8 r.toNat, vl, vi] 115)).alloc (.cells #[.int .i64 pl, .int .u8 op.toNat, .int .u8 ic.toNat, .int .i64 nu, .slice none 0 0] 219)).alloc (.cells #[.bool true, .slice aa st.length ca, .slice al lo.length cl] 117)).alloc (.cells #[.bool false, .slice none 0 0, .slice none 0 0] 117)) c r m vl vi pl nu op ic := by
  refine ⟨(((But.alloc _ _ _).trans (But.alloc _ _ _)).trans (But.alloc _ _ _)).trans (But.alloc _ _ _), ?_, ?_, heap_alloc_at (by simp) _⟩
  ·rw [Below.heap_alloc _ _ _ (by simp; omega), Below.heap_alloc _ _ _ (by first | (simp; done) | (simp; omega)), Below.heap_alloc _ _ _ (by first | (simp; done) | (simp; omega))]
   exact heap_alloc_new w _
  ·rw [Below.heap_alloc _ _ _ (by simp), Below.heap_alloc _ _ _ (by simp)]
   exact heap_alloc_at (by simp) _
 have hs0 := hs.but hW0.but (fun _ _ h => h)
 have hl0 := hl.but hW0.but (fun _ _ h => h)
 have HW0 := hid hW0
 have HCP := hid (xcopyOf_any 0 true aa al ca cl st lo _ hs0 hl0 (by omega) (by omega))
 have hz0 : ((((w.alloc (.cells #[.int .u8 c.toNat, .int .i64 m, .int .u8 r.toNat, vl, vi] 115)).alloc (.cells #[.int .i64 pl, .int .u8 op.toNat, .int .u8 ic.toNat, .int .i64 nu, .slice none 0 0] 219)).alloc (.cells #[.bool true, .slice aa st.length ca, .slice al lo.length cl] 117)).alloc (.cells #[.bool false, .slice none 0 0, .slice none 0 0] 117)).heap.size = w.heap.size + 1 + 1 + 1 + 1 := by simp
 have HZ0 := hid hz0
 clear hW0 hs0 hl0 hz0
 unfold xsV at HCP
 go_enter Tryz.func174, Tryz.ntmps174
 go_wp2_with fail
 refine HCP.out.mono ?_
 rintro en w1 ⟨hB1, a1, c1, a2, c2, G2, rfl, hs1, hl1, hG2, hG2', hnn⟩
 have hW1 := HW0.out.next hB1 (fun _ _ h => h)
 rw [HZ0.out] at hs1 hG2
 obtain ⟨gq, hgq⟩ : ∃ gq, a1 = some ⟨gq, 0, none⟩ := by
  rcases hs1.2 with ⟨h, _⟩ | ⟨g, cap, cur, h, _⟩
  ·rw [h] at hnn; exact absurd rfl hnn
  ·exact ⟨g, congrArg (fun v => match v with | Value.slice a _ _ => a | _ => none) h⟩
 subst hgq
 clear hnn
 clear HCP HW0 HZ0 hB1
 have hgt1 := hW1.gt
 have hB2 : But (fun _ => False) w1 (w1.alloc (.cells #[.bool true, .slice (some ⟨gq, 0, none⟩) st.length c1, .slice a2 lo.length c2] 117)) := But.alloc _ _ _
 have hg2 := heap_alloc_new w1 (.cells #[.bool true, .slice (some ⟨gq, 0, none⟩) st.length c1, .slice a2 lo.length c2] 117)
 have hW2 := hW1.next hB2 (fun _ _ h => h)
 have hs2 := hs1.but hB2 (fun _ _ h => h)
 have hl2 := hl1.but hB2 (fun _ _ h => h)
 have hslt := owns_lt hs1
 have hllt := owns_lt hl1
 obtain ⟨i0, i1, i2, i3, i4⟩ := row5 hW1.item
 obtain ⟨d0, d1, d2, d3, d4⟩ := row5 hW1.bod
 have l0 : w.heap.size < w1.heap.size := by omega
 have l1 : w.heap.size + 1 < w1.heap.size := by omega
 clear hW1 hs1 hl1
 go_wp2_with fail
 revert hB2 hg2 hW2 hs2 hl2
 generalize (w1.alloc (.cells #[.bool true, .slice (some ⟨gq, 0, none⟩) st.length c1, .slice a2 lo.length c2] 117)) = w2
 intro hB2 hg2 hW2 hs2 hl2
 have HTK := hid (xtakes_any (ap := none) (np := 0) (cp := 0) b cs ms pl nu op ic r w2 hn hm (hT.but hW2.but) (hM.but hW2.but))
 have hTl := takesX_len cs ms op ic nu r
 have HBH : Hid (∀ T, takesX cs ms op ic nu r = T → behX cs ms ⟨pl, op, ic, nu⟩ r st lo =
   if st.length < T.length ∨ suitAll cs st T = false then none else
   if op.toNat = 115 ∧ ¬ nu < lo.length then none else
   if op.toNat = 108 ∧ (laysX cs ms op ic nu (if op.toNat = 115 then lo.set nu (st.getD (st.length - T.length) 0) else lo)).toNat = 45 then none else
   some (st.take (st.length - T.length) ++ (if (laysX cs ms op ic nu (if op.toNat = 115 then lo.set nu (st.getD (st.length - T.length) 0) else lo)).toNat = 0 then [] else [laysX cs ms op ic nu (if op.toNat = 115 then lo.set nu (st.getD (st.length - T.length) 0) else lo)]),
    if op.toNat = 115 then lo.set nu (st.getD (st.length - T.length) 0) else lo)) := hid (fun T h => by subst h; rfl)
 obtain ⟨T, hTT⟩ : ∃ T, takesX cs ms op ic nu r = T := ⟨_, rfl⟩
 have HBT := hid (HBH.out T hTT)
 have hT115 : op.toNat = 115 → 0 < T.length := fun h => by rw [← hTT]; simp [takesX, h]
 have HT115 := hid hT115
 clear hT115
 rw [hTT] at HTK hTl
 clear HBH hTT
 refine HTK.out.mono ?_
 rintro en w3 ⟨hB3, v3, rfl, hA3⟩
 obtain ⟨a3, c3, hv3⟩ := owns_len hA3
 subst hv3
 clear HTK
 have hW3 := hW2.next hB3 (fun _ _ h => h)
 have hs3 := hs2.but hB3 (fun _ _ h => h)
 have hl3 := hl2.but hB3 (fun _ _ h => h)
 have hg3 := (hB3.block w1.heap.size (lt_of_block hg2) (fun h => h)).trans hg2
 have hgl3 := lt_of_block hg3
 have hz23 := hB3.size
 obtain ⟨b0, b1, b2⟩ := row3 hg3
 obtain ⟨i0, i1, i2, i3, i4⟩ := row5 hW3.item
 obtain ⟨r0, r1, r2⟩ := row3 hW3.res
 obtain ⟨f0, f1, f2⟩ := froz3 hW3.res
 have HW3 := hid hW3
 have HG3 := hid hg3
 clear hW2 hs2 hl2 hg2 hB2 hg3 hW3 d0 d1 d2 d3 d4
 by_cases hlen : st.length < T.length
 ·have hneg : (st.length : Int) - (T.length : Int) < 0 := by omega
  have hN : behX cs ms ⟨pl, op, ic, nu⟩ r st lo = none := by rw [HBT.out, if_pos (Or.inl hlen)]
  have HN := hid hN
  clear hN HBT
  go_wp2_with fail
  have h9 := put3_heap HW3.out.res (.bool false) (.slice none 0 0) (.slice none 0 0)
  have h9b := put3_but w3 (w.heap.size + 1 + 1 + 1) (.bool false) (.slice none 0 0) (.slice none 0 0)
  unfold put3 at h9 h9b
  revert h9 h9b
  generalize (((w3.setCell ⟨w.heap.size + 1 + 1 + 1, 0, none⟩ (.bool false)).setCell ⟨w.heap.size + 1 + 1 + 1, 1, none⟩ (.slice none 0 0)).setCell ⟨w.heap.size + 1 + 1 + 1, 2, none⟩ (.slice none 0 0)) = w9
  intro h9 h9b
  obtain ⟨z0, z1, z2⟩ := row3 h9
  exact bodyPost_ret (v := .tuple #[.agg #[.bool false, .slice none 0 0, .slice none 0 0], .bool false]) (by simp [results, Tryz.results174, go_sem, z0, z1, z2]) rfl ⟨HW3.out.but.next h9b (fun k hk h => by omega), Or.inl ⟨HN.out, rfl⟩⟩
 ·obtain ⟨RR, hRR⟩ : ∃ RR, st.length - T.length = RR := ⟨_, rfl⟩
  rw [hRR] at HBT
  have hrest : (st.length : Int) - (T.length : Int) = (RR : Int) := by omega
  have hRl : RR + T.length ≤ st.length := by omega
  have HRR := hid hRR
  have hR0 : ¬ (RR : Int) < 0 := by omega
  clear hRR
  go_wp2_with fail
  go_loopg [13] T.length (fun mm is wr => ∃ k : Nat, is = .int .i64 k ∧ k ≤ T.length ∧ k + mm ≤ T.length ∧ T.length ≤ k + mm ∧ But (fun _ => False) w3 wr ∧ Hid (∀ i, i < k → suitsX cs (st.getD (RR + i) 0) (T.getD i 0) = true))
  case atStart => exact ⟨0, rfl, by omega, by omega, by omega, But.refl _ _, fun i hi => absurd hi (by omega)⟩
  case round =>
   obtain ⟨k, rfl, hk1, hk2, hk3, hBr, HA⟩ := hrel
   clear hk2
   have hWr := HW3.out.next hBr (fun _ _ h => h)
   have hsr := hs3.but hBr (fun _ _ h => h)
   have hlr := hl3.but hBr (fun _ _ h => h)
   have hAr := hA3.but hBr (fun _ _ h => h)
   have hgr := (hBr.block w1.heap.size hgl3 (fun h => h)).trans HG3.out
   have hzr := hBr.size
   have hglr := lt_of_block hgr
   clear b0 b1 b2 i0 i1 i2 i3 i4 r0 r1 r2 f0 f1 f2
   obtain ⟨b0, b1, b2⟩ := row3 hgr
   obtain ⟨i0, i1, i2, i3, i4⟩ := row5 hWr.item
   obtain ⟨r0, r1, r2⟩ := row3 hWr.res
   obtain ⟨f0, f1, f2⟩ := froz3 hWr.res
   have HWr := hid hWr
   have HGr := hid hgr
   clear hWr hgr
   by_cases hlt : k < T.length
   ·have hkn : (k : Int) < (T.length : Int) := by omega
    have hR1 : RR + k < st.length := by omega
    obtain ⟨gs, hgs, hgs1, _, hcs⟩ := owns_two hsr (by omega)
    obtain ⟨ga, hga, hga1, _, hca⟩ := owns_two hAr (by omega)
    have q1 := hcs _ _ (btCells_at hR1)
    have q2 := hca _ _ (btCells_at hlt)
    have hR2 : ((RR + k : Nat) : Int) < (st.length : Int) := by omega
    have hgs' : gs = gq := by have := Option.some.inj hgs; injection this with h; exact h.symm
    subst hgs' hga
    have HAN := hid (fun (h : suitsX cs (st.getD (RR + k) 0) (T.getD k 0) = true) => (fun i (hi : i < k + 1) => if hik : i = k then (by rw [hik]; exact h) else HA.out i (by omega) : ∀ i, i < k + 1 → suitsX cs (st.getD (RR + i) 0) (T.getD i 0) = true))
    have HAF := hid (fun (h : suitsX cs (st.getD (RR + k) 0) (T.getD k 0) = false) => (show suitAll cs st T = false from by
     unfold suitAll
     rw [List.all_eq_false]
     exact ⟨k, List.mem_range.2 hlt, by rw [HRR.out, h]; simp⟩))
    clear hcs hca HA
    revert q1 q2 HAN HAF
    generalize st.getD (RR + k) 0 = y
    generalize T.getD k 0 = z
    intro q1 q2 HAN HAF
    go_wp2_with fail
    have hS0 : But (fun _ => False) wr wr.drew := But.drew _ _
    have HSU := hid (xsuits_any b cs y z wr.drew hn ((hT.but HWr.out.but).but hS0))
    have hR3 : (RR : Int) + (k : Int) < (st.length : Int) := by omega
    have hR4 : (0 : Int) ≤ (RR : Int) + (k : Int) := by omega
    have hR5 : ((RR : Int) + (k : Int)).toNat = RR + k := by omega
    have hR6 : IntKind.i64.wrap ((RR : Int) + (k : Int)) = (RR : Int) + (k : Int) := wrapI _ (by omega) (by omega)
    refine wpTx_begin (But (fun _ => False) wr) 14 (by kernel_rfl) ?_
    have fSA := hid (fun wS (h : (But (fun _ => False) wr) wS) => (And.intro ((h.cell (p := ⟨w1.heap.size, 1, none⟩) hglr (fun h => h)).trans b1) (And.intro ((h.cell (p := ⟨gs, RR + k, none⟩) hgs1 (fun h => h)).trans q1) ((h.cell (p := ⟨ga, k, none⟩) hga1 (fun h => h)).trans q2))))
    refine wpTx_take (v := ?vA0) rfl (by kernel_rfl) ?qA0 rfl hS0 ?yA0 ?rA0
    case yA0 => intro wS h; obtain ⟨q0, q1, q2⟩ := fSA.out wS h; clear h; go_simp; try rfl
    case qA0 => exact fun _ _ _ h => h
    dsimp only [Act.put]
    try simp only [puts]
    refine wpTx_take (v := ?vA1) rfl (by kernel_rfl) ?qA1 rfl hS0 ?yA1 ?rA1
    case yA1 => intro wS h; obtain ⟨q0, q1, q2⟩ := fSA.out wS h; clear h; go_simp; try rfl
    case qA1 => exact fun _ _ _ h => h
    dsimp only [Act.put]
    try simp only [puts]
    refine wpTx_take (v := ?vA2) rfl (by kernel_rfl) ?qA2 rfl hS0 ?yA2 ?rA2
    case yA2 => intro wS h; obtain ⟨q0, q1, q2⟩ := fSA.out wS h; clear h; go_simp; try rfl
    case qA2 => exact fun _ _ _ h => h
    dsimp only [Act.put]
    try simp only [puts]
    refine wpTx_take (v := ?vA3) rfl (by kernel_rfl) ?qA3 rfl hS0 ?yA3 ?rA3
    case yA3 => intro wS h; obtain ⟨q0, q1, q2⟩ := fSA.out wS h; clear h; go_simp; try rfl
    case qA3 => exact fun _ _ _ h => h
    dsimp only [Act.put]
    try simp only [puts]
    refine wpTx_take (v := ?vA4) rfl (by kernel_rfl) ?qA4 rfl hS0 ?yA4 ?rA4
    case yA4 => intro wS h; obtain ⟨q0, q1, q2⟩ := fSA.out wS h; clear h; go_simp; try rfl
    case qA4 => exact fun _ _ _ h => h
    dsimp only [Act.put]
    try simp only [puts]
    refine wpTx_take (v := ?vA5) rfl (by kernel_rfl) ?qA5 rfl hS0 ?yA5 ?rA5
    case yA5 => intro wS h; obtain ⟨q0, q1, q2⟩ := fSA.out wS h; clear h; go_simp; try rfl
    case qA5 => exact fun _ _ _ h => h
    dsimp only [Act.put]
    try simp only [puts]
    refine wpTx_take (v := ?vA6) rfl (by kernel_rfl) ?qA6 rfl hS0 ?yA6 ?rA6
    case yA6 => intro wS h; obtain ⟨q0, q1, q2⟩ := fSA.out wS h; clear h; go_simp; try rfl
    case qA6 => exact fun _ _ _ h => h
    dsimp only [Act.put]
    try simp only [puts]
    refine wpTx_take (v := ?vA7) rfl (by kernel_rfl) ?qA7 rfl hS0 ?yA7 ?rA7
    case yA7 => intro wS h; obtain ⟨q0, q1, q2⟩ := fSA.out wS h; clear h; go_simp; try rfl
    case qA7 => exact fun _ _ _ h => h
    dsimp only [Act.put]
    try simp only [puts]
    refine wpTx_take (v := ?vA8) rfl (by kernel_rfl) ?qA8 rfl hS0 ?yA8 ?rA8
    case yA8 => intro wS h; obtain ⟨q0, q1, q2⟩ := fSA.out wS h; clear h; go_simp; try rfl
    case qA8 => exact fun _ _ _ h => h
    dsimp only [Act.put]
    try simp only [puts]
    refine wpTx_take (v := ?vA9) rfl (by kernel_rfl) ?qA9 rfl hS0 ?yA9 ?rA9
    case yA9 => intro wS h; obtain ⟨q0, q1, q2⟩ := fSA.out wS h; clear h; go_simp; try rfl
    case qA9 => exact fun _ _ _ h => h
    dsimp only [Act.put]
    try simp only [puts]
    refine wpTx_take (v := ?vA10) rfl (by kernel_rfl) ?qA10 rfl hS0 ?yA10 ?rA10
    case yA10 => intro wS h; obtain ⟨q0, q1, q2⟩ := fSA.out wS h; clear h; go_simp; try rfl
    case qA10 => exact fun _ _ _ h => h
    dsimp only [Act.put]
    try simp only [puts]
    refine wpTx_take (v := ?vA11) rfl (by kernel_rfl) ?qA11 rfl hS0 ?yA11 ?rA11
    case yA11 => intro wS h; obtain ⟨q0, q1, q2⟩ := fSA.out wS h; clear h; go_simp; try rfl
    case qA11 => exact fun _ _ _ h => h
    dsimp only [Act.put]
    try simp only [puts]
    try clear fSA
    refine wpTx_step (o := ?oA12) (rest := ?rsA12) ?hoA12 ?hrA12 ?stA12
    case hoA12 => rfl
    case hrA12 => kernel_rfl
    case' stA12 =>
    intro KS hKS
    go_simp
    refine HSU.out.mono ?_
    rintro en wx ⟨rfl, hwx⟩
    rw [hwx]
    clear hwx wx HSU
    refine hKS.out _ _ (fun _ => hS0) ?_
    clear hKS KS
    refine wpTx_step (o := ?oA13) (rest := ?rsA13) ?hoA13 ?hrA13 ?stA13
    case hoA13 => rfl
    case hrA13 => kernel_rfl
    case' stA13 =>
    intro KS hKS
    go_simp
    refine hKS.out _ _ (fun _ => hS0) ?_
    clear hKS KS
    refine wpTx_done rfl (by kernel_rfl) ?_
    have hWd := HWr.out.next hS0 (fun _ _ h => h)
    have hBd := hBr.trans hS0
    clear b0 b1 b2 i0 i1 i2 i3 i4 r0 r1 r2 f0 f1 f2 q1 q2
    revert hWd hBd
    generalize wr.drew = wd
    intro hWd hBd
    obtain ⟨r0, r1, r2⟩ := row3 hWd.res
    obtain ⟨f0, f1, f2⟩ := froz3 hWd.res
    revert HAN HAF
    cases suitsX cs y z with
    | true =>
     intro HAN HAF
     have HAN1 := hid (HAN.out rfl)
     clear HAN HAF
     go_wp2_with fail
     go_roundg (T.length - (k + 1))
     case measure => omega
     case rel => exact ⟨k + 1, by simp, by omega, by omega, by omega, hBd, HAN1.out⟩
    | false =>
     intro HAN HAF
     have hN : behX cs ms ⟨pl, op, ic, nu⟩ r st lo = none := by rw [HBT.out, if_pos (Or.inr (HAF.out rfl))]
     have HN := hid hN
     have HWd := hid hWd
     clear hN HBT HAN HAF hWd
     go_wp2_with fail
     have h9 := put3_heap HWd.out.res (.bool false) (.slice none 0 0) (.slice none 0 0)
     have h9b := put3_but wd (w.heap.size + 1 + 1 + 1) (.bool false) (.slice none 0 0) (.slice none 0 0)
     unfold put3 at h9 h9b
     revert h9 h9b
     generalize (((wd.setCell ⟨w.heap.size + 1 + 1 + 1, 0, none⟩ (.bool false)).setCell ⟨w.heap.size + 1 + 1 + 1, 1, none⟩ (.slice none 0 0)).setCell ⟨w.heap.size + 1 + 1 + 1, 2, none⟩ (.slice none 0 0)) = w9
     intro h9 h9b
     obtain ⟨z0, z1, z2⟩ := row3 h9
     exact bodyPost_ret (v := .tuple #[.agg #[.bool false, .slice none 0 0, .slice none 0 0], .bool false]) (by simp [results, Tryz.results174, go_sem, z0, z1, z2]) rfl ⟨HWd.out.but.next h9b (fun k hk h => by omega), Or.inl ⟨HN.out, rfl⟩⟩
   ·have hkn : ¬ (k : Int) < (T.length : Int) := by omega
    have hall : suitAll cs st T = true := by
     unfold suitAll
     rw [List.all_eq_true]
     intro i hi
     rw [HRR.out]
     exact HA.out i (by have := List.mem_range.1 hi; omega)
    have hB2 := HBT.out
    rw [if_neg (by rw [hall]; simp; omega)] at hB2
    have HB2 := hid hB2
    clear hall hB2 HBT HA
    by_cases h115 : op.toNat = 115
    ·have e115 : ((op.toNat : Int) == 115) = true := by rw [beq_iff_eq]; omega
     have hTpos := HT115.out h115
     by_cases hnu : nu < lo.length
     ·have hnI : (nu : Int) < (lo.length : Int) := by omega
      have hB3' := HB2.out
      rw [if_neg (fun h => h.2 hnu)] at hB3'
      simp only [if_pos h115] at hB3'
      have HB3 := hid hB3'
      have H115 := hid h115
      clear hB3' HB2 h115
      go_wp2_with fail
      obtain ⟨gl, hgl, hgl1, hgl2, hcl⟩ := owns_two hlr (by omega)
      subst hgl
      obtain ⟨cur, hcur⟩ := BtB.row hlr
      have fz := frozen_of_row wr gl nu _ _ hcur
      have ql := hcl _ _ (btCells_at hnu)
      obtain ⟨gs, hgs, hgs1, _, hcs⟩ := owns_two hsr (by omega)
      have hgs' : gs = gq := by have := Option.some.inj hgs; injection this with h; exact h.symm
      subst hgs'
      have hRs : RR < st.length := by omega
      have hRsI : (RR : Int) < (st.length : Int) := by omega
      have q1 := hcs _ _ (btCells_at hRs)
      have hlyz : laysX cs ms op ic nu (lo.set nu (st.getD RR 0)) = 0 := by simp [laysX, H115.out]
      have hB3' := HB3.out
      rw [hlyz] at hB3'
      simp only [show ¬ (op.toNat = 108 ∧ (0 : UInt8).toNat = 45) from fun h => by have := H115.out; omega, if_false, show (0 : UInt8).toNat = 0 from rfl, if_true, List.append_nil] at hB3'
      have HB4 := hid hB3'
      have HLZ := hid hlyz
      clear hB3' HB3 hlyz hcl hcs hcur hAr hgs
      revert q1 HB4 HLZ
      generalize st.getD RR 0 = y
      intro q1 HB4 HLZ
      have hS0 : But (fun _ => False) wr wr.drew := But.drew _ _
      have hllt' := hllt gl rfl
      have hgqG := hG2' gs rfl
      have hglge : G2 ≤ gl := hgl2
      have hglne : gl ≠ w.heap.size + 1 := by omega
      refine wpTx_begin (But (fun _ => False) wr) 9 (by kernel_rfl) ?_
      have fSB := hid (fun wS (h : (But (fun _ => False) wr) wS) => (And.intro ((h.cell (p := ⟨w1.heap.size, 1, none⟩) hglr (fun h => h)).trans b1) (And.intro ((h.cell (p := ⟨w1.heap.size, 2, none⟩) hglr (fun h => h)).trans b2) (And.intro ((h.cell (p := ⟨w.heap.size + 1, 3, none⟩) (lt_of_block HWr.out.item) (fun h => h)).trans i3) ((h.cell (p := ⟨gs, RR, none⟩) hgs1 (fun h => h)).trans q1)))))
      refine wpTx_take (v := ?vB0) rfl (by kernel_rfl) ?qB0 rfl hS0 ?yB0 ?rB0
      case yB0 => intro wS h; obtain ⟨q0, q1, q2, q3⟩ := fSB.out wS h; clear h; go_simp; try rfl
      case qB0 => exact fun _ _ _ h => h
      dsimp only [Act.put]
      try simp only [puts]
      refine wpTx_take (v := ?vB1) rfl (by kernel_rfl) ?qB1 rfl hS0 ?yB1 ?rB1
      case yB1 => intro wS h; obtain ⟨q0, q1, q2, q3⟩ := fSB.out wS h; clear h; go_simp; try rfl
      case qB1 => exact fun _ _ _ h => h
      dsimp only [Act.put]
      try simp only [puts]
      refine wpTx_take (v := ?vB2) rfl (by kernel_rfl) ?qB2 rfl hS0 ?yB2 ?rB2
      case yB2 => intro wS h; obtain ⟨q0, q1, q2, q3⟩ := fSB.out wS h; clear h; go_simp; try rfl
      case qB2 => exact fun _ _ _ h => h
      dsimp only [Act.put]
      try simp only [puts]
      refine wpTx_take (v := ?vB3) rfl (by kernel_rfl) ?qB3 rfl hS0 ?yB3 ?rB3
      case yB3 => intro wS h; obtain ⟨q0, q1, q2, q3⟩ := fSB.out wS h; clear h; go_simp; try rfl
      case qB3 => exact fun _ _ _ h => h
      dsimp only [Act.put]
      try simp only [puts]
      refine wpTx_take (v := ?vB4) rfl (by kernel_rfl) ?qB4 rfl hS0 ?yB4 ?rB4
      case yB4 => intro wS h; obtain ⟨q0, q1, q2, q3⟩ := fSB.out wS h; clear h; go_simp; try rfl
      case qB4 => exact fun _ _ _ h => h
      dsimp only [Act.put]
      try simp only [puts]
      refine wpTx_take (v := ?vB5) rfl (by kernel_rfl) ?qB5 rfl hS0 ?yB5 ?rB5
      case yB5 => intro wS h; obtain ⟨q0, q1, q2, q3⟩ := fSB.out wS h; clear h; go_simp; try rfl
      case qB5 => exact fun _ _ _ h => h
      dsimp only [Act.put]
      try simp only [puts]
      refine wpTx_take (v := ?vB6) rfl (by kernel_rfl) ?qB6 rfl hS0 ?yB6 ?rB6
      case yB6 => intro wS h; obtain ⟨q0, q1, q2, q3⟩ := fSB.out wS h; clear h; go_simp; try rfl
      case qB6 => exact fun _ _ _ h => h
      dsimp only [Act.put]
      try simp only [puts]
      refine wpTx_take (v := ?vB7) rfl (by kernel_rfl) ?qB7 rfl hS0 ?yB7 ?rB7
      case yB7 => intro wS h; obtain ⟨q0, q1, q2, q3⟩ := fSB.out wS h; clear h; go_simp; try rfl
      case qB7 => exact fun _ _ _ h => h
      dsimp only [Act.put]
      try simp only [puts]
      refine wpTx_take (v := ?vB8) rfl (by kernel_rfl) ?qB8 rfl hS0 ?yB8 ?rB8
      case yB8 => intro wS h; obtain ⟨q0, q1, q2, q3⟩ := fSB.out wS h; clear h; go_simp; try rfl
      case qB8 => exact fun _ _ _ h => h
      dsimp only [Act.put]
      try simp only [puts]
      try clear fSB
      refine wpTx_step (o := ?oB9) (rest := ?rsB9) ?hoB9 ?hrB9 ?stB9
      case hoB9 => rfl
      case hrB9 => kernel_rfl
      case' stB9 =>
      intro KS hKS
      go_simp
      refine hKS.out _ _ (fun h => absurd h (by decide)) ?_
      clear hKS KS
      refine wpTx_step (o := ?oB10) (rest := ?rsB10) ?hoB10 ?hrB10 ?stB10
      case hoB10 => rfl
      case hrB10 => kernel_rfl
      case' stB10 =>
      intro KS hKS
      go_simp
      refine hKS.out _ _ (fun h => absurd h (by decide)) ?_
      clear hKS KS
      refine wpTx_done rfl (by kernel_rfl) ?_
      have hBq : But (· = gl) wr (wr.setCell ⟨gl, nu, none⟩ (.int .u8 y.toNat)).drew := (But.setB _ _ _ _).trans (But.drew _ _)
      have hWq := HWr.out.next hBq (fun k hk h => by omega)
      have hsq := hsr.but hBq (fun g hg h => by have h2 : gs = g := Option.some.inj hg; omega)
      have hlq := (hlr.put (k := nu) y).but (But.drew (fun _ => False) _) (fun _ _ h => h)
      have hgq' := (hBq.block w1.heap.size hglr (by omega)).trans HGr.out
      clear b0 b1 b2 i0 i1 i2 i3 i4 r0 r1 r2 f0 f1 f2 hsr hlr HWr HGr fz ql q1
      revert hWq hsq hlq hgq'
      generalize (wr.setCell ⟨gl, nu, none⟩ (.int .u8 y.toNat)).drew = wq
      intro hWq hsq hlq hgq'
      obtain ⟨b0, b1, b2⟩ := row3 hgq'
      obtain ⟨i0, i1, i2, i3, i4⟩ := row5 hWq.item
      have hLOl : (lo.set nu y).length = lo.length := by simp
      have hglq := lt_of_block hgq'
      have hly := xlays_any (ap := none) (np := 0) (cp := 0) b cs ms pl nu op ic (some ⟨gl, 0, none⟩) c2 (lo.set nu y) wq hn hm (hT.but hWq.but) (hM.but hWq.but) (by rw [hLOl]; exact World.ownsRow.mono hlq (Nat.zero_le _))
      rw [hLOl, HLZ.out] at hly
      have HLY := hid hly
      have HLOl := hid hLOl
      have HWq := hid hWq
      have HGq := hid hgq'
      clear hly hLOl hWq hgq' HLZ
      go_wp2_with fail
      refine HLY.out.mono ?_
      rintro en w5 ⟨rfl, hB5⟩
      have hW5 := HWq.out.next hB5 (fun _ _ h => h)
      have hsr5 := hsq.but hB5 (fun _ _ h => h)
      have hlr5 := hlq.but hB5 (fun _ _ h => h)
      have hg5 := (hB5.block w1.heap.size hglq (fun h => h)).trans HGq.out
      have hgl5 := lt_of_block hg5
      clear b0 b1 b2 i0 i1 i2 i3 i4
      obtain ⟨b0, b1, b2⟩ := row3 hg5
      obtain ⟨e0, e1, e2⟩ := froz3 hg5
      obtain ⟨i0, i1, i2, i3, i4⟩ := row5 hW5.item
      obtain ⟨r0, r1, r2⟩ := row3 hW5.res
      obtain ⟨f0, f1, f2⟩ := froz3 hW5.res
      have HW5 := hid hW5
      have HG5 := hid hg5
      have e108 : ((op.toNat : Int) == 108) = false := by rw [beq_eq_false_iff_ne]; have := H115.out; omega
      clear hW5 hg5 HWq HGq e115
      have hcap := hsr5.cap
      have hcI : (RR : Int) ≤ (c1 : Int) := by omega
      have hB6 : But (· = w1.heap.size) w5 (w5.setCell ⟨w1.heap.size, 1, none⟩ (.slice (some ⟨gs, 0, none⟩) RR c1)) := But.setB w5 w1.heap.size 1 (.slice (some ⟨gs, 0, none⟩) RR c1)
      have hW6 := HW5.out.next hB6 (fun k hk h => by omega)
      have hPl : (st.take RR).length = RR := by simp; omega
      have hP5 := hsr5.pre (n := RR) (by omega)
      have hP6 := hP5.but hB6 (fun g hg h => by have := hslt g hg; omega)
      have hl6 := hlr5.but hB6 (fun g hg h => by have h2 : gl = g := Option.some.inj hg; omega)
      have HPl := hid hPl
      rw [hPl] at hP6
      have HP6 := hid hP6
      have HL6 := hid hl6
      have HW6 := hid hW6
      clear hB6 hW6 hP5 hP6 hl6 hPl
      go_wp2_with fail
      have h9 := put3_heap HW6.out.res (.bool true) (.slice (some ⟨gs, 0, none⟩) RR c1) (.slice (some ⟨gl, 0, none⟩) lo.length c2)
      have h9b := put3_but (w5.setCell ⟨w1.heap.size, 1, none⟩ (.slice (some ⟨gs, 0, none⟩) RR c1)) (w.heap.size + 1 + 1 + 1) (.bool true) (.slice (some ⟨gs, 0, none⟩) RR c1) (.slice (some ⟨gl, 0, none⟩) lo.length c2)
      unfold put3 at h9 h9b
      revert h9 h9b
      generalize ((((w5.setCell ⟨w1.heap.size, 1, none⟩ (.slice (some ⟨gs, 0, none⟩) RR c1)).setCell ⟨w.heap.size + 1 + 1 + 1, 0, none⟩ (.bool true)).setCell ⟨w.heap.size + 1 + 1 + 1, 1, none⟩ (.slice (some ⟨gs, 0, none⟩) RR c1)).setCell ⟨w.heap.size + 1 + 1 + 1, 2, none⟩ (.slice (some ⟨gl, 0, none⟩) lo.length c2)) = w9
      intro h9 h9b
      obtain ⟨z0, z1, z2⟩ := row3 h9
      refine bodyPost_ret (v := .tuple #[.agg #[.bool true, .slice (some ⟨gs, 0, none⟩) RR c1, .slice (some ⟨gl, 0, none⟩) lo.length c2], .bool true]) (by simp [results, Tryz.results174, go_sem, z0, z1, z2]) rfl ⟨HW6.out.but.next h9b (fun k hk h => by omega), Or.inr ⟨st.take RR, lo.set nu y, some ⟨gs, 0, none⟩, c1, some ⟨gl, 0, none⟩, c2, by rw [HB4.out, if_neg (fun h => absurd h.2 (by decide))], by rw [HPl.out, HLOl.out], ?_, ?_⟩⟩
      ·rw [HPl.out]
       exact BtB.but (World.ownsRow.mono HP6.out (by omega)) h9b (fun g hg h => by have := owns_ge HP6.out g hg; omega)
      ·rw [HLOl.out]
       exact BtB.but (World.ownsRow.mono HL6.out (by omega)) h9b (fun g hg h => by have h2 : gl = g := Option.some.inj hg; omega)
     ·have hnI : ¬ (nu : Int) < (lo.length : Int) := by omega
      have hN : behX cs ms ⟨pl, op, ic, nu⟩ r st lo = none := by rw [HB2.out, if_pos ⟨h115, hnu⟩]
      have HN := hid hN
      clear hN HB2 h115
      go_wp2_with fail
      have h9 := put3_heap HWr.out.res (.bool false) (.slice none 0 0) (.slice none 0 0)
      have h9b := put3_but wr (w.heap.size + 1 + 1 + 1) (.bool false) (.slice none 0 0) (.slice none 0 0)
      unfold put3 at h9 h9b
      revert h9 h9b
      generalize (((wr.setCell ⟨w.heap.size + 1 + 1 + 1, 0, none⟩ (.bool false)).setCell ⟨w.heap.size + 1 + 1 + 1, 1, none⟩ (.slice none 0 0)).setCell ⟨w.heap.size + 1 + 1 + 1, 2, none⟩ (.slice none 0 0)) = w9
      intro h9 h9b
      obtain ⟨z0, z1, z2⟩ := row3 h9
      exact bodyPost_ret (v := .tuple #[.agg #[.bool false, .slice none 0 0, .slice none 0 0], .bool false]) (by simp [results, Tryz.results174, go_sem, z0, z1, z2]) rfl ⟨HWr.out.but.next h9b (fun k hk h => by omega), Or.inl ⟨HN.out, rfl⟩⟩
    ·have e115 : ((op.toNat : Int) == 115) = false := by rw [beq_eq_false_iff_ne]; omega
     have hB3' := HB2.out
     rw [if_neg (fun h => h115 h.1)] at hB3'
     simp only [if_neg h115] at hB3'
     have HB3 := hid hB3'
     clear hB3' HB2
     go_wp2_with fail
     refine (xlays_any (ap := none) (np := 0) (cp := 0) b cs ms pl nu op ic a2 c2 lo wr hn hm (hT.but HWr.out.but) (hM.but HWr.out.but) (World.ownsRow.mono hlr (Nat.zero_le _))).mono ?_
     rintro en w5 ⟨rfl, hB5⟩
     obtain ⟨L, hL⟩ : ∃ L, laysX cs ms op ic nu lo = L := ⟨_, rfl⟩
     rw [hL]
     rw [hL] at HB3
     clear hL
     have hW5 := HWr.out.next hB5 (fun _ _ h => h)
     have hsr5 := hsr.but hB5 (fun _ _ h => h)
     have hlr5 := hlr.but hB5 (fun _ _ h => h)
     have hg5 := (hB5.block w1.heap.size hglr (fun h => h)).trans HGr.out
     have hgl5 := lt_of_block hg5
     clear b0 b1 b2 i0 i1 i2 i3 i4 r0 r1 r2 f0 f1 f2 hsr hlr hAr
     obtain ⟨b0, b1, b2⟩ := row3 hg5
     obtain ⟨e0, e1, e2⟩ := froz3 hg5
     obtain ⟨i0, i1, i2, i3, i4⟩ := row5 hW5.item
     obtain ⟨r0, r1, r2⟩ := row3 hW5.res
     obtain ⟨f0, f1, f2⟩ := froz3 hW5.res
     have HW5 := hid hW5
     have HG5 := hid hg5
     clear hW5 hg5 HWr HGr
     by_cases h108 : op.toNat = 108
     ·have e108 : ((op.toNat : Int) == 108) = true := by rw [beq_iff_eq]; omega
      by_cases h45 : L.toNat = 45
      ·have eL : ((L.toNat : Int) == 45) = true := by rw [beq_iff_eq]; omega
       have hN : behX cs ms ⟨pl, op, ic, nu⟩ r st lo = none := by rw [HB3.out, if_pos ⟨h108, h45⟩]
       have HN := hid hN
       clear hN HB3 h108 h45 h115
       go_wp2_with fail
       have h9 := put3_heap HW5.out.res (.bool false) (.slice none 0 0) (.slice none 0 0)
       have h9b := put3_but w5 (w.heap.size + 1 + 1 + 1) (.bool false) (.slice none 0 0) (.slice none 0 0)
       unfold put3 at h9 h9b
       revert h9 h9b
       generalize (((w5.setCell ⟨w.heap.size + 1 + 1 + 1, 0, none⟩ (.bool false)).setCell ⟨w.heap.size + 1 + 1 + 1, 1, none⟩ (.slice none 0 0)).setCell ⟨w.heap.size + 1 + 1 + 1, 2, none⟩ (.slice none 0 0)) = w9
       intro h9 h9b
       obtain ⟨z0, z1, z2⟩ := row3 h9
       exact bodyPost_ret (v := .tuple #[.agg #[.bool false, .slice none 0 0, .slice none 0 0], .bool false]) (by simp [results, Tryz.results174, go_sem, z0, z1, z2]) rfl ⟨HW5.out.but.next h9b (fun k hk h => by omega), Or.inl ⟨HN.out, rfl⟩⟩
      ·have eL : ((L.toNat : Int) == 45) = false := by rw [beq_eq_false_iff_ne]; omega
       have hB4 := HB3.out
       rw [if_neg (fun h => h45 h.2)] at hB4
       have HB4 := hid hB4
       clear hB4 h108 h45 h115
       have hcap := hsr5.cap
       have hcI : (RR : Int) ≤ (c1 : Int) := by omega
       have hB6 : But (· = w1.heap.size) w5 (w5.setCell ⟨w1.heap.size, 1, none⟩ (.slice (some ⟨gq, 0, none⟩) RR c1)) := But.setB w5 w1.heap.size 1 (.slice (some ⟨gq, 0, none⟩) RR c1)
       have hW6 := HW5.out.next hB6 (fun k hk h => by omega)
       have hg6 := heap_setCell_same w5 w1.heap.size 1 _ _ (.slice (some ⟨gq, 0, none⟩) RR c1) HG5.out
       have hPl : (st.take RR).length = RR := by simp; omega
       have hP5 := hsr5.pre (n := RR) (by omega)
       have hP6 := hP5.but hB6 (fun g hg h => by have := hslt g hg; omega)
       have hl6 := hlr5.but hB6 (fun g hg h => by have := hllt g hg; omega)
       have hz6 : (w5.setCell ⟨w1.heap.size, 1, none⟩ (.slice (some ⟨gq, 0, none⟩) RR c1)).heap.size = w5.heap.size := size_setCell _ _ _
       have HPl := hid hPl
       rw [hPl] at hP6
       have HP6 := hid hP6
       have HL6 := hid hl6
       have HW6 := hid hW6
       have HG6 := hid hg6
       have HB6 := hid hB6
       have HZ6 := hid hz6
       have hz5 := lt_of_block HG5.out
       clear hB6 hW6 hg6 hP5 hP6 hl6 hPl hz6 HB3
       by_cases hL0 : L.toNat = 0
       ·have eL0 : ((L.toNat : Int) == 0) = true := by rw [beq_iff_eq]; omega
        have eL0' : ((L.toNat : Int) != 0) = false := by simp [bne, eL0]
        have eL02 : (L.toNat : Int) = 0 := by omega
        have EL02 := hid eL02
        clear eL02
        have HLL0 := hid hL0
        clear hL0
        go_wp2_with fail
        have h9 := put3_heap HW6.out.res (.bool true) (.slice (some ⟨gq, 0, none⟩) RR c1) (.slice a2 lo.length c2)
        have h9b := put3_but (w5.setCell ⟨w1.heap.size, 1, none⟩ (.slice (some ⟨gq, 0, none⟩) RR c1)) (w.heap.size + 1 + 1 + 1) (.bool true) (.slice (some ⟨gq, 0, none⟩) RR c1) (.slice a2 lo.length c2)
        unfold put3 at h9 h9b
        revert h9 h9b
        generalize ((((w5.setCell ⟨w1.heap.size, 1, none⟩ (.slice (some ⟨gq, 0, none⟩) RR c1)).setCell ⟨w.heap.size + 1 + 1 + 1, 0, none⟩ (.bool true)).setCell ⟨w.heap.size + 1 + 1 + 1, 1, none⟩ (.slice (some ⟨gq, 0, none⟩) RR c1)).setCell ⟨w.heap.size + 1 + 1 + 1, 2, none⟩ (.slice a2 lo.length c2)) = w9
        intro h9 h9b
        obtain ⟨z0, z1, z2⟩ := row3 h9
        refine bodyPost_ret (v := .tuple #[.agg #[.bool true, .slice (some ⟨gq, 0, none⟩) RR c1, .slice a2 lo.length c2], .bool true]) (by simp [results, Tryz.results174, go_sem, z0, z1, z2]) rfl ⟨HW6.out.but.next h9b (fun k hk h => by omega), Or.inr ⟨st.take RR, lo, some ⟨gq, 0, none⟩, c1, a2, c2, by rw [HB4.out, if_pos HLL0.out, List.append_nil], by rw [HPl.out], ?_, ?_⟩⟩
        ·rw [HPl.out]
         exact BtB.but (World.ownsRow.mono HP6.out (by omega)) h9b (fun g hg h => by have := owns_ge HP6.out g hg; omega)
        ·exact BtB.but (World.ownsRow.mono HL6.out (by omega)) h9b (fun g hg h => by have := owns_ge HL6.out g hg; omega)
       ·have eL0 : ((L.toNat : Int) == 0) = false := by rw [beq_eq_false_iff_ne]; omega
        have eL0' : ((L.toNat : Int) != 0) = true := by simp [bne, eL0]
        have eL02 : ¬ (L.toNat : Int) = 0 := by omega
        have HLL0 := hid hL0
        clear hL0
        have hO6 : (w5.setCell ⟨w1.heap.size, 1, none⟩ (.slice (some ⟨gq, 0, none⟩) RR c1)).ownsRow (w.heap.size + 1 + 1 + 1 + 1) 5 1 (.slice (some ⟨gq, 0, none⟩) RR c1) RR (btCells (st.take RR)) := by
         have := HP6.out
         unfold BtB at this
         rw [HPl.out] at this
         exact this
        have HO6 := hid hO6
        clear hO6
        go_wp2_with (at_builtin; refine wpList_append_lies _ rfl _ _ _ rfl (w.heap.size + 1 + 1 + 1 + 1) 5 t0 _ 1 1 (by kernel_rfl) ht0 ht1 ht2 ht3 rfl (by omega) _ RR (btCells (st.take RR)) rfl (HO6.out.alloc _) ⟨w5.heap.size, 0, none⟩ 1 1 [.int .u8 L.toNat] rfl rfl (World.news_of_block (cs := #[.int .u8 L.toNat]) (t := 5) (fr := (0, 0)) (heap_alloc_at HZ6.out _)) (by simp [Value.oneCell']) (by omega) (by unfold maxLen; omega) (by omega) (by simp; omega) (w5.heap.size + 1) (by simp) ?_)
        intro gg cap3 w7 hown2 hgrow hat hlt2
        have hSW : But (fun k' => (Value.slice (some ⟨gq, 0, none⟩) RR c1).ownBlock = some k') (w5.setCell ⟨w1.heap.size, 1, none⟩ (.slice (some ⟨gq, 0, none⟩) RR c1)) w7 := (But.alloc _ _ _).trans (but_grown hgrow)
        have hF : ∀ k, k ≠ gq → ¬ (Value.slice (some ⟨gq, 0, none⟩) RR c1).ownBlock = some k := fun k hk h => hk (by injection h with h; exact h.symm)
        have hgqlt := hslt gq rfl
        have hgqge := owns_ge HP6.out gq rfl
        have hW7 := HW6.out.next hSW (fun k hk => hF k (by omega))
        have hg7 := (hSW.block w1.heap.size (lt_of_block HG6.out) (hF _ (by omega))).trans HG6.out
        have hl7 := HL6.out.but hSW (fun g hg => hF g (fun h => by have h1 := owns_ge HL6.out g hg; have h2 := hG2' gq rfl; omega))
        have hgg := owns_ge hown2 gg rfl
        have hggn : gg ≠ w1.heap.size := fun h => by
         rcases hat with h' | h'
         ·have h2 : gq = gg := Option.some.inj h'
          omega
         ·omega
        clear b0 b1 b2 e0 e1 e2 r0 r1 r2 f0 f1 f2
        obtain ⟨b0, b1, b2⟩ := row3 hg7
        obtain ⟨e0, e1, e2⟩ := froz3 hg7
        obtain ⟨r0, r1, r2⟩ := row3 hW7.res
        obtain ⟨f0, f1, f2⟩ := froz3 hW7.res
        have hB8 : But (· = w1.heap.size) w7 (w7.setCell ⟨w1.heap.size, 1, none⟩ (.slice (some ⟨gg, 0, none⟩) (RR + 1) cap3)) := But.setB w7 w1.heap.size 1 (.slice (some ⟨gg, 0, none⟩) (RR + 1) cap3)
        have hW8 := hW7.next hB8 (fun k hk h => by omega)
        have hl8 := hl7.but hB8 (fun g hg h => by have := hllt g hg; omega)
        have hP8 : BtB (w7.setCell ⟨w1.heap.size, 1, none⟩ (.slice (some ⟨gg, 0, none⟩) (RR + 1) cap3)) (w.heap.size + 1 + 1 + 1 + 1) (.slice (some ⟨gg, 0, none⟩) (st.take RR ++ [L]).length cap3) (st.take RR ++ [L]) := by
         unfold BtB
         rw [List.length_append, HPl.out, btCells, List.map_append]
         exact owns_but hown2 hB8 (fun g hg h => by simp [Value.ownBlock] at hg; omega)
        have HW8 := hid hW8
        have HL8 := hid hl8
        have HP8 := hid hP8
        have hgt7 := hW7.gt
        have hgl7 := lt_of_block hg7
        clear hW7 hg7 hl7 hSW hgrow hown2 hat hB8 hW8 hl8 hP8 hF
        go_wp2_with fail
        have h9 := put3_heap HW8.out.res (.bool true) (.slice (some ⟨gg, 0, none⟩) (RR + 1) cap3) (.slice a2 lo.length c2)
        have h9b := put3_but (w7.setCell ⟨w1.heap.size, 1, none⟩ (.slice (some ⟨gg, 0, none⟩) (RR + 1) cap3)) (w.heap.size + 1 + 1 + 1) (.bool true) (.slice (some ⟨gg, 0, none⟩) (RR + 1) cap3) (.slice a2 lo.length c2)
        unfold put3 at h9 h9b
        revert h9 h9b
        generalize ((((w7.setCell ⟨w1.heap.size, 1, none⟩ (.slice (some ⟨gg, 0, none⟩) (RR + 1) cap3)).setCell ⟨w.heap.size + 1 + 1 + 1, 0, none⟩ (.bool true)).setCell ⟨w.heap.size + 1 + 1 + 1, 1, none⟩ (.slice (some ⟨gg, 0, none⟩) (RR + 1) cap3)).setCell ⟨w.heap.size + 1 + 1 + 1, 2, none⟩ (.slice a2 lo.length c2)) = w9
        intro h9 h9b
        obtain ⟨z0, z1, z2⟩ := row3 h9
        have hSl : (st.take RR ++ [L]).length = RR + 1 := by rw [List.length_append, HPl.out]; rfl
        refine bodyPost_ret (v := .tuple #[.agg #[.bool true, .slice (some ⟨gg, 0, none⟩) (RR + 1) cap3, .slice a2 lo.length c2], .bool true]) (by simp [results, Tryz.results174, go_sem, z0, z1, z2]) rfl ⟨HW8.out.but.next h9b (fun k hk h => by omega), Or.inr ⟨st.take RR ++ [L], lo, some ⟨gg, 0, none⟩, cap3, a2, c2, by rw [HB4.out, if_neg HLL0.out], by rw [hSl], ?_, ?_⟩⟩
        ·exact BtB.but (World.ownsRow.mono HP8.out (by omega)) h9b (fun g hg h => by have := owns_ge HP8.out g hg; omega)
        ·exact BtB.but (World.ownsRow.mono HL8.out (by omega)) h9b (fun g hg h => by have := owns_ge HL8.out g hg; omega)
     ·have e108 : ((op.toNat : Int) == 108) = false := by rw [beq_eq_false_iff_ne]; omega
      have hB4 := HB3.out
      rw [if_neg (fun h => h108 h.1)] at hB4
      have HB4 := hid hB4
      clear hB4 h108 h115
      have hcap := hsr5.cap
      have hcI : (RR : Int) ≤ (c1 : Int) := by omega
      have hB6 : But (· = w1.heap.size) w5 (w5.setCell ⟨w1.heap.size, 1, none⟩ (.slice (some ⟨gq, 0, none⟩) RR c1)) := But.setB w5 w1.heap.size 1 (.slice (some ⟨gq, 0, none⟩) RR c1)
      have hW6 := HW5.out.next hB6 (fun k hk h => by omega)
      have hg6 := heap_setCell_same w5 w1.heap.size 1 _ _ (.slice (some ⟨gq, 0, none⟩) RR c1) HG5.out
      have hPl : (st.take RR).length = RR := by simp; omega
      have hP5 := hsr5.pre (n := RR) (by omega)
      have hP6 := hP5.but hB6 (fun g hg h => by have := hslt g hg; omega)
      have hl6 := hlr5.but hB6 (fun g hg h => by have := hllt g hg; omega)
      have hz6 : (w5.setCell ⟨w1.heap.size, 1, none⟩ (.slice (some ⟨gq, 0, none⟩) RR c1)).heap.size = w5.heap.size := size_setCell _ _ _
      have HPl := hid hPl
      rw [hPl] at hP6
      have HP6 := hid hP6
      have HL6 := hid hl6
      have HW6 := hid hW6
      have HG6 := hid hg6
      have HB6 := hid hB6
      have HZ6 := hid hz6
      have hz5 := lt_of_block HG5.out
      clear hB6 hW6 hg6 hP5 hP6 hl6 hPl hz6 HB3
      by_cases hL0 : L.toNat = 0
      ·have eL0 : ((L.toNat : Int) == 0) = true := by rw [beq_iff_eq]; omega
       have eL0' : ((L.toNat : Int) != 0) = false := by simp [bne, eL0]
       have eL02 : (L.toNat : Int) = 0 := by omega
       have EL02 := hid eL02
       clear eL02
       have HLL0 := hid hL0
       clear hL0
       go_wp2_with fail
       have h9 := put3_heap HW6.out.res (.bool true) (.slice (some ⟨gq, 0, none⟩) RR c1) (.slice a2 lo.length c2)
       have h9b := put3_but (w5.setCell ⟨w1.heap.size, 1, none⟩ (.slice (some ⟨gq, 0, none⟩) RR c1)) (w.heap.size + 1 + 1 + 1) (.bool true) (.slice (some ⟨gq, 0, none⟩) RR c1) (.slice a2 lo.length c2)
       unfold put3 at h9 h9b
       revert h9 h9b
       generalize ((((w5.setCell ⟨w1.heap.size, 1, none⟩ (.slice (some ⟨gq, 0, none⟩) RR c1)).setCell ⟨w.heap.size + 1 + 1 + 1, 0, none⟩ (.bool true)).setCell ⟨w.heap.size + 1 + 1 + 1, 1, none⟩ (.slice (some ⟨gq, 0, none⟩) RR c1)).setCell ⟨w.heap.size + 1 + 1 + 1, 2, none⟩ (.slice a2 lo.length c2)) = w9
       intro h9 h9b
       obtain ⟨z0, z1, z2⟩ := row3 h9
       refine bodyPost_ret (v := .tuple #[.agg #[.bool true, .slice (some ⟨gq, 0, none⟩) RR c1, .slice a2 lo.length c2], .bool true]) (by simp [results, Tryz.results174, go_sem, z0, z1, z2]) rfl ⟨HW6.out.but.next h9b (fun k hk h => by omega), Or.inr ⟨st.take RR, lo, some ⟨gq, 0, none⟩, c1, a2, c2, by rw [HB4.out, if_pos HLL0.out, List.append_nil], by rw [HPl.out], ?_, ?_⟩⟩
       ·rw [HPl.out]
        exact BtB.but (World.ownsRow.mono HP6.out (by omega)) h9b (fun g hg h => by have := owns_ge HP6.out g hg; omega)
       ·exact BtB.but (World.ownsRow.mono HL6.out (by omega)) h9b (fun g hg h => by have := owns_ge HL6.out g hg; omega)
      ·have eL0 : ((L.toNat : Int) == 0) = false := by rw [beq_eq_false_iff_ne]; omega
       have eL0' : ((L.toNat : Int) != 0) = true := by simp [bne, eL0]
       have eL02 : ¬ (L.toNat : Int) = 0 := by omega
       have HLL0 := hid hL0
       clear hL0
       have hO6 : (w5.setCell ⟨w1.heap.size, 1, none⟩ (.slice (some ⟨gq, 0, none⟩) RR c1)).ownsRow (w.heap.size + 1 + 1 + 1 + 1) 5 1 (.slice (some ⟨gq, 0, none⟩) RR c1) RR (btCells (st.take RR)) := by
        have := HP6.out
        unfold BtB at this
        rw [HPl.out] at this
        exact this
       have HO6 := hid hO6
       clear hO6
       go_wp2_with (at_builtin; refine wpList_append_lies _ rfl _ _ _ rfl (w.heap.size + 1 + 1 + 1 + 1) 5 t0 _ 1 1 (by kernel_rfl) ht0 ht1 ht2 ht3 rfl (by omega) _ RR (btCells (st.take RR)) rfl (HO6.out.alloc _) ⟨w5.heap.size, 0, none⟩ 1 1 [.int .u8 L.toNat] rfl rfl (World.news_of_block (cs := #[.int .u8 L.toNat]) (t := 5) (fr := (0, 0)) (heap_alloc_at HZ6.out _)) (by simp [Value.oneCell']) (by omega) (by unfold maxLen; omega) (by omega) (by simp; omega) (w5.heap.size + 1) (by simp) ?_)
       intro gg cap3 w7 hown2 hgrow hat hlt2
       have hSW : But (fun k' => (Value.slice (some ⟨gq, 0, none⟩) RR c1).ownBlock = some k') (w5.setCell ⟨w1.heap.size, 1, none⟩ (.slice (some ⟨gq, 0, none⟩) RR c1)) w7 := (But.alloc _ _ _).trans (but_grown hgrow)
       have hF : ∀ k, k ≠ gq → ¬ (Value.slice (some ⟨gq, 0, none⟩) RR c1).ownBlock = some k := fun k hk h => hk (by injection h with h; exact h.symm)
       have hgqlt := hslt gq rfl
       have hgqge := owns_ge HP6.out gq rfl
       have hW7 := HW6.out.next hSW (fun k hk => hF k (by omega))
       have hg7 := (hSW.block w1.heap.size (lt_of_block HG6.out) (hF _ (by omega))).trans HG6.out
       have hl7 := HL6.out.but hSW (fun g hg => hF g (fun h => by have h1 := owns_ge HL6.out g hg; have h2 := hG2' gq rfl; omega))
       have hgg := owns_ge hown2 gg rfl
       have hggn : gg ≠ w1.heap.size := fun h => by
        rcases hat with h' | h'
        ·have h2 : gq = gg := Option.some.inj h'
         omega
        ·omega
       clear b0 b1 b2 e0 e1 e2 r0 r1 r2 f0 f1 f2
       obtain ⟨b0, b1, b2⟩ := row3 hg7
       obtain ⟨e0, e1, e2⟩ := froz3 hg7
       obtain ⟨r0, r1, r2⟩ := row3 hW7.res
       obtain ⟨f0, f1, f2⟩ := froz3 hW7.res
       have hB8 : But (· = w1.heap.size) w7 (w7.setCell ⟨w1.heap.size, 1, none⟩ (.slice (some ⟨gg, 0, none⟩) (RR + 1) cap3)) := But.setB w7 w1.heap.size 1 (.slice (some ⟨gg, 0, none⟩) (RR + 1) cap3)
       have hW8 := hW7.next hB8 (fun k hk h => by omega)
       have hl8 := hl7.but hB8 (fun g hg h => by have := hllt g hg; omega)
       have hP8 : BtB (w7.setCell ⟨w1.heap.size, 1, none⟩ (.slice (some ⟨gg, 0, none⟩) (RR + 1) cap3)) (w.heap.size + 1 + 1 + 1 + 1) (.slice (some ⟨gg, 0, none⟩) (st.take RR ++ [L]).length cap3) (st.take RR ++ [L]) := by
        unfold BtB
        rw [List.length_append, HPl.out, btCells, List.map_append]
        exact owns_but hown2 hB8 (fun g hg h => by simp [Value.ownBlock] at hg; omega)
       have HW8 := hid hW8
       have HL8 := hid hl8
       have HP8 := hid hP8
       have hgt7 := hW7.gt
       have hgl7 := lt_of_block hg7
       clear hW7 hg7 hl7 hSW hgrow hown2 hat hB8 hW8 hl8 hP8 hF
       go_wp2_with fail
       have h9 := put3_heap HW8.out.res (.bool true) (.slice (some ⟨gg, 0, none⟩) (RR + 1) cap3) (.slice a2 lo.length c2)
       have h9b := put3_but (w7.setCell ⟨w1.heap.size, 1, none⟩ (.slice (some ⟨gg, 0, none⟩) (RR + 1) cap3)) (w.heap.size + 1 + 1 + 1) (.bool true) (.slice (some ⟨gg, 0, none⟩) (RR + 1) cap3) (.slice a2 lo.length c2)
       unfold put3 at h9 h9b
       revert h9 h9b
       generalize ((((w7.setCell ⟨w1.heap.size, 1, none⟩ (.slice (some ⟨gg, 0, none⟩) (RR + 1) cap3)).setCell ⟨w.heap.size + 1 + 1 + 1, 0, none⟩ (.bool true)).setCell ⟨w.heap.size + 1 + 1 + 1, 1, none⟩ (.slice (some ⟨gg, 0, none⟩) (RR + 1) cap3)).setCell ⟨w.heap.size + 1 + 1 + 1, 2, none⟩ (.slice a2 lo.length c2)) = w9
       intro h9 h9b
       obtain ⟨z0, z1, z2⟩ := row3 h9
       have hSl : (st.take RR ++ [L]).length = RR + 1 := by rw [List.length_append, HPl.out]; rfl
       refine bodyPost_ret (v := .tuple #[.agg #[.bool true, .slice (some ⟨gg, 0, none⟩) (RR + 1) cap3, .slice a2 lo.length c2], .bool true]) (by simp [results, Tryz.results174, go_sem, z0, z1, z2]) rfl ⟨HW8.out.but.next h9b (fun k hk h => by omega), Or.inr ⟨st.take RR ++ [L], lo, some ⟨gg, 0, none⟩, cap3, a2, c2, by rw [HB4.out, if_neg HLL0.out], by rw [hSl], ?_, ?_⟩⟩
       ·exact BtB.but (World.ownsRow.mono HP8.out (by omega)) h9b (fun g hg h => by have := owns_ge HP8.out g hg; omega)
       ·exact BtB.but (World.ownsRow.mono HL8.out (by omega)) h9b (fun g hg h => by have := owns_ge HL8.out g hg; omega)
end Go.Proofs.YtpfkkmacakjmbaaGreatDoor
