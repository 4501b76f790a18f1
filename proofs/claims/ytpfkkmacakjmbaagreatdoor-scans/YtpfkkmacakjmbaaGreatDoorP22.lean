import Derived.Test.YtpfkkmacakjmbaaGreatDoorP21
import Derived.Test.YtpfkkmacakjmbaaGreatDoorP01
import Derived.Test.YtpfkkmacakjmbaaGreatDoorP02
set_option maxRecDepth 100000
set_option maxHeartbeats 6400000
namespace Go.Proofs.YtpfkkmacakjmbaaGreatDoor
open Go Go.RowKit Sp
set_option linter.unusedSimpArgs false
set_option linter.unusedVariables false
attribute [local go_sem ↓] Go.wp_at_zero Go.wp_at_succ
def BodC (Gd : Prop) (s : ByteArray) (cs : List Cls) (gs : List Sig) (R : Except Nat (List Bod × Nat)) (mm : Nat) (bs : List XBod) (j : Nat) (bad : Bool) : Prop :=
 (bad = false ∧ Gd ∧ ∃ BS, bs = BS.map (toXB gs) ∧ (∀ b ∈ BS, SideB b) ∧ BS.length + mm = 6 ∧ bodP s cs gs mm BS j = R) ∨ (bad = true ∧ R = .error j)
section
variable {Gd : Prop} {s : ByteArray} {cs : List Cls} {gs : List Sig} {R : Except Nat (List Bod × Nat)}
theorem bodP_step {k : Nat} {BS : List Bod} {i : Nat} (h : (pk s i).toNat ≠ 59) : bodP s cs gs (k + 1) BS i = match headP s cs.length gs BS i with
  | .error j => .error j
  | .ok ((x, m, t), p) =>
   match codeP s cs gs.length (t.length + 2) 100 [] p with
   | .error q => .error q
   | .ok (is, q) => bodP s cs gs k (BS ++ [⟨x, m, UInt8.ofNat (65 + x) :: argOf gs m :: t, is⟩]) q := by
 unfold headP
 rw [bodP, if_neg h]
 cases letP s cs.length i with
 | error j => rfl
 | ok y =>
  obtain ⟨x, j⟩ := y
  simp only
  cases digP s gs.length j with
  | error l => rfl
  | ok z =>
   obtain ⟨m, l⟩ := z
   simp only
   split
   ·rfl
   ·cases tys s cs.length 58 3 [] l with
    | error p => rfl
    | ok t =>
     obtain ⟨t, p⟩ := t
     simp only
     cases codeP s cs gs.length (t.length + 2) 100 [] p <;> rfl
theorem BodC.fin {mm : Nat} {bs : List XBod} {j : Nat} {bad : Bool} (h : BodC Gd s cs gs R mm bs j bad) (hx : ¬ bs.length < 6 ∨ (!bad && !decide (pk s j = 59)) = false) :
  ((tkP s 59 j bad).2 = false ∧ Gd ∧ ∃ BS, R = .ok (BS, (tkP s 59 j bad).1) ∧ bs = BS.map (toXB gs) ∧ ∀ b ∈ BS, SideB b) ∨ ((tkP s 59 j bad).2 = true ∧ R = .error (tkP s 59 j bad).1) := by
 rcases h with ⟨rfl, hG, BS, h1, h2, h3, h4⟩ | ⟨rfl, h2⟩
 ·by_cases hp : pk s j = 59
  ·left
   rw [tkP_ok hp]
   refine ⟨rfl, hG, BS, ?_, h1, h2⟩
   rw [← h4]
   cases mm <;> simp [bodP, hp]
  ·right
   rw [tkP_no (Or.inr hp)]
   refine ⟨rfl, ?_⟩
   have hm : mm = 0 := by
    rcases hx with h | h
    ·rw [h1, List.length_map] at h; omega
    ·simp [hp] at h
   subst hm
   rw [← h4]
   have : (pk s j).toNat ≠ 59 := fun h => hp ((u8n (by decide)).1 h)
   simp [bodP, this]
 ·right
  rw [tkP_no (Or.inl rfl)]
  exact ⟨rfl, h2⟩
theorem methX_arg {m : Nat} (h : m < gs.length) : (methX gs m).arg = argOf gs m := by
 unfold methX argOf
 rw [List.getElem?_eq_getElem h]
 rfl
theorem BodC.next {mm : Nat} {bs : List XBod} {j : Nat} (h : BodC Gd s cs gs R mm bs j false) (hnc : cs.length ≤ 4) (hl : bs.length < 6) (hp : pk s j ≠ 59) :
  Gd ∧ ∃ BS, bs = BS.map (toXB gs) ∧ (∀ b ∈ BS, SideB b) ∧ BS.length ≤ 6 ∧ ∀ c m r l j1 bad1, ((bad1 = false ∧ ∃ x t, headP s cs.length gs BS j = .ok ((x, m, t), j1) ∧ c = UInt8.ofNat (65 + x) ∧ x < cs.length ∧ m < gs.length ∧ r = (methX gs m).ret ∧ l = c :: (methX gs m).arg :: t) ∨ (bad1 = true ∧ headP s cs.length gs BS j = .error j1)) →
   ∀ X j2 bad2, ((bad2 = false ∧ ∃ is, codeB s cs gs.length l.length j1 bad1 = .ok (is, j2) ∧ X = ⟨c, m, r, l, is.map toXI⟩) ∨ (bad2 = true ∧ codeB s cs gs.length l.length j1 bad1 = .error j2)) →
   ∃ m', m' < mm ∧ BodC Gd s cs gs R m' (bs ++ [X]) j2 bad2 := by
 rcases h with ⟨_, hG, BS, h1, h2, h3, h4⟩ | ⟨h, _⟩
 ·have hlb : BS.length < 6 := by rw [h1, List.length_map] at hl; exact hl
  refine ⟨hG, BS, h1, h2, by omega, ?_⟩
  intro c m r l j1 bad1 hh X j2 bad2 hc
  obtain ⟨f, rfl⟩ : ∃ f, mm = f + 1 := ⟨mm - 1, by omega⟩
  have hne : (pk s j).toNat ≠ 59 := fun h => hp ((u8n (by decide)).1 h)
  rw [bodP_step hne] at h4
  rcases hh with ⟨rfl, x, t, e1, e2, e3, e4, e5, e6⟩ | ⟨rfl, e1⟩
  ·rw [e1] at h4
   simp only at h4
   unfold codeB at hc
   simp only [Bool.false_eq_true, if_false] at hc
   rw [show l.length = t.length + 2 from by rw [e6]; rfl] at hc
   rcases hc with ⟨rfl, is, c1, c2⟩ | ⟨rfl, c1⟩
   ·rw [c1] at h4
    refine ⟨f, by omega, Or.inl ⟨rfl, hG, BS ++ [⟨x, m, UInt8.ofNat (65 + x) :: argOf gs m :: t, is⟩], ?_, ?_, by simp; omega, h4⟩⟩
    ·rw [h1, List.map_append, c2]
     simp only [List.map_cons, List.map_nil, toXB]
     congr 2
     rw [e6, e5, e2, methX_arg e4]
     have hx0 : ¬ ((x : Int) < 0) := by omega
     simp [hx0]
    ·intro b hb
     rcases List.mem_append.1 hb with hb | hb
     ·exact h2 b hb
     ·simp at hb
      subst hb
      exact ⟨by simp, by simp; omega, by simp⟩
   ·rw [c1] at h4
    exact ⟨0, by omega, Or.inr ⟨rfl, h4.symm⟩⟩
  ·rw [e1] at h4
   simp only at h4
   unfold codeB at hc
   simp only [if_true] at hc
   rcases hc with ⟨_, is, c1, _⟩ | ⟨rfl, c1⟩
   ·cases c1
   ·cases c1
    exact ⟨0, by omega, Or.inr ⟨rfl, h4.symm⟩⟩
 ·cases h
end
theorem TbV.apart {w : World} {base : Nat} {v : Value} {bs : List XBod} (h : TbV w base v bs) {g e : Nat} {cur : Array Value} (hh : w.heap[g]? = some (.cells cur e)) (hne : e ≠ 115) : ¬ v.ownBlock = some g := by
 obtain ⟨l, h1, _⟩ := h
 exact owns_apart h1 hh hne
theorem TbV.ge {w : World} {base : Nat} {v : Value} {bs : List XBod} (h : TbV w base v bs) : ∀ g, v.ownBlock = some g → base ≤ g := by
 obtain ⟨l, h1, _⟩ := h
 exact owns_ge h1
end Go.Proofs.YtpfkkmacakjmbaaGreatDoor
namespace Go.Proofs.YtpfkkmacakjmbaaGreatDoor
open Go Go.RowKit Sp
set_option linter.unusedSimpArgs false
set_option linter.unusedVariables false
theorem ofNat_kl {c : UInt8} {n : Nat} (h : isLet n c = true) (hn : n ≤ 4) : c = UInt8.ofNat (65 + (kl c).toNat) := by
 rw [← let_of h hn]
 congr 2
 unfold kl
 have : (UInt8.ofNat (65 + (c.toNat - 65))) = c := let_of h hn
 rw [this]
 omega
theorem letOf {n x : Nat} (h : x < n) (hn : n ≤ 4) : isLet n (UInt8.ofNat (65 + x)) = true ∧ kl (UInt8.ofNat (65 + x)) = x := by
 have hv : (UInt8.ofNat (65 + x)).toNat = 65 + x := by simp; omega
 constructor
 ·simp only [isLet, hv, Bool.and_eq_true, decide_eq_true_eq]; omega
 ·unfold kl; rw [hv]; omega
theorem bodyF_findF {cs : List Cls} {gs : List Sig} {BS : List Bod} (hw : WfC cs) (hn : cs.length ≤ 4) (hB : ∀ b ∈ BS, (b.cls = -1) ∨ SideB b) (m : Nat) :
  ∀ (f f' x : Nat), x < cs.length → x < f → x < f' → bodyF (cs.map toX) (BS.map (toXB gs)) m f (UInt8.ofNat (65 + x)) = findF cs BS m f' x := by
 intro f
 induction f with
 | zero => intro f' x _ h _; omega
 | succ f ih =>
  intro f' x hx h1 h2
  obtain ⟨g, rfl⟩ : ∃ g, f' = g + 1 := ⟨f' - 1, by omega⟩
  have hv : (UInt8.ofNat (65 + x)).toNat = 65 + x := by simp; omega
  have how := ownF_ownI (gs := gs) (m := m) hB (x := x) (by omega)
  rw [bodyF, if_neg (show ¬ (UInt8.ofNat (65 + x)).toNat = 45 by omega), how, findF, if_neg (show ¬ (x : Int) < 0 by omega)]
  split
  ·rfl
  ·obtain ⟨hl, hk⟩ := letOf hx hn
   have hp := parX_kl hw hn hl
   rw [hk] at hp
   have hlt := parOf_lt hw (p := (x : Int)) (by omega)
   rcases hp with ⟨e1, e2⟩ | ⟨e1, e2, e3⟩
   ·rw [e2]
    have e4 : ∀ k, bodyF (cs.map toX) (BS.map (toXB gs)) m k 45 = -1 := by
     intro k
     cases k with
     | zero => rfl
     | succ k => rw [bodyF]; simp
    have e5 : ∀ k, findF cs BS m k (parOf cs x) = -1 := by
     intro k
     cases k with
     | zero => rfl
     | succ k => rw [findF, if_pos e1]
    rw [e4, e5]
   ·have e6 := ofNat_kl e2 hn
    rw [e3] at e6
    rw [e6]
    have e7 : ((parOf cs x).toNat : Int) = parOf cs x := by omega
    have e8 : (parOf cs x).toNat < cs.length := by omega
    have := ih g (parOf cs x).toNat e8 (by omega) (by omega)
    rw [this, e7]
end Go.Proofs.YtpfkkmacakjmbaaGreatDoor
namespace Go.Proofs.YtpfkkmacakjmbaaGreatDoor
open Go Go.RowKit Sp
set_option linter.unusedSimpArgs false
set_option linter.unusedVariables false
attribute [local go_sem ↓] Go.wp_at_zero Go.wp_at_succ
theorem xtakes_112 (b : Nat) (cs : List XCls) (ms : List Sig) (p n : Nat) (k ans : UInt8) (w : World) {ap : Option Addr} {np cp : Nat} (hn : cs.length ≤ 100) (hT : TxC w b cs) :
  Calls Tryz.prog 140 #[.pointer (some ⟨b, 0, none⟩), .agg #[.int .i64 p, .int .u8 112, .int .u8 k.toNat, .int .i64 n, .slice ap np cp], .int .u8 ans.toNat] w fun e w' => But (fun _ => False) w w' ∧ ∃ v, e = .returned v ∧ BtB w' w.heap.size v [k, tatX (fldsX cs k) n] := by
 go_enter Tryz.func140, Tryz.ntmps140
 go_wp2_with fail
 have hBW : But (fun _ => False) w (w.alloc (.cells #[.int .i64 p, .int .u8 112, .int .u8 k.toNat, .int .i64 n, .slice ap np cp] 219)) := But.alloc _ _ _
 have hgW := heap_alloc_new w (.cells #[.int .i64 p, .int .u8 112, .int .u8 k.toNat, .int .i64 n, .slice ap np cp] 219)
 revert hBW hgW
 generalize (w.alloc (.cells #[.int .i64 p, .int .u8 112, .int .u8 k.toNat, .int .i64 n, .slice ap np cp] 219)) = W
 intro hBW hgW
 obtain ⟨k0, k1, k2, k3, k4⟩ := row5 hgW
 have gltW := lt_of_block hgW
 have HGW := hid hgW
 clear hgW
 have hS0 : But (fun _ => False) W W.drew := But.drew _ _
 have HCALL := hid (xft_any b cs k n W.drew hn ((hT.but hBW).but hS0))
 refine wpTx_begin (But (fun _ => False) W) 9 (by kernel_rfl) ?_
 have fSA := hid (fun wS (h : (But (fun _ => False) W) wS) => (And.intro ((h.cell (p := ⟨w.heap.size, 2, none⟩) gltW (fun h => h)).trans k2) ((h.cell (p := ⟨w.heap.size, 3, none⟩) gltW (fun h => h)).trans k3)))
 iterate 7 (refine wpTx_take (v := ?_) rfl (by kernel_rfl) (fun _ _ _ h => h) rfl hS0 ?_ ?_; rotate_left; (focus (intro wS h; obtain ⟨q0, q1⟩ := fSA.out wS h; clear h; go_simp; try rfl)); dsimp only [Act.put]; try simp only [puts])
 try clear fSA
 refine wpTx_step rfl (by kernel_rfl) ?_
 intro KS hKS
 go_simp
 refine HCALL.out.mono ?_
 rintro en wx ⟨rfl, hwx⟩
 rw [hwx]
 clear hwx wx HCALL
 refine hKS.out _ _ (fun _ => hS0) ?_
 clear hKS KS
 obtain ⟨z, hz'⟩ : ∃ z, tatX (fldsX cs k) n = z := ⟨_, rfl⟩
 rw [hz']
 have HZ := hid hz'
 clear hz'
 refine wpTx_step rfl (by kernel_rfl) ?_
 intro KS hKS
 go_simp
 refine hKS.out _ _ (fun _ => hS0.trans (But.alloc _ _ _)) ?_
 clear hKS KS
 refine wpTx_step rfl (by kernel_rfl) ?_
 intro KS hKS
 go_simp
 refine hKS.out _ _ (fun h => absurd h (by decide)) ?_
 clear hKS KS
 refine wpTx_done rfl (by kernel_rfl) ?_
 have hz := hBW.size
 go_wp2_with fail
 exact bodyPost_ret (v := .slice (some ⟨W.heap.size, 0, none⟩) 2 2) (by simp [results, Tryz.results140, go_sem]) rfl ⟨hBW.trans ((But.alloc _ _ _).trans (But.drew _ _)), _, rfl, by rw [HZ.out]; exact BtB.but (BtB.lit W w.heap.size hz [k, z] (by simp)) (But.drew (fun _ => False) _) (fun _ _ h => h)⟩
theorem xtakes_99 (b : Nat) (cs : List XCls) (ms : List Sig) (p n : Nat) (k ans : UInt8) (w : World) {ap : Option Addr} {np cp : Nat} (hm : ms.length ≤ 100) (hM : TxM w b ms) :
  Calls Tryz.prog 140 #[.pointer (some ⟨b, 0, none⟩), .agg #[.int .i64 p, .int .u8 99, .int .u8 k.toNat, .int .i64 n, .slice ap np cp], .int .u8 ans.toNat] w fun e w' => But (fun _ => False) w w' ∧ ∃ v, e = .returned v ∧ BtB w' w.heap.size v [k, (methX ms n).arg] := by
 go_enter Tryz.func140, Tryz.ntmps140
 go_wp2_with fail
 have hBW : But (fun _ => False) w (w.alloc (.cells #[.int .i64 p, .int .u8 99, .int .u8 k.toNat, .int .i64 n, .slice ap np cp] 219)) := But.alloc _ _ _
 have hgW := heap_alloc_new w (.cells #[.int .i64 p, .int .u8 99, .int .u8 k.toNat, .int .i64 n, .slice ap np cp] 219)
 revert hBW hgW
 generalize (w.alloc (.cells #[.int .i64 p, .int .u8 99, .int .u8 k.toNat, .int .i64 n, .slice ap np cp] 219)) = W
 intro hBW hgW
 obtain ⟨k0, k1, k2, k3, k4⟩ := row5 hgW
 have gltW := lt_of_block hgW
 have HGW := hid hgW
 clear hgW
 have hS0 : But (fun _ => False) W W.drew := But.drew _ _
 have HCALL := hid (xmethodAt_any b ms n W.drew hm ((hM.but hBW).but hS0))
 refine wpTx_begin (But (fun _ => False) W) 8 (by kernel_rfl) ?_
 have fSA := hid (fun wS (h : (But (fun _ => False) W) wS) => (And.intro ((h.cell (p := ⟨w.heap.size, 2, none⟩) gltW (fun h => h)).trans k2) ((h.cell (p := ⟨w.heap.size, 3, none⟩) gltW (fun h => h)).trans k3)))
 iterate 5 (refine wpTx_take (v := ?_) rfl (by kernel_rfl) (fun _ _ _ h => h) rfl hS0 ?_ ?_; rotate_left; (focus (intro wS h; obtain ⟨q0, q1⟩ := fSA.out wS h; clear h; go_simp; try rfl)); dsimp only [Act.put]; try simp only [puts])
 try clear fSA
 refine wpTx_step rfl (by kernel_rfl) ?_
 intro KS hKS
 go_simp
 refine HCALL.out.mono ?_
 rintro en wx ⟨rfl, hwx⟩
 clear HCALL
 have hSx := hS0.trans hwx
 refine hKS.out _ _ (fun _ => hSx) ?_
 clear hKS KS
 obtain ⟨z, hz'⟩ : ∃ z, methX ms n = z := ⟨_, rfl⟩
 rw [hz']
 have HZ := hid hz'
 clear hz'
 obtain ⟨za, zr⟩ := z
 dsimp only
 refine wpTx_step rfl (by kernel_rfl) ?_
 intro KS hKS
 go_simp
 refine hKS.out _ _ (fun _ => hSx) ?_
 clear hKS KS
 refine wpTx_step rfl (by kernel_rfl) ?_
 intro KS hKS
 go_simp
 refine hKS.out _ _ (fun _ => hSx.trans (But.alloc _ _ _)) ?_
 clear hKS KS
 refine wpTx_step rfl (by kernel_rfl) ?_
 intro KS hKS
 go_simp
 refine hKS.out _ _ (fun h => absurd h (by decide)) ?_
 clear hKS KS
 refine wpTx_done rfl (by kernel_rfl) ?_
 have hz := hBW.size
 go_wp2_with fail
 have hzx := hSx.size
 exact bodyPost_ret (v := .slice (some ⟨wx.heap.size, 0, none⟩) 2 2) (by simp [results, Tryz.results140, go_sem]) rfl ⟨(hBW.trans hSx).trans (But.alloc _ _ _), _, rfl, by rw [HZ.out]; exact BtB.lit wx w.heap.size (by omega) [k, za] (by simp)⟩
theorem xtakes_any (b : Nat) (cs : List XCls) (ms : List Sig) (p n : Nat) (c k ans : UInt8) (w : World) {ap : Option Addr} {np cp : Nat} (hn : cs.length ≤ 100) (hm : ms.length ≤ 100) (hT : TxC w b cs) (hM : TxM w b ms) :
  Calls Tryz.prog 140 #[.pointer (some ⟨b, 0, none⟩), .agg #[.int .i64 p, .int .u8 c.toNat, .int .u8 k.toNat, .int .i64 n, .slice ap np cp], .int .u8 ans.toNat] w fun e w' => But (fun _ => False) w w' ∧ ∃ v, e = .returned v ∧ BtB w' w.heap.size v (takesX cs ms c k n ans) := by
 by_cases h112 : c.toNat = 112
 ·have hc : c = 112 := UInt8.toNat_inj.1 h112
  subst hc
  exact xtakes_112 b cs ms p n k ans w hn hT
 by_cases h99 : c.toNat = 99
 ·have hc : c = 99 := UInt8.toNat_inj.1 h99
  subst hc
  exact xtakes_99 b cs ms p n k ans w hm hM
 exact xtakes_plain b cs ms p n c k ans w h112 h99
theorem row3 {w : World} {g t : Nat} {x0 x1 x2 : Value} (h : w.heap[g]? = some (.cells #[x0, x1, x2] t)) : w.cell? ⟨g, 0, none⟩ = some x0 ∧ w.cell? ⟨g, 1, none⟩ = some x1 ∧ w.cell? ⟨g, 2, none⟩ = some x2 := by
 refine ⟨?_, ?_, ?_⟩
 ·rw [cell_of_row w g 0 _ _ (0, 0) h]; rfl
 ·rw [cell_of_row w g 1 _ _ (0, 0) h]; rfl
 ·rw [cell_of_row w g 2 _ _ (0, 0) h]; rfl
theorem arg_rel {ms : List Sig} {n : Nat} (h : n < ms.length) : (methX ms n).arg = argT ms n ∧ (methX ms n).ret = retT ms n := by
 unfold methX argT retT
 rw [List.getElem?_eq_getElem h]
 exact ⟨rfl, rfl⟩
theorem toXI_cls {x : Ins} (h : x.op.toNat = 110 ∨ x.op.toNat = 120 ∨ x.op.toNat = 103 ∨ x.op.toNat = 112 ∨ x.op.toNat = 99) : (toXI x).cls = clsT x.a := by unfold toXI; rw [if_pos h]; rfl
def LinkV (g : Nat) (im : Img) : Value := match im.bodies.findSome? (fun b => unl im.classes im.bodies b.code) with
 | some q => .agg #[.int .i64 3, .int .i64 q, .pointer none, .slice none 0 0]
 | none => .agg #[.int .i64 0, .int .i64 0, .pointer (some ⟨g, 0, none⟩), .slice none 0 0]
theorem xform_bad (g j : Nat) (w : World) :
  Calls Tryz.prog 64 #[.pointer (some ⟨g, 0, none⟩), .int .i64 j] w fun en w' => But (fun _ => False) w w' ∧ en = .returned (.agg #[.int .i64 2, .int .i64 j, .pointer none, .slice none 0 0]) := by
 have hjn : ¬ (j : Int) = -1 := by omega
 have e1 : ((j : Int) == -1) = false := by rw [beq_eq_false_iff_ne]; omega
 have e2 : ((j : Int) != -1) = true := by simp [bne, e1]
 go_enter Tryz.func64, Tryz.ntmps64
 go_wp2_with fail
 have h9 := heap_alloc_new w (.cells #[.int .i64 2, .int .i64 j, .pointer none, .slice none 0 0] 60)
 have h9b : But (fun _ => False) w (w.alloc (.cells #[.int .i64 2, .int .i64 j, .pointer none, .slice none 0 0] 60)) := But.alloc _ _ _
 revert h9 h9b
 generalize (w.alloc (.cells #[.int .i64 2, .int .i64 j, .pointer none, .slice none 0 0] 60)) = w9
 intro h9 h9b
 obtain ⟨r0, r1, r2, r3⟩ := row4 h9
 exact bodyPost_ret (v := .agg #[.int .i64 2, .int .i64 j, .pointer none, .slice none 0 0]) (by simp [results, Tryz.results64, go_sem, r0, r1, r2, r3]) rfl ⟨h9b, rfl⟩
end Go.Proofs.YtpfkkmacakjmbaaGreatDoor
