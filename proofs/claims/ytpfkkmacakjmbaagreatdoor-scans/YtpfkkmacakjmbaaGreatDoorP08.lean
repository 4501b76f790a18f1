import Derived.Test.YtpfkkmacakjmbaaGreatDoorP07
set_option maxRecDepth 100000
set_option maxHeartbeats 6400000
namespace Go.Proofs.YtpfkkmacakjmbaaGreatDoor
open Go Go.RowKit Sp
set_option linter.unusedSimpArgs false
set_option linter.unusedVariables false
attribute [local go_sem ↓] Go.wp_at_zero Go.wp_at_succ
theorem conv1i (a : Int) (c : UInt8) (ha : a = c.toNat) (w : World) : (convert 112 9 (.slice (some ⟨w.heap.size, 0, none⟩) 1 1)).run Tryz.prog (w.alloc (.cells #[.int .u8 a] 5)) = .ok (.string ⟨#[c]⟩) (w.alloc (.cells #[.int .u8 a] 5)) := by
 subst ha
 exact conv1 c w
theorem conv2d (a d : Int) (c e : UInt8) (ha : a = c.toNat) (hd : d = e.toNat) (w : World) : (convert 112 9 (.slice (some ⟨w.heap.size, 0, none⟩) 2 2)).run Tryz.prog (w.alloc (.cells #[.int .u8 a, .int .u8 d] 5)).drew = .ok (.string ⟨#[c, e]⟩) (w.alloc (.cells #[.int .u8 a, .int .u8 d] 5)).drew := conv2i a d c e ha hd w.drew
theorem clsT_nat {a : Nat} (h : a < 4) : (65 + (a : Int)) = ((clsT a).toNat : Int) := by
 unfold clsT
 rw [UInt8.toNat_ofNat']
 omega
def SigAt (w : World) (bi : Nat) (gs : List Sig) : Prop :=
 ∃ v0 v1 v2, ImB w bi v0 v1 v2 ∧ w.ownsRow 0 129 2 v1 gs.length (sigCells gs)
theorem ImgAt.sig {w : World} {bi : Nat} {im : Img} (h : ImgAt w bi im) : SigAt w bi im.sigs := by
 obtain ⟨v0, v1, v2, l, hI, _, h1, _⟩ := h
 exact ⟨v0, v1, v2, hI, h1⟩
theorem SigAt.but {w w' : World} {bi : Nat} {gs : List Sig} (h : SigAt w bi gs) (hb : But (fun _ => False) w w') : SigAt w' bi gs := by
 obtain ⟨v0, v1, v2, hI, h0⟩ := h
 exact ⟨v0, v1, v2, hI.but hb (fun h => h), owns_but h0 hb (fun _ _ h => h)⟩
theorem SigAt.at {w : World} {bi : Nat} {gs : List Sig} (h : SigAt w bi gs) {k : Nat} (hk : k < gs.length) :
  ∃ (g n cap : Nat), w.cell? ⟨bi, 1, none⟩ = some (.slice (some ⟨g, 0, none⟩) n cap) ∧ (k : Int) < (n : Int) ∧ w.cell? ⟨g, k * 2, none⟩ = some (.int .u8 (argT gs k).toNat) ∧ w.cell? ⟨g, k * 2 + 1, none⟩ = some (.int .u8 (retT gs k).toNat) ∧ bi < w.heap.size ∧ g < w.heap.size := by
 obtain ⟨v0, v1, v2, hI, hO⟩ := h
 obtain ⟨a0, cap0, rfl⟩ := owns_len hO
 have hgl := List.getElem?_eq_getElem hk
 obtain ⟨g, rfl, hg1, hg2, hcell⟩ := owns_two hO (by omega)
 refine ⟨g, gs.length, cap0, hI.c1, by omega, ?_, ?_, hI.lt, hg1⟩
 ·rw [show argT gs k = gs[k].arg from by simp [argT, hgl]]; exact hcell _ _ (sigCells_at0 hgl)
 ·rw [show retT gs k = gs[k].ret from by simp [retT, hgl]]; exact hcell _ _ (sigCells_at1 hgl)
theorem ClsAt.flds {w : World} {bi : Nat} {cs : List Cls} (h : ClsAt w bi cs) {k j : Nat} (hk : k < cs.length) (hj : j < nFields cs k) :
  ∃ (g n cap : Nat) (fl : List UInt8), w.cell? ⟨bi, 0, none⟩ = some (.slice (some ⟨g, 0, none⟩) n cap) ∧ (k : Int) < (n : Int) ∧ w.cell? ⟨g, k * 2 + 1, none⟩ = some (.string ⟨fl.toArray⟩) ∧ j < fl.length ∧ fl.getD j 0 = fieldT cs k j ∧ bi < w.heap.size ∧ g < w.heap.size := by
 obtain ⟨v0, v1, v2, hI, hO⟩ := h
 obtain ⟨a0, cap0, rfl⟩ := owns_len hO
 have hgl := List.getElem?_eq_getElem hk
 obtain ⟨g, rfl, hg1, hg2, hcell⟩ := owns_two hO (by omega)
 refine ⟨g, cs.length, cap0, cs[k].fields, hI.c0, by omega, hcell _ _ (clsCells_at1 hgl), ?_, ?_, hI.lt, hg1⟩
 ·simpa [nFields, hgl] using hj
 ·simp [fieldT, hgl]
end Go.Proofs.YtpfkkmacakjmbaaGreatDoor
