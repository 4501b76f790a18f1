import Derived.Test.YtpfkkmacakjmbaaGreatDoorP09
import Derived.Test.YtpfkkmacakjmbaaGreatDoorP07
set_option maxRecDepth 100000
set_option maxHeartbeats 6400000
namespace Go.Proofs.YtpfkkmacakjmbaaGreatDoor
open Go Go.RowKit Sp
set_option linter.unusedSimpArgs false
set_option linter.unusedVariables false
attribute [local go_sem ↓] Go.wp_at_zero Go.wp_at_succ
structure BodsS (w : World) (top : Nat) (v2 : Value) (l : List (Bod × Value × Value)) : Prop where
 own : w.ownsRow top 52 5 v2 l.length (bodCells l)
 code : ∀ x ∈ l, w.ownsRow top 147 5 x.2.2 x.1.code.length (ndCells (endsN 0 x.1.code)) ∧ x.2.1 = .slice none 0 0 ∧ (∀ g, x.2.2.ownBlock = some g → v2.ownBlock ≠ some g)
theorem BodsS.but {F : Nat → Prop} {w w' : World} {top : Nat} {v2 : Value} {l : List (Bod × Value × Value)} (h : BodsS w top v2 l) (hb : But F w w') (hF : ∀ k, F k → k < top) : BodsS w' top v2 l :=
 ⟨owns_but h.own hb (fun g hg hf => by have := owns_ge h.own g hg; have := hF g hf; omega), fun x hx => ⟨owns_but (h.code x hx).1 hb (fun g hg hf => by have := owns_ge (h.code x hx).1 g hg; have := hF g hf; omega), (h.code x hx).2⟩⟩
def InnQ (s : ByteArray) (cs : List Cls) (gs : List Sig) (i bi b base top : Nat) (l : List (Bod × Value × Value)) (cl me : Int) (loc : List UInt8) (w' : World) : Prop :=
 ∃ j bad vc' vt', RdB w' b s j bad true bi vc' vt' ∧
  ((bad = false ∧ ∃ is vk v2', treeP s cs gs.length loc.length i = .ok (is, j) ∧ Heads w' base top bi cs gs v2' ∧ BodsS w' top v2' (l ++ [(⟨cl, me, loc, is⟩, .slice none 0 0, vk)])) ∨ (bad = true ∧ treeP s cs gs.length loc.length i = .error j))
section
variable (b : Nat) (s : ByteArray) (i : Nat) (bi : Nat) (vc vt : Value) (w : World)
theorem innerS_any (base top : Nat) (cs : List Cls) (gs : List Sig) (v2 : Value) (l : List (Bod × Value × Value)) (cl me : Int) (loc : List UInt8) (hll : l.length ≤ 7) (hloc : loc.length ≤ 5) (hs : s.size ≤ 2000) (hbi : b ≠ bi) (hbb : b < base) (hbib : bi < base) (hbt : base ≤ top) (hR : RdB w b s i false true bi vc vt) (hH : Heads w base top bi cs gs v2) (hBd : BodsS w top v2 l) (htw : top ≤ w.heap.size) :
  Calls Tryz.prog 80 #[.pointer (some ⟨b, 0, none⟩), .agg #[.int .i64 cl, .int .i64 me, .string ⟨loc.toArray⟩, .slice none 0 0, .slice none 0 0]] w fun en w' => en = .returned (.tuple #[]) ∧ But (fun k => k = b ∨ k = bi ∨ top ≤ k) w w' ∧
   InnQ s cs gs i bi b base top l cl me loc w' := by
 obtain ⟨i0, hi0, hz0, hz1, hz2⟩ := info_parts info_bod
 have c3 := hR.c3
 have c5 := hR.c5
 have c6 := hR.c6
 have f5 := hR.fz 5
 have f6 := hR.fz 6
 have blt := hR.lt
 go_enter Tryz.func80, Tryz.ntmps80
 go_wp2_with fail
 have hRw : RdB ((w.setCell ⟨b, 5, none⟩ (.slice none 0 0)).setCell ⟨b, 6, none⟩ (.slice none 0 0)) b s i false true bi (.slice none 0 0) (.slice none 0 0) := (hR.set5 _).set6 _
 have hBw : But (· = b) w ((w.setCell ⟨b, 5, none⟩ (.slice none 0 0)).setCell ⟨b, 6, none⟩ (.slice none 0 0)) := (But.setB _ _ _ _).trans (But.setB _ _ _ _)
 have hsz : ((w.setCell ⟨b, 5, none⟩ (.slice none 0 0)).setCell ⟨b, 6, none⟩ (.slice none 0 0)).heap.size = w.heap.size := by rw [size_setCell, size_setCell]
 generalize ((w.setCell ⟨b, 5, none⟩ (.slice none 0 0)).setCell ⟨b, 6, none⟩ (.slice none 0 0)) = w0 at *
 have hB0 : But (· = b) w (w0.alloc (.cells #[.int .i64 cl, .int .i64 me, .string ⟨loc.toArray⟩, .slice none 0 0, .slice none 0 0] 52)) := hBw.trans (But.alloc _ _ _)
 have hbile : bi < base := hbib
 refine (node_any b s true bi _ base top (w.heap.size + 1) cs gs v2 loc.length hloc hs hbi hbb (by omega) hbt hbib 24 24 i _ [] _ (by omega) rfl (hRw.alloc _) (owns_nil _ _ _ _) (by simp; omega) (hH.but hB0 (fun h => hbi h.symm) (fun k h => by omega))).mono ?_
 rintro en w1 ⟨rfl, hB1', HQ⟩
 have hB1 : But (· = b) (w0.alloc (.cells #[.int .i64 cl, .int .i64 me, .string ⟨loc.toArray⟩, .slice none 0 0, .slice none 0 0] 52)) w1 := hB1'.mono (fun k _ h => by
  rcases h with h | h
  ·exact h
  ·cases h)
 obtain ⟨j, bad, ak, n, capk, cells, hR1, hown, _, _, hn24, hlink⟩ := HQ
 have hgk1 : w1.heap[w.heap.size]? = some (.cells #[.int .i64 cl, .int .i64 me, .string ⟨loc.toArray⟩, .slice none 0 0, .slice none 0 0] 52) := by
  rw [hB1.block _ (by simp; omega) (by omega)]; exact heap_alloc_at hsz _
 have hBw1 : But (· = b) w w1 := hB0.trans hB1
 have e2 := hR1.c2
 clear c3 c5 c6 f5 f6
 rcases hlink with ⟨rfl, is, hcode, hfull, hnn, hcells⟩ | ⟨rfl, hcode⟩
 ·obtain rfl : n = is.length := by simpa using hnn
  have hcells' : cells = ndCells (endsN 0 is) := by simpa using hcells
  subst hcells'
  have HC : Hid (treeP s cs gs.length loc.length i = if (pk s j).toNat = 46 then .ok (is, j + 1) else .error j) := hid (by
   have : nodesP s cs gs.length loc.length 24 [] 1 i = .ok (is, j) := by simpa using hcode
   unfold treeP
   rw [this])
  clear hcode hnn hcells hfull
  go_wp2_with fail
  refine (eat_call b s j true bi _ _ _ 46 46 rfl hs hR1 (by decide)).mono ?_
  rintro en w2 ⟨rfl, hB2, j2, bad2, hR2, hby⟩
  have HBY := hid hby
  clear hby
  have hgk2 : w2.heap[w.heap.size]? = some (.cells #[.int .i64 cl, .int .i64 me, .string ⟨loc.toArray⟩, .slice none 0 0, .slice none 0 0] 52) := by
   rw [hB2.block _ (lt_of_block hgk1) (by omega)]; exact hgk1
  have hBw2 : But (· = b) w w2 := hBw1.trans hB2
  have hOk : w2.ownsRow top 147 5 (.slice ak is.length capk) is.length (ndCells (endsN 0 is)) := by
   have := owns_but hown hB2 (fun g hg h => by have := owns_ge hown g hg; omega)
   refine ⟨this.1, ?_⟩
   rcases this.2 with h | ⟨g, cp, cur, h1, h2, h3⟩
   ·exact Or.inl h
   ·exact Or.inr ⟨g, cp, cur, h1, by omega, h3⟩
  have hkge : ∀ g, (Value.slice ak is.length capk).ownBlock = some g → w.heap.size < g := fun g hg => by have := owns_ge hown g hg; omega
  have hklt := owns_lt hOk
  have e5 := hR2.c5
  have e6 := hR2.c6
  have k3 : w2.cell? ⟨w.heap.size, 3, none⟩ = some (.slice none 0 0) := by rw [cell_of_row w2 _ 3 _ _ (0, 0) hgk2]; rfl
  have k4 : w2.cell? ⟨w.heap.size, 4, none⟩ = some (.slice none 0 0) := by rw [cell_of_row w2 _ 4 _ _ (0, 0) hgk2]; rfl
  have kf3 : w2.frozen? ⟨w.heap.size, 3, none⟩ = false := frozen_of_row w2 _ 3 _ _ hgk2
  have kf4 : w2.frozen? ⟨w.heap.size, 4, none⟩ = false := frozen_of_row w2 _ 4 _ _ hgk2
  have hbne : b ≠ w.heap.size := by omega
  have hbne' : w.heap.size ≠ b := by omega
  clear e2
  go_wp2_with fail
  have hgkW : ((w2.setCell ⟨w.heap.size, 3, none⟩ (.slice none 0 0)).setCell ⟨w.heap.size, 4, none⟩ (.slice ak is.length capk)).heap[w.heap.size]? = some (.cells #[.int .i64 cl, .int .i64 me, .string ⟨loc.toArray⟩, .slice none 0 0, .slice ak is.length capk] 52) := heap_setCell_same _ _ 4 _ _ _ (heap_setCell_same w2 _ 3 _ _ _ hgk2)
  have hB3 : But (· = w.heap.size) w2 ((w2.setCell ⟨w.heap.size, 3, none⟩ (.slice none 0 0)).setCell ⟨w.heap.size, 4, none⟩ (.slice ak is.length capk)) := (But.setB _ _ _ _).trans (But.setB _ _ _ _)
  generalize ((w2.setCell ⟨w.heap.size, 3, none⟩ (.slice none 0 0)).setCell ⟨w.heap.size, 4, none⟩ (.slice ak is.length capk)) = W at *
  have hRW : RdB W b s j2 bad2 true bi (.slice none 0 0) (.slice ak is.length capk) := hR2.but hB3 hbne
  have hBW : But (· = b) w W := hBw2.next hB3 (fun k hk h => by omega)
  have hHW : Heads W base top bi cs gs v2 := hH.but hBW (fun h => hbi h.symm) (fun k h => by omega)
  have hDW : BodsS W top v2 l := hBd.but hBW (fun k h => by omega)
  have hOkW := owns_but hOk hB3 (fun g hg h => by have := hkge g hg; omega)
  obtain ⟨hwf, hnc, hns, v0, v1, hIW, hO0, hO1, hvt⟩ := hHW
  obtain ⟨a2, cap2, rfl⟩ := owns_len hBd.own
  have hOW := hDW.own
  have hlt2 := owns_lt hBd.own
  have e4 := hRW.c4
  have i2 := hIW.c2
  have iz := hIW.fz 2
  have bltW := hRW.lt
  have biltW := hIW.lt
  have gltW := lt_of_block hgkW
  have k0 : W.cell? ⟨w.heap.size, 0, none⟩ = some (.int .i64 cl) := by rw [cell_of_row W _ 0 _ _ (0, 0) hgkW]; rfl
  have k1 : W.cell? ⟨w.heap.size, 1, none⟩ = some (.int .i64 me) := by rw [cell_of_row W _ 1 _ _ (0, 0) hgkW]; rfl
  have k2 : W.cell? ⟨w.heap.size, 2, none⟩ = some (.string ⟨loc.toArray⟩) := by rw [cell_of_row W _ 2 _ _ (0, 0) hgkW]; rfl
  have k3' : W.cell? ⟨w.heap.size, 3, none⟩ = some (.slice none 0 0) := by rw [cell_of_row W _ 3 _ _ (0, 0) hgkW]; rfl
  have k4' : W.cell? ⟨w.heap.size, 4, none⟩ = some (.slice ak is.length capk) := by rw [cell_of_row W _ 4 _ _ (0, 0) hgkW]; rfl
  have ab : (Value.slice a2 l.length cap2).ownBlock ≠ some b := fun h => by have := owns_ge hOW _ h; omega
  have abi : (Value.slice a2 l.length cap2).ownBlock ≠ some bi := fun h => by have := owns_ge hOW _ h; omega
  have agk : (Value.slice a2 l.length cap2).ownBlock ≠ some w.heap.size := fun h => by have := hlt2 _ h; omega
  have hS0 : But (fun k => (Value.slice a2 l.length cap2).ownBlock = some k) W W.drew := But.drew _ _
  refine wpTx_begin (But (fun k => (Value.slice a2 l.length cap2).ownBlock = some k) W) 14 (by kernel_rfl) ?_
  have fSA := hid (fun wS (h : (But (fun k => (Value.slice a2 l.length cap2).ownBlock = some k) W) wS) => (And.intro ((h.cell (p := ⟨b, 4, none⟩) bltW ab).trans e4) (And.intro ((h.cell (p := ⟨bi, 2, none⟩) biltW abi).trans i2) (And.intro ((h.cell (p := ⟨w.heap.size, 0, none⟩) gltW agk).trans k0) (And.intro ((h.cell (p := ⟨w.heap.size, 1, none⟩) gltW agk).trans k1) (And.intro ((h.cell (p := ⟨w.heap.size, 2, none⟩) gltW agk).trans k2) (And.intro ((h.cell (p := ⟨w.heap.size, 3, none⟩) gltW agk).trans k3') ((h.cell (p := ⟨w.heap.size, 4, none⟩) gltW agk).trans k4'))))))))
  iterate 12 (refine wpTx_take (v := ?_) rfl (by kernel_rfl) (fun _ _ _ h => h) rfl hS0 ?_ ?_; rotate_left; (focus (intro wS h; obtain ⟨q0, q1, q2, q3, q4, q5, q6⟩ := fSA.out wS h; clear h; go_simp; try rfl)); dsimp only [Act.put]; try simp only [puts])
  try clear fSA
  refine wpTx_step rfl (by kernel_rfl) ?_
  intro KS hKS
  go_simp
  refine hKS.out _ _ (fun _ => (But.alloc _ _ _).trans (But.drew _ _)) ?_
  clear hKS KS
  refine wpTx_step rfl (by kernel_rfl) ?_
  intro KS hKS
  refine step_append_lies _ (by rfl) _ _ _ (by rfl) top 52 i0 _ 5 80 Tryz.underlying42 hi0 hz0 hz1 hz2 rfl (by omega) _ l.length (bodCells l) (by rfl) ((hOW.alloc _).drew)
     ⟨W.heap.size, 0, none⟩ 1 1 [.int .i64 cl, .int .i64 me, .string ⟨loc.toArray⟩, .slice none 0 0, .slice ak is.length capk] (by rfl) (by rfl) (World.news_of_block (cs := #[.int .i64 cl, .int .i64 me, .string ⟨loc.toArray⟩, .slice none 0 0, .slice ak is.length capk]) (t := 52) (fr := (0, 0)) (heap_alloc_new W _)) (by simp [Value.oneCell'])
     (by omega) (by unfold maxLen; omega) (by omega) (by simp; omega) (W.heap.size + 1) (by simp) ?_
  intro gg cap3 w3 hown3 hgrow hat hlt3
  have hSW : But (fun k => (Value.slice a2 l.length cap2).ownBlock = some k) W w3 := ((But.alloc _ _ _).trans (But.drew _ _)).trans (but_grown hgrow)
  refine hKS.out _ _ (fun _ => hSW) ?_
  clear hKS KS
  have y0 := (hSW.cell (p := ⟨bi, 2, none⟩) biltW abi).trans i2
  have y1 := (hSW.frozen (p := ⟨bi, 2, none⟩) biltW abi).trans iz
  refine wpTx_step rfl (by kernel_rfl) ?_
  intro KS hKS
  go_simp
  refine hKS.out _ _ (fun h => absurd h (by decide)) ?_
  clear hKS KS
  refine wpTx_step rfl (by kernel_rfl) ?_
  intro KS hKS
  go_simp
  refine hKS.out _ _ (fun h => absurd h (by decide)) ?_
  clear hKS KS
  refine wpTx_step rfl (by kernel_rfl) ?_
  intro KS hKS
  go_simp
  refine hKS.out _ _ (fun h => absurd h (by decide)) ?_
  clear hKS KS
  refine wpTx_done rfl (by kernel_rfl) ?_
  have hgg := owns_ge hown3 gg rfl
  have hR4 : RdB (w3.setCell ⟨bi, 2, none⟩ (.slice (some ⟨gg, 0, none⟩) (l.length + 1) cap3)) b s j2 bad2 true bi (.slice none 0 0) (.slice ak is.length capk) := (hRW.but hSW ab).but (But.setB _ _ _ _) hbi
  have hI4 : ImB (w3.setCell ⟨bi, 2, none⟩ (.slice (some ⟨gg, 0, none⟩) (l.length + 1) cap3)) bi v0 v1 (.slice (some ⟨gg, 0, none⟩) (l.length + 1) cap3) := (hIW.but hSW abi).set2 _
  have hB4 : But (fun k => k = bi ∨ (Value.slice a2 l.length cap2).ownBlock = some k) W (w3.setCell ⟨bi, 2, none⟩ (.slice (some ⟨gg, 0, none⟩) (l.length + 1) cap3)) := (hSW.mono (fun _ _ h => Or.inr h)).next (But.setB _ _ _ _) (fun _ _ h => Or.inl h)
  have hO4 := owns_but hown3 (But.setB w3 bi 2 (.slice (some ⟨gg, 0, none⟩) (l.length + 1) cap3)) (fun g hg h => by have := owns_ge hown3 g hg; omega)
  generalize (w3.setCell ⟨bi, 2, none⟩ (.slice (some ⟨gg, 0, none⟩) (l.length + 1) cap3)) = w4 at *
  have hne2 : ∀ g, g < W.heap.size → (Value.slice a2 l.length cap2).ownBlock ≠ some g → gg ≠ g := fun g hg hn h => by
   rcases hat with h' | h'
   ·exact hn (by rw [← h]; exact h')
   ·omega
  go_wp2_with fail
  go_end0
  have hres : (bad2 = false ∧ treeP s cs gs.length loc.length i = .ok (is, j2)) ∨ (bad2 = true ∧ treeP s cs gs.length loc.length i = .error j2) := by
   rw [HC.out]
   unfold byteP at HBY
   by_cases h46 : pk s j = 46
   ·rw [if_pos (by rw [h46]; rfl)]
    rcases HBY.out with ⟨h1, h2⟩ | ⟨h1, h2⟩
    ·rw [if_pos h46] at h2; cases h2; exact Or.inl ⟨h1, rfl⟩
    ·rw [if_pos h46] at h2; cases h2
   ·rw [if_neg (fun h => h46 (UInt8.toNat_inj.1 (by rw [h]; rfl)))]
    rcases HBY.out with ⟨h1, h2⟩ | ⟨h1, h2⟩
    ·rw [if_neg h46] at h2; cases h2
    ·rw [if_neg h46] at h2; cases h2; exact Or.inr ⟨h1, rfl⟩
  refine ⟨rfl, (hBW.mono (fun _ _ h => Or.inl h)).next hB4 (fun k hk h => ?_), j2, bad2, _, _, hR4, hres.imp (fun hr => ⟨hr.1, is, .slice ak is.length capk, .slice (some ⟨gg, 0, none⟩) (l.length + 1) cap3, hr.2, ⟨hwf, hnc, hns, v0, v1, hI4, ?_, ?_, hvt⟩, ⟨?_, ?_⟩⟩) id⟩
  ·rcases h with h | h
   ·exact Or.inr (Or.inl h)
   ·exact Or.inr (Or.inr (owns_ge hOW _ h))
  ·exact owns_but hO0 hB4 (fun g hg h => by
    have h1 := owns_ge hO0 g hg
    have h2 := hvt g (Or.inl hg)
    rcases h with h | h
    ·omega
    ·have := owns_ge hOW _ h; omega)
  ·exact owns_but hO1 hB4 (fun g hg h => by
    have h1 := owns_ge hO1 g hg
    have h2 := hvt g (Or.inr hg)
    rcases h with h | h
    ·omega
    ·have := owns_ge hOW _ h; omega)
  ·rw [bodCells_snoc, List.length_append]; exact hO4
  ·intro x hx
   rcases List.mem_append.1 hx with hx | hx
   ·obtain ⟨h1, h2, h3⟩ := hDW.code x hx
    refine ⟨owns_but h1 hB4 (fun g hg h => ?_), h2, fun g hg h => ?_⟩
    ·have := owns_ge h1 g hg
     rcases h with h | h
     ·omega
     ·exact h3 g hg h
    ·have h5 : gg = g := by simpa [Value.ownBlock] using h
     exact hne2 g (owns_lt h1 g hg) (h3 g hg) h5
   ·simp at hx
    subst hx
    refine ⟨owns_but hOkW hB4 (fun g hg h => ?_), rfl, fun g hg h => ?_⟩
    ·have := hkge g hg
     rcases h with h | h
     ·omega
     ·have := hlt2 _ h; omega
    ·have h5 : gg = g := by simpa [Value.ownBlock] using h
     refine hne2 g (owns_lt hOkW g hg) (fun h => ?_) h5
     have := hlt2 _ h
     have := hkge g hg
     omega
 ·have HC : Hid (treeP s cs gs.length loc.length i = .error j) := hid (by
   have : nodesP s cs gs.length loc.length 24 [] 1 i = .error j := by simpa using hcode
   unfold treeP
   rw [this])
  clear hcode
  go_wp2_with fail
  exact bodyPost_ret (v := .tuple #[]) (by simp [results, Tryz.results80, go_sem]) rfl ⟨rfl, hBw1.mono (fun _ _ h => Or.inl h), j, true, _, _, hR1, Or.inr ⟨rfl, HC.out⟩⟩
end
end Go.Proofs.YtpfkkmacakjmbaaGreatDoor
namespace Go.Proofs.YtpfkkmacakjmbaaGreatDoor
open Go Go.RowKit Sp
set_option linter.unusedSimpArgs false
set_option linter.unusedVariables false
def BodPostS (R : Except Nat (List Bod × Nat)) (b : Nat) (s : ByteArray) (bi base top : Nat) (cs : List Cls) (gs : List Sig) (w' : World) : Prop :=
 ∃ j bad vc' vt', RdB w' b s j bad true bi vc' vt' ∧
  ((bad = false ∧ ∃ l v2, R = .ok (l.map (·.1), j) ∧ l.length ≤ 6 ∧ Heads w' base top bi cs gs v2 ∧ BodsS w' top v2 l) ∨ (bad = true ∧ R = .error j))
section
variable (b : Nat) (s : ByteArray) (i : Nat) (bi : Nat) (vc vt : Value) (w : World)
theorem bodiesS_any (base top : Nat) (cs : List Cls) (gs : List Sig) (hs : s.size ≤ 2000) (hbi : b ≠ bi) (hbb : b < base) (hbib : bi < base) (hbt : base ≤ top) (hR : RdB w b s i false true bi vc vt) (hH : Heads w base top bi cs gs (.slice none 0 0)) (htw : top ≤ w.heap.size) :
  Calls Tryz.prog 78 #[.pointer (some ⟨b, 0, none⟩)] w fun en w' => en = .returned (.tuple #[]) ∧ But (fun k => k = b ∨ k = bi ∨ top ≤ k) w w' ∧
   BodPostS (bodS s cs gs 6 [] i) b s bi base top cs gs w' := by
 obtain ⟨R, hRR⟩ : ∃ R, bodS s cs gs 6 [] i = R := ⟨_, rfl⟩
 rw [hRR]
 have HRR : Hid (bodS s cs gs 6 [] i = R) := hRR
 clear hRR
 have hnc := hH.nc
 have hns := hH.ns
 go_enter Tryz.func78, Tryz.ntmps78
 go_wp2_with (go_at_call 127; refine (peek_any b s i false true bi vc vt _ hs hR).mono ?_; rintro en w' ⟨rfl, nn, rfl⟩)
 go_loopg [2] 7 (fun m c wr => ∃ (i' : Nat) (bad' : Bool) (vc vt : Value), c = .int .u8 (pk s i').toNat ∧ But (fun k => k = b ∨ k = bi ∨ top ≤ k) w wr ∧ RdB wr b s i' bad' true bi vc vt ∧
  ((bad' = false ∧ ∃ f l v2, m = f + 1 ∧ f + List.length l = 6 ∧ bodS s cs gs f (l.map (·.1)) i' = R ∧ Heads wr base top bi cs gs v2 ∧ BodsS wr top v2 l) ∨ (bad' = true ∧ m = 0 ∧ R = .error i')))
 case atStart => exact ⟨i, false, _, _, rfl, But.drewN _ _ _, hR.drewN _, Or.inl ⟨rfl, 6, [], _, rfl, rfl, HRR.out, hH.but (But.drewN (fun _ => False) _ _) (fun h => h) (fun k h => h.elim), ⟨owns_nil _ _ _ _, fun x hx => by cases hx⟩⟩⟩
 case round =>
  obtain ⟨i', bad', vc, vt, rfl, hB, hRr, hcase⟩ := hrel
  have c1 := hRr.c1
  have c2 := hRr.c2
  have c4 := hRr.c4
  have f1 := hRr.fz 1
  have f2 := hRr.fz 2
  rcases hcase with ⟨rfl, f, l, v2, rfl, hfl, hty, hHr, hDr⟩ | ⟨rfl, rfl, rfl⟩
  ·have HT : Hid (bodS s cs gs f (l.map (·.1)) i' = R) := hty
   have hfl1 : f + l.length ≤ 6 := by omega
   have hfl2 : 6 ≤ f + l.length := by omega
   have blt := hRr.lt
   clear hty hfl
   obtain ⟨a2, cap2, rfl⟩ := owns_len hDr.own
   obtain ⟨hwf, _, _, v0, v1, hIr, hO0, hO1, hvt⟩ := hHr
   obtain ⟨a0, cap0, rfl⟩ := owns_len hO0
   obtain ⟨a1, cap1, rfl⟩ := owns_len hO1
   have d0 := hIr.c0
   have d1 := hIr.c1
   have d2 := hIr.c2
   have bilt := hIr.lt
   have hHr : Heads wr base top bi cs gs (.slice a2 l.length cap2) := ⟨hwf, hnc, hns, _, _, hIr, hO0, hO1, hvt⟩
   by_cases hpe : (pk s i').toNat = 59
   · -- the end
    have hi : i' < s.size := pk_lt (by omega)
    have hne : (((pk s i').toNat : Int) != 59) = false := by rw [bne_eq_false_iff_eq]; omega
    have hres : R = .ok (l.map (·.1), i' + 1) := by rw [← HT.out]; cases f <;> simp [bodS, hpe]
    subst hres
    clear HT hpe
    go_wp2_with fail
    go_end0
    have hBe : But (· = b) wr (wr.setCell ⟨b, 1, none⟩ (.int .i64 ((i' : Int) + 1))) := But.setB _ _ _ _
    exact ⟨rfl, hB.next hBe (fun _ _ h => Or.inl h), i' + 1, false, _, _, hRr.inc, Or.inl ⟨rfl, l, _, rfl, by omega, hHr.but hBe (fun h => hbi h.symm) (fun k h => by omega), hDr.but hBe (fun k h => by omega)⟩⟩
   ·have hne : (((pk s i').toNat : Int) != 59) = true := by rw [bne_iff_ne]; omega
    have HNE : Hid (¬ (pk s i').toNat = 59) := hpe
    clear hpe
    cases f with
    | zero =>
     have hres : R = .error i' := by rw [← HT.out]; simp [bodS, HNE.out]
     subst hres
     have hlen : (6 : Int) ≤ (l.length : Int) := by omega
     clear HT
     go_wp2_with fail
     exact bodyPost_ret (v := .tuple #[]) (by simp [results, Tryz.results78, go_sem]) rfl ⟨rfl, hB.next (But.setB _ _ _ _) (fun _ _ h => Or.inl h), i', true, _, _, hRr.set2 true, Or.inr ⟨rfl, rfl⟩⟩
    | succ f =>
     have hlen : ¬ (6 : Int) ≤ (l.length : Int) := by omega
     go_wp2_with fail
     refine (class_call b s i' true bi vc vt _ _ cs.length rfl hnc hs hRr).mono ?_
     rintro en w1 ⟨hB1, xv, j, bad, rfl, hR1, hlink⟩
     have hBr1 : But (fun k => k = b ∨ k = bi ∨ top ≤ k) w w1 := hB.next hB1 (fun _ _ h => Or.inl h)
     have e2 := hR1.c2
     have e4 := hR1.c4
     have hI1 := hIr.but hB1 (fun h => hbi h.symm)
     clear c1 c2 c4 f1 f2 d0 d1 d2
     have d0 := hI1.c0
     have d1 := hI1.c1
     rcases hlink with ⟨rfl, x, rfl, hxn, hx⟩ | ⟨rfl, hx⟩
     case inr =>
      have hres : R = .error j := by rw [← HT.out]; simp [bodS, HNE.out, hx]
      subst hres
      clear HT hx
      go_wp2_with fail
      exact bodyPost_ret (v := .tuple #[]) (by simp [results, Tryz.results78, go_sem]) rfl ⟨rfl, hBr1, j, true, _, _, hR1, Or.inr ⟨rfl, rfl⟩⟩
     have HX : Hid (letP s cs.length i' = .ok (x, j)) := hx
     clear hx
     go_wp2_with fail
     refine (digit_call b s j true bi vc vt _ _ gs.length rfl hs hR1).mono ?_
     rintro en w2 ⟨hB2, mv, p, bad, rfl, hR2, hlink⟩
     have hBr2 : But (· = b) wr w2 := hB1.trans hB2
     have hB2' : But (fun k => k = b ∨ k = bi ∨ top ≤ k) w w2 := hB.next hBr2 (fun _ _ h => Or.inl h)
     have hI2 := hI1.but hB2 (fun h => hbi h.symm)
     clear e2 e4 d0 d1
     have e1 := hR2.c1
     have e2 := hR2.c2
     have e4 := hR2.c4
     have g1 := hR2.fz 1
     have g2 := hR2.fz 2
     have d0 := hI2.c0
     have d1 := hI2.c1
     rcases hlink with ⟨rfl, m, rfl, hm10, hm⟩ | ⟨rfl, hm⟩
     case inr =>
      have hres : R = .error p := by rw [← HT.out]; simp [bodS, HNE.out, HX.out, hm]
      subst hres
      clear HT hm
      go_wp2_with fail
      exact bodyPost_ret (v := .tuple #[]) (by simp [results, Tryz.results78, go_sem]) rfl ⟨rfl, hB2', p, true, _, _, hR2, Or.inr ⟨rfl, rfl⟩⟩
     have HM : Hid (digP s gs.length j = .ok (m, p)) := hm
     obtain ⟨hpj, hmn, hjs⟩ := digP_ok hm
     clear hm
     have hO2 : w2.ownsRow top 52 5 (.slice a2 l.length cap2) l.length (bodCells l) := owns_but hDr.own hBr2 (fun g hg h => by have := owns_ge hDr.own g hg; omega)
     go_wp2_with fail
     refine (own_any top bi _ _ _ l (x : Int) (m : Int) _ (by omega) hI2 hO2).mono ?_
     rintro en wx ⟨rfl, hwx⟩
     rw [hwx]
     clear hwx wx
     have HOI := ownI_isSome (l.map (·.1)) (x : Int) (m : Int)
     obtain ⟨oi, hoi⟩ : ∃ oi, ownI (l.map (·.1)) (x : Int) (m : Int) = oi := ⟨_, rfl⟩
     rw [hoi] at HOI ⊢
     clear hoi
     by_cases hoi : 0 ≤ oi
     · -- there is one already
      have hsome : (ownB (l.map (·.1)) (x : Int) (m : Int)).isSome = true := by rw [HOI]; simpa using hoi
      have hres : R = .error j := by rw [← HT.out]; simp only [bodS, if_neg HNE.out, HX.out, HM.out, if_pos hsome]
      subst hres
      have hpz : (p : Int) - 1 = (j : Int) := by omega
      have HPZ : Hid ((p : Int) - 1 = (j : Int)) := hpz
      have hp1 : (1 : Int) ≤ (p : Int) := by omega
      have hp2 : (p : Int) ≤ 3000 := by omega
      clear HT hsome HOI hpz hpj
      go_wp2_with fail
      refine bodyPost_ret (v := .tuple #[]) (by simp [results, Tryz.results78, go_sem]) rfl ⟨rfl, ?_, j, true, vc, vt, ?_, Or.inr ⟨rfl, rfl⟩⟩
      ·exact (hB2'.next (But.setB _ _ _ _) (fun _ _ h => Or.inl h)).next (But.setB _ _ _ _) (fun _ _ h => Or.inl h)
      ·rw [HPZ.out]; exact (hR2.set1 j).set2 true
     ·have hnone : ¬ (ownB (l.map (·.1)) (x : Int) (m : Int)).isSome = true := by rw [HOI]; simpa using hoi
      have HNO : Hid (¬ (ownB (l.map (·.1)) (x : Int) (m : Int)).isSome = true) := hnone
      clear hnone HOI hpj
      go_wp2_with fail
      refine (types_call b s p true bi vc vt _ _ _ _ 3 cs.length 58 rfl rfl rfl hs hnc (by omega) (by decide) hR2).mono ?_
      rintro en w3 ⟨hB3, o, q, bad, rfl, hosz, hR3, hlink⟩
      have hBr3 : But (· = b) wr w3 := hBr2.trans hB3
      have hB3' : But (fun k => k = b ∨ k = bi ∨ top ≤ k) w w3 := hB.next hBr3 (fun _ _ h => Or.inl h)
      have hI3 := hI2.but hB3 (fun h => hbi h.symm)
      clear e1 e2 e4 g1 g2 d0 d1
      have e2 := hR3.c2
      have e4 := hR3.c4
      have d1 := hI3.c1
      rcases hlink with ⟨rfl, t, rfl, ht⟩ | ⟨rfl, ht⟩
      case inr =>
       have hres : R = .error q := by rw [← HT.out]; simp only [bodS, if_neg HNE.out, HX.out, HM.out, if_neg HNO.out, ht]
       subst hres
       clear HT ht
       go_wp2_with fail
       exact bodyPost_ret (v := .tuple #[]) (by simp [results, Tryz.results78, go_sem]) rfl ⟨rfl, hB3', q, true, _, _, hR3, Or.inr ⟨rfl, rfl⟩⟩
      have HTY : Hid (tys s cs.length 58 3 [] p = .ok (t, q)) := ht
      have htl := tys_len ht
      simp only [List.length_nil, Nat.add_zero] at htl
      clear ht
      have hga := List.getElem?_eq_getElem hmn
      have hO1' := owns_but hO1 hBr3 (fun g hg h => by have := owns_ge hO1 g hg; omega)
      obtain ⟨gS, rfl, hgS1, hgS2, hcell⟩ := owns_two hO1' (by omega)
      have hcS := hcell _ _ (sigCells_at0 hga)
      clear hcell
      have hmlt : (m : Int) < (gs.length : Int) := by omega
      have hx0 : (x : Int) < 4 := by omega
      obtain ⟨arg, harg⟩ : ∃ arg : UInt8, gs[m].arg = arg := ⟨_, rfl⟩
      have HARG : Hid (argOf gs m = arg) := by
       show argOf gs m = arg
       unfold argOf
       rw [hga]
       exact harg
      rw [harg] at hcS
      clear harg hga
      obtain ⟨cx, hcxd⟩ : ∃ cx : UInt8, UInt8.ofNat (65 + x) = cx := ⟨_, rfl⟩
      have hcx : (65 + (x : Int)) = (cx.toNat : Int) := by
       rw [← hcxd, UInt8.toNat_ofNat']
       omega
      have HCX : Hid ((65 + (x : Int)) = (cx.toNat : Int)) := hcx
      have HCD : Hid (UInt8.ofNat (65 + x) = cx) := hcxd
      have hcv := conv2i (65 + (x : Int)) (arg.toNat : Int) cx arg HCX.out rfl
      have hsz2 : (⟨#[cx, arg]⟩ : ByteArray).size + (⟨t.toArray⟩ : ByteArray).size ≤ 1000 := by show 2 + t.toArray.size ≤ 1000; simp; omega
      clear hcx hcxd
      go_wp2_with fail
      rw [show (⟨#[cx, arg]⟩ : ByteArray) ++ ⟨t.toArray⟩ = ⟨(cx :: arg :: t).toArray⟩ from bytes_append [cx, arg] t]
      have hBr4 : But (· = b) wr (w3.alloc (.cells #[.int .u8 (65 + (x : Int)), .int .u8 arg.toNat] 5)) := hBr3.trans (But.alloc _ _ _)
      have hwrs := hB.size
      have hw3s := hB3'.size
      refine (innerS_any b s q bi _ _ _ base top cs gs _ l (x : Int) (m : Int) (cx :: arg :: t) (by omega) (by simp; omega) hs hbi hbb hbib hbt (hR3.alloc _) (hHr.but hBr4 (fun h => hbi h.symm) (fun k h => by omega)) (hDr.but hBr4 (fun k h => by omega)) (by simp; omega)).mono ?_
      rintro en w4 ⟨rfl, hB4, HIQ⟩
      obtain ⟨j4, bad4, vc4, vt4, hR4, hlink⟩ := HIQ
      have HLK : Hid ((bad4 = false ∧ ∃ is vk v2', treeP s cs gs.length (cx :: arg :: t).length q = .ok (is, j4) ∧ Heads w4 base top bi cs gs v2' ∧ BodsS w4 top v2' (l ++ [(⟨x, m, cx :: arg :: t, is⟩, .slice none 0 0, vk)])) ∨ (bad4 = true ∧ treeP s cs gs.length (cx :: arg :: t).length q = .error j4)) := hlink
      have hB4' : But (fun k => k = b ∨ k = bi ∨ top ≤ k) w w4 := (hB.next hBr4 (fun _ _ h => Or.inl h)).trans hB4
      clear hlink e2 e4 d1 hcS hcv
      go_wp2_with (go_at_call 127; refine (peek_any b s j4 bad4 true bi _ _ _ hs hR4).mono ?_; rintro en w' ⟨rfl, n3, rfl⟩)
      have hstep : ∀ r, treeP s cs gs.length (cx :: arg :: t).length q = r → R = match r with
        | .error e => .error e
        | .ok (is, z) => bodS s cs gs f (l.map (·.1) ++ [⟨x, m, cx :: arg :: t, is⟩]) z := by
       intro r hr
       rw [← HT.out]
       simp only [bodS, if_neg HNE.out, HX.out, HM.out, if_neg HNO.out, HTY.out, HARG.out, HCD.out]
       rw [show (cx :: arg :: t).length = t.length + 2 from rfl] at hr
       rw [hr]
       rcases r with e | ⟨is, z⟩ <;> rfl
      rcases HLK.out with ⟨rfl, is, vk, v2', hc, hH4, hD4⟩ | ⟨rfl, hc⟩
      ·go_roundg (f + 1)
       case measure => omega
       case rel =>
        refine ⟨j4, false, _, _, rfl, hB4'.next (But.drewN (fun _ => False) _ _) (fun _ _ h => h.elim), hR4.drewN _, Or.inl ⟨rfl, f, _, v2', rfl, by simp; omega, ?_, hH4.but (But.drewN (fun _ => False) _ _) (fun h => h) (fun k h => h.elim), hD4.but (But.drewN (fun _ => False) _ _) (fun k h => h.elim)⟩⟩
        rw [List.map_append]
        exact (hstep _ hc).symm
      ·go_roundg 0
       case measure => omega
       case rel => exact ⟨j4, true, _, _, rfl, hB4'.next (But.drewN (fun _ => False) _ _) (fun _ _ h => h.elim), hR4.drewN _, Or.inr ⟨rfl, rfl, hstep _ hc⟩⟩
  ·go_wp2_with fail
   go_end0
   exact ⟨rfl, hB, i', true, _, _, hRr, Or.inr ⟨rfl, rfl⟩⟩
end
def ImgS (w : World) (bi : Nat) (im : Img) : Prop :=
 ∃ v0 v1 v2 l, ImB w bi v0 v1 v2 ∧ w.ownsRow 0 203 2 v0 im.classes.length (clsCells im.classes) ∧ w.ownsRow 0 129 2 v1 im.sigs.length (sigCells im.sigs) ∧
  w.ownsRow 0 52 5 v2 l.length (bodCells l) ∧ l.map (·.1) = im.bodies ∧
  ∀ x ∈ l, w.ownsRow 0 147 5 x.2.2 x.1.code.length (ndCells (endsN 0 x.1.code)) ∧ x.2.1 = .slice none 0 0
theorem ImgS.but {w w' : World} {bi : Nat} {im : Img} (h : ImgS w bi im) (hb : But (fun _ => False) w w') : ImgS w' bi im := by
 obtain ⟨v0, v1, v2, l, hI, h0, h1, h2, hl, hc⟩ := h
 exact ⟨v0, v1, v2, l, hI.but hb (fun h => h), owns_but h0 hb (fun _ _ h => h), owns_but h1 hb (fun _ _ h => h), owns_but h2 hb (fun _ _ h => h), hl, fun x hx => ⟨owns_but (hc x hx).1 hb (fun _ _ h => h), (hc x hx).2⟩⟩
def ReadPostS (R : Except Nat Img) (bi : Nat) (w' : World) : Prop := match R with
 | .ok im => ImgS w' bi im
 | .error _ => True
section
variable (s : ByteArray) (w : World)
theorem readS_any (hs : s.size ≤ 2000) :
  Calls Tryz.prog 52 #[.string s, .bool true] w fun en w' => en = .returned (.tuple #[.pointer (some ⟨w.heap.size, 0, none⟩), .int .i64 (readI (readS s))]) ∧ But (fun _ => False) w w' ∧ ReadPostS (readS s) w.heap.size w' := by
 obtain ⟨R, hRR⟩ : ∃ R, readS s = R := ⟨_, rfl⟩
 rw [hRR]
 have HRR : Hid (readS s = R) := hRR
 clear hRR
 go_enter Tryz.func52, Tryz.ntmps52
 go_wp2_with fail
 have hR0 : RdB ((w.alloc (.cells #[.slice none 0 0, .slice none 0 0, .slice none 0 0] 44)).alloc (.cells #[.string s, .int .i64 0, .bool false, .bool true, .pointer (some ⟨w.heap.size, 0, none⟩), .slice none 0 0, .slice none 0 0] 140)) (w.heap.size + 1) s 0 false true w.heap.size (.slice none 0 0) (.slice none 0 0) := heap_alloc_at (by simp) _
 have hI0 : ImB ((w.alloc (.cells #[.slice none 0 0, .slice none 0 0, .slice none 0 0] 44)).alloc (.cells #[.string s, .int .i64 0, .bool false, .bool true, .pointer (some ⟨w.heap.size, 0, none⟩), .slice none 0 0, .slice none 0 0] 140)) w.heap.size (.slice none 0 0) (.slice none 0 0) (.slice none 0 0) := ImB.but (w := w.alloc (.cells #[.slice none 0 0, .slice none 0 0, .slice none 0 0] 44)) (heap_alloc_new w _) (But.alloc (fun _ => False) _ _) (fun h => h)
 have hB0 : But (fun _ => False) w ((w.alloc (.cells #[.slice none 0 0, .slice none 0 0, .slice none 0 0] 44)).alloc (.cells #[.string s, .int .i64 0, .bool false, .bool true, .pointer (some ⟨w.heap.size, 0, none⟩), .slice none 0 0, .slice none 0 0] 140)) := (But.alloc _ _ _).trans (But.alloc _ _ _)
 have hz0 : ((w.alloc (.cells #[.slice none 0 0, .slice none 0 0, .slice none 0 0] 44)).alloc (.cells #[.string s, .int .i64 0, .bool false, .bool true, .pointer (some ⟨w.heap.size, 0, none⟩), .slice none 0 0, .slice none 0 0] 140)).heap.size = w.heap.size + 2 := by simp
 generalize ((w.alloc (.cells #[.slice none 0 0, .slice none 0 0, .slice none 0 0] 44)).alloc (.cells #[.string s, .int .i64 0, .bool false, .bool true, .pointer (some ⟨w.heap.size, 0, none⟩), .slice none 0 0, .slice none 0 0] 140)) = w0 at *
 have hbi : w.heap.size + 1 ≠ w.heap.size := by omega
 refine (classes_any (w.heap.size + 1) s 0 true w.heap.size _ _ w0 hs hbi hR0 hI0).mono ?_
 rintro en w1 ⟨rfl, hB1, hp1⟩
 have hBw1 : But (fun _ => False) w w1 := hB0.next hB1 (fun k hk h => by omega)
 have hs1 := hB1.size
 rcases hc1 : clsP s 4 [] 0 with j | ⟨cs, j⟩
 ·rw [hc1] at hp1
  simp only at hp1
  have e1 := hp1.c1
  have e2 := hp1.c2
  have e4 := hp1.c4
  have hres : R = .error j := by rw [← HRR.out]; simp [readS, hc1]
  subst hres
  clear HRR
  go_wp2_with fail
  go_quiet (fail)
  go_wp2
  go_ret2
  exact ⟨rfl, hBw1.next (But.drewN (fun _ => False) _ _) (fun _ _ h => h), trivial⟩
 rw [hc1] at hp1
 obtain ⟨hR1, v0, hI1, hO1⟩ := hp1
 have HC1 : Hid (clsP s 4 [] 0 = .ok (cs, j)) := hc1
 obtain ⟨hwf, hncl⟩ := clsP_wf hc1
 clear hc1
 obtain ⟨a0, cap0, rfl⟩ := owns_len hO1
 have e1 := hR1.c1
 have e2 := hR1.c2
 go_wp2_with fail
 refine (sigs_any (w.heap.size + 1) s j true w.heap.size _ _ w1 a0 cs.length cap0 hncl hs hbi hR1 hI1).mono ?_
 rintro en w2 ⟨rfl, hB2, hp2⟩
 have hBw2 : But (fun _ => False) w w2 := hBw1.next hB2 (fun k hk h => by omega)
 have hs2 := hB2.size
 clear e1 e2
 rcases hc2 : sigP s cs.length 3 [] j with j2 | ⟨gs, j2⟩
 ·rw [hc2] at hp2
  simp only at hp2
  have e1 := hp2.c1
  have e2 := hp2.c2
  have e4 := hp2.c4
  have hres : R = .error j2 := by rw [← HRR.out]; simp [readS, HC1.out, hc2]
  subst hres
  clear HRR
  go_wp2_with fail
  go_quiet (fail)
  go_wp2
  go_ret2
  exact ⟨rfl, hBw2.next (But.drewN (fun _ => False) _ _) (fun _ _ h => h), trivial⟩
 rw [hc2] at hp2
 obtain ⟨hR2, v1, hI2, hO2⟩ := hp2
 have HC2 : Hid (sigP s cs.length 3 [] j = .ok (gs, j2)) := hc2
 have hnsl := sigP_len hc2
 clear hc2
 have hO1' := owns_but hO1 hB2 (fun g hg h => by have := owns_ge hO1 g hg; omega)
 have hH2 : Heads w2 (w.heap.size + 2) w2.heap.size w.heap.size cs gs (.slice none 0 0) := ⟨hwf, hncl, by simpa using hnsl, _, _, hI2, owns_down hO1' (by omega), owns_down hO2 (by omega), fun g hg => by
  rcases hg with hg | hg
  ·exact owns_lt hO1' g hg
  ·exact owns_lt hO2 g hg⟩
 have e1 := hR2.c1
 have e2 := hR2.c2
 go_wp2_with fail
 refine (bodiesS_any (w.heap.size + 1) s j2 w.heap.size _ _ w2 (w.heap.size + 2) w2.heap.size cs gs hs hbi (by omega) (by omega) (by omega) hR2 hH2 (Nat.le_refl _)).mono ?_
 rintro en w3 ⟨rfl, hB3, j3, bad3, vc3, vt3, hR3, hlink⟩
 have hBw3 : But (fun _ => False) w w3 := hBw2.next hB3 (fun k hk h => by omega)
 have hs3 := hB3.size
 clear e1 e2
 rcases hlink with ⟨rfl, l, v2, hc3, hll, hH3, hD3⟩ | ⟨rfl, hc3⟩
 case inr =>
  have e1 := hR3.c1
  have e2 := hR3.c2
  have e4 := hR3.c4
  have hres : R = .error j3 := by rw [← HRR.out]; simp [readS, HC1.out, HC2.out, hc3]
  subst hres
  clear HRR
  go_wp2_with fail
  go_quiet (fail)
  go_wp2
  go_ret2
  exact ⟨rfl, hBw3.next (But.drewN (fun _ => False) _ _) (fun _ _ h => h), trivial⟩
 have HC3 : Hid (bodS s cs gs 6 [] j2 = .ok (l.map (·.1), j3)) := hc3
 clear hc3
 obtain ⟨a2, cap2, rfl⟩ := owns_len hD3.own
 obtain ⟨_, _, _, u0, u1, hI3, hU0, hU1, hut⟩ := hH3
 obtain ⟨b0, capb0, rfl⟩ := owns_len hU0
 have hH3 : Heads w3 (w.heap.size + 2) w2.heap.size w.heap.size cs gs (.slice a2 l.length cap2) := ⟨hwf, hncl, by simpa using hnsl, _, _, hI3, hU0, hU1, hut⟩
 have e1 := hR3.c1
 have e2 := hR3.c2
 have e4 := hR3.c4
 have d0 := hI3.c0
 go_wp2_with fail
 refine (types_call (w.heap.size + 1) s j3 true w.heap.size _ _ w3 _ _ _ 3 cs.length 58 rfl rfl rfl hs hncl (by omega) (by decide) hR3).mono ?_
 rintro en w4 ⟨hB4, o, j4, bad4, rfl, hosz, hR4, hlink⟩
 have hBw4 : But (fun _ => False) w w4 := hBw3.next hB4 (fun k hk h => by omega)
 have hs4 := hB4.size
 clear e1 e2 e4 d0
 rcases hlink with ⟨rfl, t, rfl, ht⟩ | ⟨rfl, ht⟩
 case inr =>
  have e1 := hR4.c1
  have e2 := hR4.c2
  have e4 := hR4.c4
  have hres : R = .error j4 := by rw [← HRR.out]; simp [readS, HC1.out, HC2.out, HC3.out, ht]
  subst hres
  clear HRR
  go_wp2_with fail
  go_quiet (fail)
  go_wp2
  go_ret2
  exact ⟨rfl, hBw4.next (But.drewN (fun _ => False) _ _) (fun _ _ h => h), trivial⟩
 have HTY : Hid (tys s cs.length 58 3 [] j3 = .ok (t, j4)) := ht
 have htl := tys_len ht
 simp only [List.length_nil, Nat.add_zero] at htl
 clear ht
 have e1 := hR4.c1
 have e2 := hR4.c2
 go_wp2_with fail
 refine (innerS_any (w.heap.size + 1) s j4 w.heap.size _ _ w4 (w.heap.size + 2) w2.heap.size cs gs _ l (-1) (-1) t (by omega) (by omega) hs hbi (by omega) (by omega) (by omega) hR4 (hH3.but hB4 (by omega) (fun k h => by omega)) (hD3.but hB4 (fun k h => by omega)) (by omega)).mono ?_
 rintro en w5 ⟨rfl, hB5, HIQ⟩
 obtain ⟨j5, bad5, vc5, vt5, hR5, hlink⟩ := HIQ
 have hBw5 : But (fun _ => False) w w5 := hBw4.next hB5 (fun k hk h => by omega)
 clear e1 e2
 rcases hlink with ⟨rfl, is, vk, v2', hc5, hH5, hD5⟩ | ⟨rfl, hc5⟩
 case inr =>
  have e1 := hR5.c1
  have e2 := hR5.c2
  have e4 := hR5.c4
  have hres : R = .error j5 := by rw [← HRR.out]; simp [readS, HC1.out, HC2.out, HC3.out, HTY.out, hc5]
  subst hres
  clear HRR
  go_wp2_with fail
  go_quiet (fail)
  go_wp2
  go_ret2
  exact ⟨rfl, hBw5.next (But.drewN (fun _ => False) _ _) (fun _ _ h => h), trivial⟩
 have HC5 : Hid (treeP s cs gs.length t.length j4 = .ok (is, j5)) := hc5
 clear hc5
 have e1 := hR5.c1
 have e2 := hR5.c2
 have e4 := hR5.c4
 by_cases hend : (j5 : Int) < (s.size : Int)
 ·have hres : R = .error j5 := by rw [← HRR.out]; simp [readS, HC1.out, HC2.out, HC3.out, HTY.out, HC5.out]; omega
  subst hres
  clear HRR
  go_wp2_with fail
  go_quiet (fail)
  go_wp2
  go_ret2
  exact ⟨rfl, hBw5.next (But.drewN (fun _ => False) _ _) (fun _ _ h => h), trivial⟩
 ·have hres : R = .ok ⟨cs, gs, l.map (·.1) ++ [⟨-1, -1, t, is⟩]⟩ := by rw [← HRR.out]; simp [readS, HC1.out, HC2.out, HC3.out, HTY.out, HC5.out]; omega
  subst hres
  clear HRR
  obtain ⟨_, _, _, x0, x1, hI5, hX0, hX1, _⟩ := hH5
  go_wp2_with fail
  go_ret2
  refine ⟨rfl, hBw5, ?_⟩
  exact ⟨_, _, _, _, hI5, owns_down hX0 (by omega), owns_down hX1 (by omega), owns_down hD5.own (by omega), by simp, fun x hx => ⟨owns_down (hD5.code x hx).1 (by omega), (hD5.code x hx).2.1⟩⟩
end
end Go.Proofs.YtpfkkmacakjmbaaGreatDoor
