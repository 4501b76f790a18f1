import Derived.Test.YtpfkkmacakjmbaaGreatDoorP28
import Derived.Test.YtpfkkmacakjmbaaGreatDoorP15
import Derived.Test.YtpfkkmacakjmbaaGreatDoorP31
import Derived.Test.YtpfkkmacakjmbaaGreatDoorP32
/- The program writes a table. -/
namespace Go.Proofs.YtpfkkmacakjmbaaGreatDoor
open Go Go.RowKit Sp
set_option linter.unusedSimpArgs false
set_option linter.unusedVariables false
attribute [local go_sem ↓] Go.wp_at_zero Go.wp_at_succ
theorem StB.known {w : World} {gs : Nat} {tab : List St} (h : StB w gs tab) {k : Nat} {s lo : List UInt8} (hk : tab[k]? = some (some (s, lo))) :
  ∃ a1 c1 a2 c2, w.cell? ⟨gs, k * 3, none⟩ = some (.bool true) ∧ w.cell? ⟨gs, k * 3 + 1, none⟩ = some (.slice a1 s.length c1) ∧ w.cell? ⟨gs, k * 3 + 2, none⟩ = some (.slice a2 lo.length c2) ∧ BtB w 0 (.slice a1 s.length c1) s ∧ BtB w 0 (.slice a2 lo.length c2) lo := by
 obtain ⟨l, hs, hm, hf⟩ := h
 rw [← hm, List.getElem?_map] at hk
 obtain ⟨x, hx, hx1⟩ := Option.map_eq_some_iff.1 hk
 obtain ⟨h1, h2⟩ := hf x (List.mem_of_getElem? hx) s lo hx1
 obtain ⟨a1, c1, e1⟩ := owns_len h1
 obtain ⟨a2, c2, e2⟩ := owns_len h2
 have hc : stC x = [.bool true, x.2.1, x.2.2] := by unfold stC; rw [hx1]
 rw [e1] at h1
 rw [e2] at h2
 refine ⟨a1, c1, a2, c2, ?_, ?_, ?_, h1, h2⟩
 ·rw [cell_of_row w gs (k * 3) _ _ (0, 0) hs]
  have := stCells_at (k := 0) hx (by omega)
  rw [hc] at this
  simpa using this
 ·rw [cell_of_row w gs (k * 3 + 1) _ _ (0, 0) hs]
  have := stCells_at (k := 1) hx (by omega)
  rw [hc, e1] at this
  simpa using this
 ·rw [cell_of_row w gs (k * 3 + 2) _ _ (0, 0) hs]
  have := stCells_at (k := 2) hx (by omega)
  rw [hc, e2] at this
  simpa using this
theorem StB.unk {w : World} {gs : Nat} {tab : List St} (h : StB w gs tab) {k : Nat} (hk : tab[k]? = .some .none) :
  w.cell? ⟨gs, k * 3, none⟩ = .some (.bool false) ∧ w.cell? ⟨gs, k * 3 + 1, none⟩ = .some (.slice none 0 0) ∧ w.cell? ⟨gs, k * 3 + 2, none⟩ = .some (.slice none 0 0) := by
 obtain ⟨l, hs, hm, hf⟩ := h
 rw [← hm, List.getElem?_map] at hk
 obtain ⟨x, hx, hx1⟩ := Option.map_eq_some_iff.1 hk
 have hc : stC x = [.bool false, .slice none 0 0, .slice none 0 0] := by unfold stC; rw [hx1]
 refine ⟨?_, ?_, ?_⟩
 ·rw [cell_of_row w gs (k * 3) _ _ (0, 0) hs]
  have := stCells_at (k := 0) hx (by omega)
  rw [hc] at this
  simpa using this
 ·rw [cell_of_row w gs (k * 3 + 1) _ _ (0, 0) hs]
  have := stCells_at (k := 1) hx (by omega)
  rw [hc] at this
  simpa using this
 ·rw [cell_of_row w gs (k * 3 + 2) _ _ (0, 0) hs]
  have := stCells_at (k := 2) hx (by omega)
  rw [hc] at this
  simpa using this
/-- A byte behind bytes: where the byte lies on the way. -/
theorem lit_one (W : World) (n : Int) (c : UInt8) (hc : (c.toNat : Int) = n) (g : Nat) (hg : W.heap.size = g) : BtB (W.alloc (.cells #[.int .u8 n] 5)) 0 (.slice (some ⟨g, 0, none⟩) 1 1) [c] := by
 subst hg
 have h := BtB.lit W 0 (Nat.zero_le _) [c] (by simp)
 simp only [btCells, List.map_cons, List.map_nil, List.length_singleton, hc] at h
 exact h
set_option maxHeartbeats 3200000 in
set_option maxRecDepth 100000 in
theorem xwrite_any (gA : Nat) (t : List St) (w : World) (hA : StB w gA t) (ht : shortT t) :
  Calls Tryz.prog 37 #[.agg #[.slice (some ⟨gA, 0, none⟩) t.length t.length]] w fun en w' => en = .returned (.string ⟨(writtenT t).toArray⟩) ∧ But (fun _ => False) w w' := by
 have hl := ht.1
 have hgW := heap_alloc_new w (.cells #[.slice (some ⟨gA, 0, none⟩) t.length t.length] 65)
 have hBW : But (fun _ => False) w (w.alloc (.cells #[.slice (some ⟨gA, 0, none⟩) t.length t.length] 65)) := But.alloc _ _ _
 go_enter Tryz.func37, Tryz.ntmps37
 go_wp2_with fail
 have hE := BtB.empty (w.alloc (.cells #[.slice (some ⟨gA, 0, none⟩) t.length t.length] 65))
 have hgE := (But.alloc (fun _ => False) (w.alloc (.cells #[.slice (some ⟨gA, 0, none⟩) t.length t.length] 65)) (.cells #[] 5)).block w.heap.size (lt_of_block hgW) (fun h => h)
 have hBE := hBW.trans (But.alloc (fun _ => False) (w.alloc (.cells #[.slice (some ⟨gA, 0, none⟩) t.length t.length] 65)) (.cells #[] 5))
 rw [hgW] at hgE
 have hzE : ((w.alloc (.cells #[.slice (some ⟨gA, 0, none⟩) t.length t.length] 65))).heap.size = w.heap.size + 1 := by simp
 rw [hzE] at hE
 revert hE hgE hBE
 generalize ((w.alloc (.cells #[.slice (some ⟨gA, 0, none⟩) t.length t.length] 65)).alloc (.cells #[] 5)) = W
 intro hE hgE hBE
 clear hgW hBW hzE
 go_loopg [3, 4] t.length (fun mm ss ks wr => ∃ (k : Nat) (ao : Option Addr) (cap : Nat) (s : List UInt8), ss = .slice ao s.length cap ∧ BtB wr (w.heap.size + 1) (.slice ao s.length cap) s ∧ s.length ≤ 200 * k ∧ ks = .int .i64 k ∧ k ≤ t.length ∧ k + mm ≤ t.length ∧ t.length ≤ k + mm ∧ But (fun _ => False) w wr ∧ wr.heap[w.heap.size]? = some (.cells #[.slice (some ⟨gA, 0, none⟩) t.length t.length] 65) ∧ Hid ((t.take k).flatMap oneW = s))
 case atStart => exact ⟨0, _, 0, [], rfl, hE, by simp, rfl, by omega, by omega, by omega, hBE, hgE, rfl⟩
 case round =>
  obtain ⟨k, ao, cap, s, rfl, hO, hsl, rfl, hk1, hk2, hk3, hBr, hgr, HA⟩ := hrel
  clear hk2
  have hTa := hA.off hBr (fun h => h) (fun _ _ _ h => h)
  have hgl := lt_of_block hgr
  have hszr := hBr.size
  have c0 : wr.cell? ⟨w.heap.size, 0, none⟩ = some (.slice (some ⟨gA, 0, none⟩) t.length t.length) := by rw [cell_of_row wr w.heap.size 0 _ _ (0, 0) hgr]; rfl
  by_cases hlt : k < t.length
  ·have hkn : (k : Int) < (t.length : Int) := by omega
   obtain ⟨o, ho⟩ : ∃ o, t[k] = o := ⟨_, rfl⟩
   have hgl' := List.getElem?_eq_getElem hlt
   rw [ho] at hgl'
   have alt : gA < wr.heap.size := by obtain ⟨l, h, _⟩ := hTa; exact lt_of_block h
   have HT : Hid ((t.take (k + 1)).flatMap oneW = s ++ oneW o) := by
    show _ = _
    rw [List.take_add_one, hgl', List.flatMap_append, HA.out]
    simp
   cases o with
   | none =>
    obtain ⟨q0, q1, q2⟩ := hTa.unk hgl'
    clear hgl' ho HA
    have hB1 : But (fun _ => False) wr (wr.alloc (.cells #[.bool false, .slice none 0 0, .slice none 0 0] 117)) := But.alloc _ _ _
    have hO2 := (hO.but hB1 (fun _ _ h => h)).but (But.alloc (fun _ => False) _ (.cells #[.int .u8 63] 5)) (fun _ _ h => h)
    have hl1 := lit_one (wr.alloc (.cells #[.bool false, .slice none 0 0, .slice none 0 0] 117)) 63 63 rfl (wr.heap.size + 1) (by simp)
    have hge := owns_ge hO
    have hlt' := owns_lt hO
    obtain ⟨S2, hS2⟩ : ∃ S2, s ++ [63] = S2 := ⟨_, rfl⟩
    have hnS2 : S2.length ≤ 200 * k + 1 := by rw [← hS2]; simp; omega
    have HS2 := hid hS2
    clear hS2
    go_wp2_with (at_builtin; refine wpList_append_btl rfl _ _ rfl (w.heap.size + 1) 0 _ _ s [63] S2 HS2 rfl rfl hO2 hl1 (by omega) (by simp; omega) ?_)
    intro ao2 cap2 w2 hO3 hB3 _
    have hBw2 : But (fun k' => (Value.slice ao s.length cap).ownBlock = some k') wr w2 := ((But.alloc _ _ _).trans (But.alloc _ _ _)).trans hB3
    have hB2 : But (fun _ => False) w w2 := hBr.next hBw2 (fun k' hk' h => absurd (hge k' h) (by omega))
    have hg2 := (hBw2.block w.heap.size hgl (fun h => by have := hge _ h; omega)).trans hgr
    have hz2 := hBw2.size
    clear hB1 hO2 hl1 hB3 q0 q1 q2
    have hl2 := lit_one w2 44 44 rfl w2.heap.size rfl
    have hO4 := hO3.but (But.alloc (fun _ => False) _ (.cells #[.int .u8 44] 5)) (fun _ _ h => h)
    have hge3 := owns_ge hO3
    obtain ⟨S3, hS3⟩ : ∃ S3, S2 ++ [44] = S3 := ⟨_, rfl⟩
    have hnS3 : S3.length ≤ 200 * k + 2 := by rw [← hS3]; simp; omega
    have HS3 := hid hS3
    clear hS3
    go_wp2_with (at_builtin; refine wpList_append_btl rfl _ _ rfl (w.heap.size + 1) 0 _ _ S2 [44] S3 HS3 rfl rfl hO4 hl2 (by omega) (by simp; omega) ?_)
    intro ao3 cap3 w3 hO5 hB5 _
    have hBw3 : But (fun k' => (Value.slice ao2 S2.length cap2).ownBlock = some k') w2 w3 := (But.alloc _ _ _).trans hB5
    have hB3 : But (fun _ => False) w w3 := hB2.next hBw3 (fun k' hk' h => absurd (hge3 k' h) (by omega))
    have hg3 := (hBw3.block w.heap.size (lt_of_block hg2) (fun h => by have := hge3 _ h; omega)).trans hg2
    clear hl2 hO4 hB5
    go_wp2_with fail
    go_roundg (t.length - (k + 1))
    case measure => omega
    case rel => exact ⟨k + 1, ao3, cap3, S3, rfl, hO5, by omega, by simp, by omega, by omega, by omega, hB3, hg3, hid (by rw [HT.out, ← HS3.out, ← HS2.out]; simp [oneW])⟩
   | some st =>
    obtain ⟨st, lo⟩ := st
    have hsh := ht.2 k st lo hgl'
    obtain ⟨a1, c1, a2, c2, z0, z1, z2, hs1w, hs2w⟩ := hA.known hgl'
    have altw : gA < w.heap.size := by obtain ⟨l, h, _⟩ := hA; exact lt_of_block h
    have q0 := (hBr.cell (p := ⟨gA, k * 3, none⟩) altw (fun h => h)).trans z0
    have q1 := (hBr.cell (p := ⟨gA, k * 3 + 1, none⟩) altw (fun h => h)).trans z1
    have q2 := (hBr.cell (p := ⟨gA, k * 3 + 2, none⟩) altw (fun h => h)).trans z2
    have hs1 := hs1w.but hBr (fun _ _ h => h)
    have hs2 := hs2w.but hBr (fun _ _ h => h)
    have hlt2 := owns_lt hs2w
    clear z0 z1 z2 hs1w
    clear hgl' ho HA
    have hB1 : But (fun _ => False) wr (wr.alloc (.cells #[.bool true, .slice a1 st.length c1, .slice a2 lo.length c2] 117)) := But.alloc _ _ _
    have hgS := heap_alloc_new wr (.cells #[.bool true, .slice a1 st.length c1, .slice a2 lo.length c2] 117)
    have hO2 := hO.but hB1 (fun _ _ h => h)
    have hs1' := hs1.but hB1 (fun _ _ h => h)
    have hs2' := hs2.but hB1 (fun _ _ h => h)
    have hge := owns_ge hO
    have hlt' := owns_lt hO
    obtain ⟨S2, hS2⟩ : ∃ S2, s ++ st = S2 := ⟨_, rfl⟩
    have hnS2 : S2.length ≤ 200 * k + 100 := by rw [← hS2]; simp; omega
    have HS2 := hid hS2
    clear hS2
    go_wp2_with (at_builtin; refine wpList_append_btl rfl _ _ rfl (w.heap.size + 1) 0 _ _ s st S2 HS2 rfl rfl hO2 hs1' (by omega) (by simp; omega) ?_)
    intro ao2 cap2 w2 hO3 hB3 _
    have hBw2 : But (fun k' => (Value.slice ao s.length cap).ownBlock = some k') wr w2 := (But.alloc _ _ _).trans hB3
    have hB2 : But (fun _ => False) w w2 := hBr.next hBw2 (fun k' hk' h => absurd (hge k' h) (by omega))
    have hg2 := (hBw2.block w.heap.size hgl (fun h => by have := hge _ h; omega)).trans hgr
    have hgS2 := (hB3.block wr.heap.size (lt_of_block hgS) (fun h => by have := hlt' _ h; omega)).trans hgS
    have hlo2 : BtB w2 0 (.slice a2 lo.length c2) lo := hs2.but hBw2 (fun g hg h => by have := hlt2 g hg; have := hge g h; omega)
    obtain ⟨m0, m1, m2⟩ := row3 hgS2
    have hz2 := hBw2.size
    clear hO2 hB3 q0 q1 q2 hs1' hs2'
    have hl2 := lit_one w2 124 124 rfl w2.heap.size rfl
    have hO4 := hO3.but (But.alloc (fun _ => False) _ (.cells #[.int .u8 124] 5)) (fun _ _ h => h)
    have hge3 := owns_ge hO3
    obtain ⟨S3, hS3⟩ : ∃ S3, S2 ++ [124] = S3 := ⟨_, rfl⟩
    have hnS3 : S3.length ≤ 200 * k + 101 := by rw [← hS3]; simp; omega
    have HS3 := hid hS3
    clear hS3
    go_wp2_with (at_builtin; refine wpList_append_btl rfl _ _ rfl (w.heap.size + 1) 0 _ _ S2 [124] S3 HS3 rfl rfl hO4 hl2 (by omega) (by simp; omega) ?_)
    intro ao3 cap3 w3 hO5 hB5 _
    have hBw3 : But (fun k' => (Value.slice ao2 S2.length cap2).ownBlock = some k') w2 w3 := (But.alloc _ _ _).trans hB5
    have hB3 : But (fun _ => False) w w3 := hB2.next hBw3 (fun k' hk' h => absurd (hge3 k' h) (by omega))
    have hg3 := (hBw3.block w.heap.size (lt_of_block hg2) (fun h => by have := hge3 _ h; omega)).trans hg2
    have hgS3 := (hBw3.block wr.heap.size (lt_of_block hgS2) (fun h => owns_apart hO3 hgS2 (by decide) h)).trans hgS2
    have hlo3 : BtB w3 0 (.slice a2 lo.length c2) lo := hlo2.but hBw3 (fun g hg h => by have := hlt2 g hg; have := hge3 g h; omega)
    have hz3 := hBw3.size
    have hge5 := owns_ge hO5
    clear hl2 hO4 hB5 m0 m1 m2
    obtain ⟨m0, m1, m2⟩ := row3 hgS3
    have hglS := lt_of_block hgS3
    obtain ⟨S4, hS4⟩ : ∃ S4, S3 ++ lo = S4 := ⟨_, rfl⟩
    have hnS4 : S4.length ≤ 200 * k + 106 := by rw [← hS4]; simp; omega
    have HS4 := hid hS4
    clear hS4
    go_wp2_with (at_builtin; refine wpList_append_btl rfl _ _ rfl (w.heap.size + 1) 0 _ _ S3 lo S4 HS4 rfl rfl hO5 hlo3 (by omega) (by omega) ?_)
    intro ao4 cap4 w4 hO6 hB6 _
    have hB4 : But (fun _ => False) w w4 := hB3.next hB6 (fun k' hk' h => absurd (hge5 k' h) (by omega))
    have hg4 := (hB6.block w.heap.size (lt_of_block hg3) (fun h => by have := hge5 _ h; omega)).trans hg3
    have hz4 := hB6.size
    have hge6 := owns_ge hO6
    clear m0 m1 m2
    have hl7 := lit_one w4 44 44 rfl w4.heap.size rfl
    have hO7 := hO6.but (But.alloc (fun _ => False) _ (.cells #[.int .u8 44] 5)) (fun _ _ h => h)
    obtain ⟨S5, hS5⟩ : ∃ S5, S4 ++ [44] = S5 := ⟨_, rfl⟩
    have hnS5 : S5.length ≤ 200 * k + 107 := by rw [← hS5]; simp; omega
    have HS5 := hid hS5
    clear hS5
    go_wp2_with (at_builtin; refine wpList_append_btl rfl _ _ rfl (w.heap.size + 1) 0 _ _ S4 [44] S5 HS5 rfl rfl hO7 hl7 (by omega) (by simp; omega) ?_)
    intro ao5 cap5 w5 hO8 hB8 _
    have hBw5 : But (fun k' => (Value.slice ao4 S4.length cap4).ownBlock = some k') w4 w5 := (But.alloc _ _ _).trans hB8
    have hB5 : But (fun _ => False) w w5 := hB4.next hBw5 (fun k' hk' h => absurd (hge6 k' h) (by omega))
    have hg5 := (hBw5.block w.heap.size (lt_of_block hg4) (fun h => by have := hge6 _ h; omega)).trans hg4
    clear hl7 hO7 hB8
    go_wp2_with fail
    go_roundg (t.length - (k + 1))
    case measure => omega
    case rel => exact ⟨k + 1, ao5, cap5, S5, rfl, hO8, by omega, by simp, by omega, by omega, by omega, hB5, hg5, hid (by rw [HT.out, ← HS5.out, ← HS4.out, ← HS3.out, ← HS2.out]; simp [oneW])⟩
  ·have hkn : ¬ (k : Int) < (t.length : Int) := by omega
   have hres : writtenT t = s ++ [59] := by rw [writtenT, ← HA.out, List.take_of_length_le (by omega)]
   obtain ⟨S2, hS2⟩ : ∃ S2, s ++ [59] = S2 := ⟨_, rfl⟩
   have hnS2 : S2.length ≤ 200 * k + 1 := by rw [← hS2]; simp; omega
   have HRS := hid (hres.trans hS2)
   have HS2 := hid hS2
   clear hres HA hS2
   have hl1 := lit_one wr 59 59 rfl wr.heap.size rfl
   have hO2 := hO.but (But.alloc (fun _ => False) _ (.cells #[.int .u8 59] 5)) (fun _ _ h => h)
   have hge := owns_ge hO
   go_wp2_with (at_builtin; refine wpList_append_btl rfl _ _ rfl (w.heap.size + 1) 0 _ _ s [59] S2 HS2 rfl rfl hO2 hl1 (by omega) (by simp; omega) ?_)
   intro ao3 cap3 w3 hO5 hB5 _
   have hBw3 : But (fun k' => (Value.slice ao s.length cap).ownBlock = some k') wr w3 := (But.alloc _ _ _).trans hB5
   have hB3 : But (fun _ => False) w w3 := hBr.next hBw3 (fun k' hk' h => absurd (hge k' h) (by omega))
   have hcv := conv_bts hO5
   clear hl1 hO2 hB5
   go_wp2_with fail
   exact bodyPost_ret (v := .string ⟨S2.toArray⟩) (by simp [results, Tryz.results37, go_sem]) rfl ⟨by rw [HRS.out], hB3⟩
end Go.Proofs.YtpfkkmacakjmbaaGreatDoor
/- The program's Types. -/
namespace Go.Proofs.YtpfkkmacakjmbaaGreatDoor
open Go Go.RowKit Sp
set_option linter.unusedSimpArgs false
set_option linter.unusedVariables false
attribute [local go_sem ↓] Go.wp_at_zero Go.wp_at_succ
theorem linkP_wf {s : ByteArray} {im : Img} (h : linkP s = .ok im) : WfI im := by
 unfold linkP at h
 by_cases hb : 2000 < s.size
 ·rw [if_pos hb] at h; cases h
 rw [if_neg hb] at h
 cases hr : readP s with
 | error j => rw [hr] at h; cases h
 | ok im' =>
  rw [hr] at h
  simp only at h
  split at h
  ·cases h
  ·cases h
   exact readP_wf (by omega) hr
/-- What Types answers of what examineImage found. -/
theorem xtypes_err (s : ByteArray) (w : World) (hmax : s.size ≤ maxLen) (e p : Nat) (h : ∀ w, Calls Tryz.prog 36 #[.string s] w fun en w' => But (fun _ => False) w w' ∧ en = .returned (.agg #[.int .i64 e, .int .i64 p, .pointer none, .slice none 0 0])) :
  Calls Tryz.prog 19 #[.string s] w fun en w' => en = .returned (.tuple #[.string ⟨#[]⟩, .int .i64 e]) ∧ But (fun _ => False) w w' := by
 have HK := hid h
 clear h
 go_enter Tryz.func19, Tryz.ntmps19
 go_wp2_with fail
 refine (HK.out w).mono ?_
 rintro en w1 ⟨hB1, rfl⟩
 go_wp2_with fail
 have hBW : But (fun _ => False) w1 (w1.alloc (.cells #[.int .i64 e, .int .i64 p, .pointer none, .slice none 0 0] 60)) := But.alloc _ _ _
 have hgW := heap_alloc_new w1 (.cells #[.int .i64 e, .int .i64 p, .pointer none, .slice none 0 0] 60)
 revert hBW hgW
 generalize (w1.alloc (.cells #[.int .i64 e, .int .i64 p, .pointer none, .slice none 0 0] 60)) = W
 intro hBW hgW
 obtain ⟨k0, k1, k2, k3⟩ := row4 hgW
 have hgl := lt_of_block hgW
 have hBw := hB1.trans hBW
 go_loopg [5, 6] 0 (fun mm ss is wr => ss = .string ⟨#[]⟩ ∧ is = .int .i64 0 ∧ wr = W)
 case atStart => exact ⟨rfl, rfl, rfl⟩
 case round =>
  obtain ⟨rfl, rfl, hww⟩ := hrel
  subst hww
  go_wp2_with fail
  have hS0 : But (fun _ => False) wr wr.drew := But.drew _ _
  refine wpP_begin (But (fun _ => False) wr) 4 (by kernel_rfl) ?_
  refine wpP_take (k := 1) (v := ?vA1) rfl (by decide) (by kernel_rfl) ?qA1 rfl hS0 ?yA1 ?rA1
  case yA1 => intro wS h; have q0 := ((h.cell (p := ⟨w1.heap.size, 0, none⟩) hgl (fun h => h)).trans k0); clear h; go_simp; try rfl
  case qA1 => exact fun _ _ _ h => h
  dsimp only [Act.put]
  try simp only [puts]
  refine wpP_take (k := 2) (v := ?vA2) rfl (by decide) (by kernel_rfl) ?qA2 rfl hS0 ?yA2 ?rA2
  case yA2 => intro wS h; have q0 := ((h.cell (p := ⟨w1.heap.size, 0, none⟩) hgl (fun h => h)).trans k0); clear h; go_simp; try rfl
  case qA2 => exact fun _ _ _ h => h
  dsimp only [Act.put]
  try simp only [puts]
  refine wpP_take (k := 0) (v := ?vA0) rfl (by decide) (by kernel_rfl) ?qA0 rfl hS0 ?yA0 ?rA0
  case yA0 => intro wS h; have q0 := ((h.cell (p := ⟨w1.heap.size, 0, none⟩) hgl (fun h => h)).trans k0); clear h; go_simp; try rfl
  case qA0 => exact fun _ _ _ h => h
  dsimp only [Act.put]
  try simp only [puts]
  refine wpP_step (k := 3) (o := ?oA3) ?hoA3 ?hlA3 ?hrA3 ?stA3
  case hoA3 => rfl
  case hlA3 => decide
  case hrA3 => kernel_rfl
  case' stA3 =>
  intro KS hKS
  go_simp
  refine hKS.out _ _ (fun _ => hS0) ?_
  clear hKS KS
  refine wpP_step (k := 4) (o := ?oA4) ?hoA4 ?hlA4 ?hrA4 ?stA4
  case hoA4 => rfl
  case hlA4 => decide
  case hrA4 => kernel_rfl
  case' stA4 =>
  intro KS hKS
  go_simp
  refine hKS.out _ _ (fun h => absurd h (by decide)) ?_
  clear hKS KS
  refine wpP_done rfl (by kernel_rfl) ?_
  go_wp2_with fail
  exact bodyPost_ret (v := .tuple #[.string ⟨#[]⟩, .int .i64 e]) (by simp [results, Tryz.results19, go_sem]) rfl ⟨rfl, hBw.trans hS0⟩
set_option maxHeartbeats 1600000 in
set_option maxRecDepth 100000 in
theorem xtypes_ok (s : ByteArray) (w : World) (hmax : s.size ≤ maxLen) (ts : List (List St)) (hsh : ∀ t ∈ ts, shortT t) (hl7 : ts.length ≤ 7)
  (h : ∀ w, Calls Tryz.prog 36 #[.string s] w fun en w' => But (fun _ => False) w w' ∧ ∃ g ao cap l, en = .returned (.agg #[.int .i64 0, .int .i64 0, .pointer (some ⟨g, 0, none⟩), .slice ao (List.length l) cap]) ∧ l.map (·.2) = ts ∧ XTabs w' w.heap.size (.slice ao l.length cap) l) :
  Calls Tryz.prog 19 #[.string s] w fun en w' => en = .returned (.tuple #[.string ⟨(ts.flatMap writtenT).toArray⟩, .int .i64 0]) ∧ But (fun _ => False) w w' := by
 have HK := hid h
 clear h
 go_enter Tryz.func19, Tryz.ntmps19
 go_wp2_with fail
 refine (HK.out w).mono ?_
 rintro en w1 ⟨hB1, g, ao, cap, l, rfl, hlt, hts⟩
 have hll : l.length ≤ 7 := by
  have : l.length = ts.length := by rw [← hlt]; simp
  omega
 have HSH : Hid (∀ p ∈ l, shortT p.2) := hid (fun p hp => hsh p.2 (by rw [← hlt]; exact List.mem_map_of_mem hp))
 have HRR : Hid ((l.map (·.2)).flatMap writtenT = ts.flatMap writtenT) := hid (by rw [hlt])
 obtain ⟨R, hRR⟩ : ∃ R, ts.flatMap writtenT = R := ⟨_, rfl⟩
 clear hsh hlt HK hl7
 go_wp2_with fail
 have hBW : But (fun _ => False) w1 (w1.alloc (.cells #[.int .i64 0, .int .i64 0, .pointer (some ⟨g, 0, none⟩), .slice ao l.length cap] 60)) := But.alloc _ _ _
 have hgW := heap_alloc_new w1 (.cells #[.int .i64 0, .int .i64 0, .pointer (some ⟨g, 0, none⟩), .slice ao l.length cap] 60)
 revert hBW hgW
 generalize (w1.alloc (.cells #[.int .i64 0, .int .i64 0, .pointer (some ⟨g, 0, none⟩), .slice ao l.length cap] 60)) = W
 intro hBW hgW
 have htW := hts.but hBW
 have hBw := hB1.trans hBW
 go_loopg [5, 6] l.length (fun mm ss ks wr => ∃ (k : Nat) (s : List UInt8), ss = .string ⟨s.toArray⟩ ∧ s.length ≤ 20001 * k ∧ ks = .int .i64 k ∧ k ≤ l.length ∧ k + mm ≤ l.length ∧ l.length ≤ k + mm ∧ But (fun _ => False) W wr ∧ Hid (((l.take k).map (·.2)).flatMap writtenT = s))
 case atStart => exact ⟨0, [], rfl, by simp, rfl, by omega, by omega, by omega, But.refl _ _, rfl⟩
 case round =>
  obtain ⟨k, s', rfl, hsl, rfl, hk1, hk2, hk3, hBr, HA⟩ := hrel
  clear hk2
  have hgr := (hBr.block w1.heap.size (lt_of_block hgW) (fun h => h)).trans hgW
  obtain ⟨k0, k1, k2, k3⟩ := row4 hgr
  have hglr := lt_of_block hgr
  by_cases hlt : k < l.length
  ·have hkn : (k : Int) < (l.length : Int) := by omega
   have hgl := List.getElem?_eq_getElem hlt
   obtain ⟨p, hpp⟩ : ∃ p, l[k] = p := ⟨_, rfl⟩
   have hmem : l[k] ∈ l := List.getElem_mem hlt
   rw [hpp] at hgl hmem
   obtain ⟨gp, tp⟩ := p
   obtain ⟨gq, hao, hg1, hg2, hcell⟩ := owns_two (owns_but htW.1 hBr (fun _ _ h => h)) (by omega)
   subst hao
   have q0 : wr.cell? ⟨gq, k, none⟩ = some (.slice (some ⟨gp, 0, none⟩) tp.length tp.length) := hcell _ _ (by simp [xtvCells, hgl])
   have hTp : StB wr gp tp := (htW.2 _ hmem).off hBr (fun h => h) (fun _ _ _ h => h)
   have hsp := HSH.out _ hmem
   have hwl := writtenT_len hsp
   have HT : Hid (((l.take (k + 1)).map (·.2)).flatMap writtenT = s' ++ writtenT tp) := by
    show _ = _
    rw [List.take_add_one, hgl, List.map_append, List.flatMap_append, HA.out]
    simp
   clear hcell hgl hpp HA
   have HWR := hid (fun (wx : World) (h : But (fun _ => False) wr wx) => xwrite_any gp tp wx (hTp.off h (fun h => h) (fun _ _ _ h => h)) hsp)
   go_wp2_with fail
   refine (HWR.out wr (But.refl _ _)).mono ?_
   rintro en w3 ⟨rfl, hB3⟩
   revert HT hwl
   generalize writtenT tp = wt
   intro hwl HT
   have n1 : ¬ 9223372036854775807 < s'.length + wt.length := by omega
   clear q0 k0 k1 k2 k3 HWR
   go_wp2_with fail
   go_roundg (l.length - (k + 1))
   case measure => omega
   case rel => exact ⟨k + 1, s' ++ wt, congrArg Value.string (bytes_append _ _), by simp; omega, by simp, by omega, by omega, by omega, hBr.trans hB3, HT.out⟩
  ·have hkn : ¬ (k : Int) < (l.length : Int) := by omega
   have hres : s' = R := by rw [← hRR, ← HRR.out, ← HA.out, List.take_of_length_le (by omega)]
   rw [← hRR] at hres
   have HRES := hid hres
   clear HA HRR hres hRR
   go_wp2_with fail
   have hS0 : But (fun _ => False) wr wr.drew := But.drew _ _
   refine wpP_begin (But (fun _ => False) wr) 4 (by kernel_rfl) ?_
   refine wpP_take (k := 1) (v := ?vA1) rfl (by decide) (by kernel_rfl) ?qA1 rfl hS0 ?yA1 ?rA1
   case yA1 => intro wS h; have q0 := ((h.cell (p := ⟨w1.heap.size, 0, none⟩) hglr (fun h => h)).trans k0); clear h; go_simp; try rfl
   case qA1 => exact fun _ _ _ h => h
   dsimp only [Act.put]
   try simp only [puts]
   refine wpP_take (k := 2) (v := ?vA2) rfl (by decide) (by kernel_rfl) ?qA2 rfl hS0 ?yA2 ?rA2
   case yA2 => intro wS h; have q0 := ((h.cell (p := ⟨w1.heap.size, 0, none⟩) hglr (fun h => h)).trans k0); clear h; go_simp; try rfl
   case qA2 => exact fun _ _ _ h => h
   dsimp only [Act.put]
   try simp only [puts]
   refine wpP_take (k := 0) (v := ?vA0) rfl (by decide) (by kernel_rfl) ?qA0 rfl hS0 ?yA0 ?rA0
   case yA0 => intro wS h; have q0 := ((h.cell (p := ⟨w1.heap.size, 0, none⟩) hglr (fun h => h)).trans k0); clear h; go_simp; try rfl
   case qA0 => exact fun _ _ _ h => h
   dsimp only [Act.put]
   try simp only [puts]
   refine wpP_step (k := 3) (o := ?oA3) ?hoA3 ?hlA3 ?hrA3 ?stA3
   case hoA3 => rfl
   case hlA3 => decide
   case hrA3 => kernel_rfl
   case' stA3 =>
   intro KS hKS
   go_simp
   refine hKS.out _ _ (fun _ => hS0) ?_
   clear hKS KS
   refine wpP_step (k := 4) (o := ?oA4) ?hoA4 ?hlA4 ?hrA4 ?stA4
   case hoA4 => rfl
   case hlA4 => decide
   case hrA4 => kernel_rfl
   case' stA4 =>
   intro KS hKS
   go_simp
   refine hKS.out _ _ (fun h => absurd h (by decide)) ?_
   clear hKS KS
   refine wpP_done rfl (by kernel_rfl) ?_
   go_wp2_with fail
   exact bodyPost_ret (v := .tuple #[.string ⟨s'.toArray⟩, .int .i64 0]) (by simp [results, Tryz.results19, go_sem]) rfl ⟨by rw [HRES.out], (hBw.trans hBr).trans hS0⟩
theorem xTypes_any (s : ByteArray) (w : World) (hmax : s.size ≤ maxLen) :
  Calls Tryz.prog 19 #[.string s] w fun en w' => en = .returned (.tuple #[.string ⟨(typesP s).1.toArray⟩, .int .i64 (typesP s).2]) ∧ But (fun _ => False) w w' := by
 have hex := fun w => xexamine_any s w hmax
 unfold typesP
 cases hl : linkP s with
 | error e =>
  obtain ⟨e, p⟩ := e
  exact xtypes_err s w hmax e p (fun w => (hex w).mono (fun en w' h => ⟨h.1, by have := h.2; unfold ExamP at this; rw [hl] at this; exact this⟩))
 | ok im =>
  simp only
  cases ht : tabsP im 0 im.bodies with
  | error k => exact xtypes_err s w hmax 4 k (fun w => (hex w).mono (fun en w' h => ⟨h.1, by have := h.2; unfold ExamP at this; rw [hl] at this; simp only [ht] at this; exact this⟩))
  | ok ts =>
   have hW : WfI im := linkP_wf hl
   have hm := tabsP_mem ht
   refine xtypes_ok s w hmax ts (fun t htt => ?_) (by rw [hm.1]; exact hW.nb) (fun w => (hex w).mono (fun en w' h => ⟨h.1, ?_⟩))
   ·obtain ⟨b, hb1, hb2⟩ := hm.2 t htt
    have hwb := hW.bod b hb1
    exact (leastT_wf hW hwb hb2).short hwb.len.2 hwb.loc.1
   ·have := h.2
    unfold ExamP at this
    rw [hl] at this
    simp only [ht] at this
    obtain ⟨g, ao, cap, l, h1, h2, h3, _⟩ := this
    exact ⟨g, ao, cap, l, h1, h2, h3⟩
end Go.Proofs.YtpfkkmacakjmbaaGreatDoor
/- The steps of one kind; Tables. -/
namespace Go.Proofs.YtpfkkmacakjmbaaGreatDoor
open Go Go.RowKit Sp
set_option linter.unusedSimpArgs false
set_option linter.unusedVariables false
attribute [local go_sem ↓] Go.wp_at_zero Go.wp_at_succ
set_option maxHeartbeats 1600000 in
set_option maxRecDepth 100000 in
theorem upto_kind (K : Int) (hP : ∀ (x y z : Int) (s t u : ByteArray) (w : World), s.size ≤ maxLen → Calls Tryz.prog 27 #[.agg #[.int .i64 K, .int .i64 x, .int .i64 y, .int .i64 z, .string s, .string t, .string u]] w fun en w' => en = .returned (.bool true) ∧ But (fun _ => False) w w') (ao : Option Addr) (n cap : Nat) (w : World) (hO : OpsAt w ao n) :
  Calls Tryz.prog 15 #[.slice ao n cap, .int .i64 K, .int .i64 K] w fun en w' => en = .returned (.int .i64 (-1)) ∧ But (fun _ => False) w w' := by
 have HP := hid hP
 clear hP
 go_enter Tryz.func15, Tryz.ntmps15
 go_wp2_with fail
 have hn : n ≤ 9223372036854775807 := hO.1
 go_loopg [7] n (fun mm is wr => ∃ (k : Nat), is = .int .i64 k ∧ k ≤ n ∧ k + mm ≤ n ∧ n ≤ k + mm ∧ But (fun _ => False) w wr)
 case atStart => exact ⟨0, rfl, by omega, by omega, by omega, But.refl _ _⟩
 case round =>
  obtain ⟨k, rfl, hk1, hk2, hk3, hBr⟩ := hrel
  clear hk2
  by_cases hlt : k < n
  ·have hkn : (k : Int) < (n : Int) := by omega
   obtain ⟨b, o, rfl, hb, hA⟩ := hO.2 (by omega)
   obtain ⟨kd, s, ⟨x, y, z, t, u, q0, q1, q2, q3, q4, q5, q6⟩, hs⟩ := hA k hlt
   have hbr : b < wr.heap.size := Nat.lt_of_lt_of_le hb hBr.size
   rw [← hBr.cell (p := ⟨b, _, none⟩) hb (fun h => h)] at q0 q1 q2 q3 q4 q5 q6
   clear hA
   have hwr : IntKind.i64.wrap ((k : Int) + 1) = (k : Int) + 1 := (IntWalk.i64_left _).trans (IntWalk.wrap64_in _ ⟨by omega, by omega⟩)
   by_cases hmx : (k : Int) < 1152921504606846976
   ·rcases Int.lt_trichotomy kd K with h1 | h1 | h1
    ·have hB2 := hBr.trans (But.alloc _ wr (.cells #[.int .i64 kd, .int .i64 x, .int .i64 y, .int .i64 z, .string s, .string t, .string u] 27))
     have g1 : decide (K ≤ kd) = false := decide_eq_false (by omega)
     clear hO hlt hn h1 hb
     go_wp2_with fail
     go_roundg (n - (k + 1))
     case measure => omega
     case rel => exact ⟨k + 1, by simp, by omega, by omega, by omega, hB2⟩
    ·subst h1
     have g1 : decide (kd ≤ kd) = true := decide_eq_true (by omega)
     go_wp2_with fail
     refine (HP.out x y z s t u _ hs).mono ?_
     rintro en w1 ⟨rfl, hB1⟩
     have hB2 := hBr.trans ((But.alloc _ _ _).trans hB1)
     clear hB1
     go_wp2_with fail
     go_roundg (n - (k + 1))
     case measure => omega
     case rel => exact ⟨k + 1, by simp, by omega, by omega, by omega, hB2⟩
    ·have hB2 := hBr.trans (But.alloc _ wr (.cells #[.int .i64 kd, .int .i64 x, .int .i64 y, .int .i64 z, .string s, .string t, .string u] 27))
     have g1 : decide (K ≤ kd) = true := decide_eq_true (by omega)
     have g2 : decide (kd ≤ K) = false := decide_eq_false (by omega)
     clear hO hlt hn h1 hb
     go_wp2_with fail
     go_roundg (n - (k + 1))
     case measure => omega
     case rel => exact ⟨k + 1, by simp, by omega, by omega, by omega, hB2⟩
   ·go_wp2_with fail
    exact bodyPost_ret (v := .int .i64 (-1)) (by simp [results, Tryz.results15, go_sem]) rfl ⟨rfl, hBr⟩
  ·have hkn : ¬ (k : Int) < (n : Int) := by omega
   go_wp2_with fail
   exact bodyPost_ret (v := .int .i64 (-1)) (by simp [results, Tryz.results15, go_sem]) rfl ⟨rfl, hBr⟩
set_option maxHeartbeats 1600000 in
set_option maxRecDepth 100000 in
theorem plays_types (a b c : Int) (s t u : ByteArray) (w : World) (hmax : s.size ≤ maxLen) :
  Calls Tryz.prog 27 #[.agg #[.int .i64 2, .int .i64 a, .int .i64 b, .int .i64 c, .string s, .string t, .string u]] w fun en w' => en = .returned (.bool true) ∧ But (fun _ => False) w w' := by
 obtain ⟨E, hE⟩ : ∃ E, typesP s = E := ⟨_, rfl⟩
 obtain ⟨e, p⟩ := E
 have H1 : Hid (∀ w, Calls Tryz.prog 19 #[.string s] w fun en w' => en = .returned (.tuple #[.string ⟨e.toArray⟩, .int .i64 p]) ∧ But (fun _ => False) w w') := hid (fun w => by have := xTypes_any s w hmax; rw [hE] at this; exact this)
 have H2 : Hid (∀ w, Calls Tryz.prog 47 #[.string s] w fun en w' => en = .returned (.tuple #[.string ⟨e.toArray⟩, .int .i64 p]) ∧ But (fun _ => False) w w') := hid (fun w => by have := types_doc s w hmax; rw [hE] at this; exact this)
 clear hE
 go_enter Tryz.func27, Tryz.ntmps27
 go_wp2_with fail
 refine (H1.out _).mono ?_
 rintro en w1 ⟨rfl, hB1⟩
 have hg0 := heap_alloc_new w (.cells #[.int .i64 2, .int .i64 a, .int .i64 b, .int .i64 c, .string s, .string t, .string u] 27)
 have hBW : But (fun _ => False) w (w.alloc (.cells #[.int .i64 2, .int .i64 a, .int .i64 b, .int .i64 c, .string s, .string t, .string u] 27)) := But.alloc _ _ _
 have hg1 := (hB1.block _ (lt_of_block hg0) (fun h => h)).trans hg0
 have hBw := hBW.trans hB1
 clear hg0 hBW hB1
 have k4 : w1.cell? ⟨w.heap.size, 4, none⟩ = some (.string s) := by rw [cell_of_row w1 _ 4 _ _ (0, 0) hg1]; rfl
 have hgl := lt_of_block hg1
 go_wp2_with fail
 refine (H2.out _).mono ?_
 rintro en w2 ⟨rfl, hB2⟩
 have hB := hBw.trans hB2
 clear hB2 hBw
 go_wp2_with fail
 refine (num_any _ _).mono ?_
 rintro en w3 ⟨rfl, rfl⟩
 go_wp2_with fail
 all_goals go_ret
 all_goals exact ⟨rfl, hB⟩
theorem tables_all (ao : Option Addr) (n cap : Nat) (w : World) (hO : OpsAt w ao n) :
  Calls Tryz.prog 4 #[.slice ao n cap] w fun en w' => en = .returned (.bool true) ∧ But (fun _ => False) w w' := by
 have HU := hid (upto_kind 2 plays_types ao n cap w hO)
 clear hO
 go_enter Tryz.func4, Tryz.ntmps4
 go_wp2_with fail
 refine HU.out.mono ?_
 rintro en w1 ⟨rfl, hB⟩
 go_wp2_with fail
 all_goals go_ret
 all_goals exact ⟨rfl, hB⟩
end Go.Proofs.YtpfkkmacakjmbaaGreatDoor
