import Derived.Test.YtpfkkmacakjmbaaGreatDoorP30
import Derived.Test.YtpfkkmacakjmbaaGreatDoorP15
/- The program examines an image. -/
namespace Go.Proofs.YtpfkkmacakjmbaaGreatDoor
open Go Go.RowKit Sp
set_option linter.unusedSimpArgs false
set_option linter.unusedVariables false
attribute [local go_sem ↓] Go.wp_at_zero Go.wp_at_succ
def xtvCells (l : List (Nat × List St)) : List Value := l.map fun p => .slice (some ⟨p.1, 0, none⟩) p.2.length p.2.length
/-- The tables of the program. -/
def XTabs (w : World) (base : Nat) (v : Value) (l : List (Nat × List St)) : Prop :=
 w.ownsRow base 65 1 v l.length (xtvCells l) ∧ ∀ p ∈ l, StB w p.1 p.2
theorem XTabs.but {w w' : World} {base : Nat} {v : Value} {l : List (Nat × List St)} (h : XTabs w base v l) (hb : But (fun _ => False) w w') : XTabs w' base v l :=
 ⟨owns_but h.1 hb (fun _ _ h => h), fun p hp => (h.2 p hp).off hb (fun h => h) (fun _ _ _ h => h)⟩
/-- A block of findings lies aside of the tables. -/
theorem XTabs.aside {w w' : World} {base g : Nat} {v : Value} {l : List (Nat × List St)} {cur : Array Value} (h : XTabs w base v l) (hb : But (· = g) w w') (hg : w.heap[g]? = some (.cells cur 60)) : XTabs w' base v l := by
 have hne : ∀ k c e, w.heap[k]? = some (.cells c e) → e ≠ 60 → ¬ k = g := by
  intro k c e hk he h9
  rw [h9, hg] at hk
  injection hk with hk
  injection hk with _ h2
  exact he h2.symm
 refine ⟨owns_off h.1 hb (fun k c hk _ => hne k c _ hk (by decide)), fun p hp => (h.2 p hp).off hb ?_ (fun k c hk => hne k c _ hk (by decide))⟩
 obtain ⟨l', hs', _⟩ := h.2 p hp
 exact hne _ _ _ hs' (by decide)
theorem info_xtab : (Tryz.prog.info? 65).map (fun i => (i.zero, i.size, i.bytes)) = some (some (.agg #[.slice none 0 0]), 1, 24) := by kernel_rfl
/-- What examine answers. -/
def ExamP (s : ByteArray) (w : World) (en : Ending) (w' : World) : Prop :=
 match linkP s with
 | .error (e, p) => en = .returned (.agg #[.int .i64 e, .int .i64 p, .pointer none, .slice none 0 0])
 | .ok im =>
  match tabsP im 0 im.bodies with
  | .error k => en = .returned (.agg #[.int .i64 4, .int .i64 k, .pointer none, .slice none 0 0])
  | .ok ts => ∃ g ao cap l, en = .returned (.agg #[.int .i64 0, .int .i64 0, .pointer (some ⟨g, 0, none⟩), .slice ao (List.length l) cap]) ∧ l.map (·.2) = ts ∧ XTabs w' w.heap.size (.slice ao l.length cap) l ∧ TextX w' g im
theorem TextX.but {w w' : World} {g : Nat} {im : Img} (h : TextX w g im) (hb : But (fun _ => False) w w') : TextX w' g im := ⟨h.cls.but hb, h.met.but hb, h.bod.but hb⟩
theorem TextX.off {F : Nat → Prop} {w w' : World} {g : Nat} {im : Img} (h : TextX w g im) (hb : But F w w') (hg : ¬ F g) (hf : ∀ k cur e, w.heap[k]? = some (.cells cur e) → (e = 240 ∨ e = 243 ∨ e = 115 ∨ e = 219 ∨ e = 5) → ¬ F k) : TextX w' g im := by
 obtain ⟨⟨v0, l, h0, hl, hO, hm, hfl⟩, ⟨v1, h1, _, hO1⟩, ⟨v2, h2, _, hT⟩⟩ := h
 refine ⟨⟨v0, l, (hb.cell (p := ⟨g, 0, none⟩) hl hg).trans h0, Nat.lt_of_lt_of_le hl hb.size, owns_off hO hb (fun k cur hh _ => hf k cur _ hh (by simp)), hm, fun x hx => owns_off (hfl x hx) hb (fun k cur hh _ => hf k cur _ hh (by simp))⟩, ⟨v1, (hb.cell (p := ⟨g, 1, none⟩) hl hg).trans h1, Nat.lt_of_lt_of_le hl hb.size, owns_off hO1 hb (fun k cur hh _ => hf k cur _ hh (by simp))⟩, ⟨v2, (hb.cell (p := ⟨g, 2, none⟩) hl hg).trans h2, Nat.lt_of_lt_of_le hl hb.size, hT.but hb (fun k e cur hh he _ => hf k cur e hh (by rcases he with h | h | h <;> simp [h]))⟩⟩
/-- What formAndLinks answers of a text that was read. -/
def LinkV (g : Nat) (im : Img) : Value := match im.bodies.findSome? (fun b => unl im.classes im.bodies b.code) with
 | some q => .agg #[.int .i64 3, .int .i64 q, .pointer none, .slice none 0 0]
 | none => .agg #[.int .i64 0, .int .i64 0, .pointer (some ⟨g, 0, none⟩), .slice none 0 0]
set_option maxHeartbeats 1600000 in
set_option maxRecDepth 100000 in
theorem xform_bad (g j : Nat) (w : World) :
  Calls Tryz.prog 64 #[.pointer (some ⟨g, 0, none⟩), .int .i64 j] w fun en w' => But (fun _ => False) w w' ∧ en = .returned (.agg #[.int .i64 2, .int .i64 j, .pointer none, .slice none 0 0]) := by
 have hjn : ¬ (j : Int) = -1 := by omega
 have e1 : ((j : Int) == -1) = false := by rw [beq_eq_false_iff_ne]; omega
 have e2 : ((j : Int) != -1) = true := by simp [bne, e1]
 go_enter Tryz.func64, Tryz.ntmps64
 go_wp2_with fail
 have h9 := heap_alloc_new w (.cells #[.int .i64 2, .int .i64 j, .pointer none, .slice none 0 0] 60)
 have h9b : But (fun _ => False) w (w.alloc (.cells #[.int .i64 2, .int .i64 j, .pointer none, .slice none 0 0] 60)) := But.alloc _ _ _
 revert h9 h9b
 generalize (w.alloc (.cells #[.int .i64 2, .int .i64 j, .pointer none, .slice none 0 0] 60)) = w9
 intro h9 h9b
 obtain ⟨r0, r1, r2, r3⟩ := row4 h9
 exact bodyPost_ret (v := .agg #[.int .i64 2, .int .i64 j, .pointer none, .slice none 0 0]) (by simp [results, Tryz.results64, go_sem, r0, r1, r2, r3]) rfl ⟨h9b, rfl⟩
set_option maxHeartbeats 1600000 in
set_option maxRecDepth 100000 in
theorem xform_ok (g : Nat) (im : Img) (w : World) (hW : WfI im) (hTX : TextX w g im) :
  Calls Tryz.prog 64 #[.pointer (some ⟨g, 0, none⟩), .int .i64 (-1)] w fun en w' => But (fun _ => False) w w' ∧ en = .returned (LinkV g im) := by
 have hBW : But (fun _ => False) w (w.alloc (.cells #[.int .i64 0, .int .i64 0, .pointer none, .slice none 0 0] 60)) := But.alloc _ _ _
 have hgW := heap_alloc_new w (.cells #[.int .i64 0, .int .i64 0, .pointer none, .slice none 0 0] 60)
 cases hfs : im.bodies.findSome? (fun b => unl im.classes im.bodies b.code) with
 | some q =>
  have e1 : ((q : Int) == -1) = false := by rw [beq_eq_false_iff_ne]; omega
  have e2 : ((q : Int) != -1) = true := by simp [bne, e1]
  have hjn : ¬ (q : Int) = -1 := by omega
  have hlk := xlink_any g im (w.alloc (.cells #[.int .i64 0, .int .i64 0, .pointer none, .slice none 0 0] 60)) hW (hTX.but hBW)
  rw [hfs] at hlk
  simp only [placeI] at hlk
  rw [show LinkV g im = .agg #[.int .i64 3, .int .i64 q, .pointer none, .slice none 0 0] from by unfold LinkV; rw [hfs]]
  have HLK := hid hlk
  clear hlk hfs
  go_enter Tryz.func64, Tryz.ntmps64
  go_wp2_with fail
  revert hBW hgW HLK
  generalize (w.alloc (.cells #[.int .i64 0, .int .i64 0, .pointer none, .slice none 0 0] 60)) = W
  intro hBW hgW HLK
  have hgl := lt_of_block hgW
  refine HLK.out.mono ?_
  rintro en w2 ⟨rfl, hB2⟩
  have hBw2 := hBW.trans hB2
  have hg2 := (hB2.block w.heap.size hgl (fun h => h)).trans hgW
  have HG2 := hid hg2
  obtain ⟨q0, q1, q2, q3⟩ := row4 hg2
  obtain ⟨f0, f1, f2, f3⟩ := froz4 hg2
  clear hg2 hgW HLK
  go_wp2_with fail
  have h9 := put4_heap HG2.out (.int .i64 3) (.int .i64 q) (.pointer none) (.slice none 0 0)
  have h9b := put4_but w2 w.heap.size (.int .i64 3) (.int .i64 q) (.pointer none) (.slice none 0 0)
  unfold put4 at h9 h9b
  revert h9 h9b
  generalize ((((w2.setCell ⟨w.heap.size, 0, none⟩ (.int .i64 3)).setCell ⟨w.heap.size, 1, none⟩ (.int .i64 q)).setCell ⟨w.heap.size, 2, none⟩ (.pointer none)).setCell ⟨w.heap.size, 3, none⟩ (.slice none 0 0)) = w9
  intro h9 h9b
  obtain ⟨r0, r1, r2, r3⟩ := row4 h9
  exact bodyPost_ret (v := .agg #[.int .i64 3, .int .i64 q, .pointer none, .slice none 0 0]) (by simp [results, Tryz.results64, go_sem, r0, r1, r2, r3]) rfl ⟨hBw2.next h9b (fun k hk h => by omega), rfl⟩
 | none =>
  have hlk := xlink_any g im (w.alloc (.cells #[.int .i64 0, .int .i64 0, .pointer none, .slice none 0 0] 60)) hW (hTX.but hBW)
  rw [hfs] at hlk
  simp only [placeI] at hlk
  rw [show LinkV g im = .agg #[.int .i64 0, .int .i64 0, .pointer (some ⟨g, 0, none⟩), .slice none 0 0] from by unfold LinkV; rw [hfs]]
  have HLK := hid hlk
  clear hlk hfs
  go_enter Tryz.func64, Tryz.ntmps64
  go_wp2_with fail
  revert hBW hgW HLK
  generalize (w.alloc (.cells #[.int .i64 0, .int .i64 0, .pointer none, .slice none 0 0] 60)) = W
  intro hBW hgW HLK
  have hgl := lt_of_block hgW
  refine HLK.out.mono ?_
  rintro en w2 ⟨rfl, hB2⟩
  have hBw2 := hBW.trans hB2
  have hg2 := (hB2.block w.heap.size hgl (fun h => h)).trans hgW
  have HG2 := hid hg2
  obtain ⟨q0, q1, q2, q3⟩ := row4 hg2
  obtain ⟨f0, f1, f2, f3⟩ := froz4 hg2
  clear hg2 hgW HLK
  go_wp2_with fail
  have h9 := put4_heap HG2.out (.int .i64 0) (.int .i64 0) (.pointer (some ⟨g, 0, none⟩)) (.slice none 0 0)
  have h9b := put4_but w2 w.heap.size (.int .i64 0) (.int .i64 0) (.pointer (some ⟨g, 0, none⟩)) (.slice none 0 0)
  unfold put4 at h9 h9b
  revert h9 h9b
  generalize ((((w2.setCell ⟨w.heap.size, 0, none⟩ (.int .i64 0)).setCell ⟨w.heap.size, 1, none⟩ (.int .i64 0)).setCell ⟨w.heap.size, 2, none⟩ (.pointer (some ⟨g, 0, none⟩))).setCell ⟨w.heap.size, 3, none⟩ (.slice none 0 0)) = w9
  intro h9 h9b
  obtain ⟨r0, r1, r2, r3⟩ := row4 h9
  exact bodyPost_ret (v := .agg #[.int .i64 0, .int .i64 0, .pointer (some ⟨g, 0, none⟩), .slice none 0 0]) (by simp [results, Tryz.results64, go_sem, r0, r1, r2, r3]) rfl ⟨hBw2.next h9b (fun k hk h => by omega), rfl⟩
/-- The way out behind an error: the answer is what was found. -/
def Fnd (w : World) (g : Nat) (e p t l : Value) : Prop := w.heap[g]? = some (.cells #[e, p, t, l] 60)
set_option maxHeartbeats 3200000 in
set_option maxRecDepth 100000 in
theorem xexamine_any (s : ByteArray) (w : World) (hmax : s.size ≤ maxLen) :
  Calls Tryz.prog 36 #[.string s] w fun en w' => But (fun _ => False) w w' ∧ ExamP s w en w' := by
 obtain ⟨i0, hi0, hz0, hz1, hz2⟩ := info_parts info_xtab
 have hBW : But (fun _ => False) w (w.alloc (.cells #[.int .i64 0, .int .i64 0, .pointer none, .slice none 0 0] 60)) := But.alloc _ _ _
 have hgW := heap_alloc_new w (.cells #[.int .i64 0, .int .i64 0, .pointer none, .slice none 0 0] 60)
 by_cases hbig : 2000 < s.size
 ·have hbI : 2000 < (s.size : Int) := by omega
  have hL : linkP s = .error (1, 0) := by unfold linkP; rw [if_pos hbig]
  have HL := hid hL
  clear hbig hL
  go_enter Tryz.func36, Tryz.ntmps36
  go_wp2_with fail
  have h9 := heap_alloc_new w (.cells #[.int .i64 1, .int .i64 0, .pointer none, .slice none 0 0] 60)
  have h9b : But (fun _ => False) w (w.alloc (.cells #[.int .i64 1, .int .i64 0, .pointer none, .slice none 0 0] 60)) := But.alloc _ _ _
  revert h9 h9b
  generalize (w.alloc (.cells #[.int .i64 1, .int .i64 0, .pointer none, .slice none 0 0] 60)) = w9
  intro h9 h9b
  obtain ⟨r0, r1, r2, r3⟩ := row4 h9
  exact bodyPost_ret (v := .agg #[.int .i64 1, .int .i64 0, .pointer none, .slice none 0 0]) (by simp [results, Tryz.results36, go_sem, r0, r1, r2, r3]) rfl ⟨h9b, by unfold ExamP; rw [HL.out]; rfl⟩
 ·have hbI : ¬ 2000 < (s.size : Int) := by omega
  go_enter Tryz.func36, Tryz.ntmps36
  go_wp2_with fail
  revert hBW hgW
  generalize (w.alloc (.cells #[.int .i64 0, .int .i64 0, .pointer none, .slice none 0 0] 60)) = W
  intro hBW hgW
  have hgl := lt_of_block hgW
  have HGW := hid hgW
  clear hgW
  refine (xread_any s W (by omega)).mono ?_
  rintro en w1 ⟨hB1, g, p, rfl, hg, hcs⟩
  have hBw1 := hBW.trans hB1
  have HG1 := hid ((hB1.block w.heap.size hgl (fun h => h)).trans HGW.out)
  rcases hcs with ⟨j, hrd, rfl, hge⟩ | ⟨rfl, im, hrd, hTX⟩
  ·have HL : Hid (linkP s = .error (2, j)) := hid (by unfold linkP; rw [if_neg hbig, hrd])
   clear hrd hbig HGW
   have hgel := lt_of_block hge
   go_wp2_with fail
   refine (xform_bad g j w1).mono ?_
   rintro en w2 ⟨hB2, rfl⟩
   have hBw2 := hBw1.trans hB2
   have hge2 := (hB2.block g hgel (fun h => h)).trans hge
   obtain ⟨t0, t1, t2⟩ := row3 hge2
   have hgl2 := lt_of_block hge2
   have HG2 := hid ((hB2.block w.heap.size (lt_of_block HG1.out) (fun h => h)).trans HG1.out)
   go_wp2_with fail
   have hB3 : But (fun _ => False) w2 (w2.alloc (.cells #[.int .i64 2, .int .i64 j, .pointer none, .slice none 0 0] 60)) := But.alloc _ _ _
   have hgF := heap_alloc_new w2 (.cells #[.int .i64 2, .int .i64 j, .pointer none, .slice none 0 0] 60)
   revert hB3 hgF
   generalize (w2.alloc (.cells #[.int .i64 2, .int .i64 j, .pointer none, .slice none 0 0] 60)) = w3
   intro hB3 hgF
   have hg3 := (hB3.block w.heap.size (lt_of_block HG2.out) (fun h => h)).trans HG2.out
   have u2 := (hB3.cell (p := ⟨g, 2, none⟩) hgl2 (fun h => h)).trans t2
   clear t0 t1 t2
   obtain ⟨k0, k1, k2, k3⟩ := row4 hgF
   obtain ⟨q0, q1, q2, q3⟩ := row4 hg3
   obtain ⟨f0, f1, f2, f3⟩ := froz4 hg3
   have HG3 := hid hg3
   clear hg3 HG2 HG1 hgF
   go_loopg [6] 0 (fun mm is wr => is = .int .i64 0 ∧ wr = w3)
   case atStart => exact ⟨rfl, rfl⟩
   case round =>
    obtain ⟨rfl, hww⟩ := hrel
    subst hww
    go_wp2_with fail
    have h9 := put4_heap HG3.out (.int .i64 2) (.int .i64 j) (.pointer none) (.slice none 0 0)
    have h9b := put4_but wr w.heap.size (.int .i64 2) (.int .i64 j) (.pointer none) (.slice none 0 0)
    unfold put4 at h9 h9b
    revert h9 h9b
    generalize ((((wr.setCell ⟨w.heap.size, 0, none⟩ (.int .i64 2)).setCell ⟨w.heap.size, 1, none⟩ (.int .i64 j)).setCell ⟨w.heap.size, 2, none⟩ (.pointer none)).setCell ⟨w.heap.size, 3, none⟩ (.slice none 0 0)) = w9
    intro h9 h9b
    obtain ⟨r0, r1, r2, r3⟩ := row4 h9
    exact bodyPost_ret (v := .agg #[.int .i64 2, .int .i64 j, .pointer none, .slice none 0 0]) (by simp [results, Tryz.results36, go_sem, r0, r1, r2, r3]) rfl ⟨(hBw2.trans hB3).next h9b (fun k hk h => by omega), by unfold ExamP; rw [HL.out]; rfl⟩
  ·have hW := readP_wf (by omega) hrd
   have HRD := hid hrd
   clear hrd HGW
   have hfo := xform_ok g im w1 hW hTX
   obtain ⟨vb, hvb, hgb, lb, hO, hm, hf⟩ := hTX.bod
   obtain ⟨a2, cap2, rfl⟩ := owns_len hO
   have hlb : lb.length = im.bodies.length := by have := congrArg List.length hm; simpa using this
   have hnb := hW.nb
   have HM := hid hm
   clear hm
   cases hfs : im.bodies.findSome? (fun b => unl im.classes im.bodies b.code) with
   | some q =>
    have HL : Hid (linkP s = .error (3, q)) := hid (by unfold linkP; rw [if_neg hbig, HRD.out]; simp only [hfs])
    rw [show LinkV g im = .agg #[.int .i64 3, .int .i64 q, .pointer none, .slice none 0 0] from by unfold LinkV; rw [hfs]] at hfo
    have HFO := hid hfo
    clear hfo hfs hbig HRD
    go_wp2_with fail
    refine HFO.out.mono ?_
    rintro en w2 ⟨hB2, rfl⟩
    have hBw2 := hBw1.trans hB2
    have HG2 := hid ((hB2.block w.heap.size (lt_of_block HG1.out) (fun h => h)).trans HG1.out)
    clear HFO
    go_wp2_with fail
    have hB3 : But (fun _ => False) w2 (w2.alloc (.cells #[.int .i64 3, .int .i64 q, .pointer none, .slice none 0 0] 60)) := But.alloc _ _ _
    have hgF := heap_alloc_new w2 (.cells #[.int .i64 3, .int .i64 q, .pointer none, .slice none 0 0] 60)
    revert hB3 hgF
    generalize (w2.alloc (.cells #[.int .i64 3, .int .i64 q, .pointer none, .slice none 0 0] 60)) = w3
    intro hB3 hgF
    have hg3 := (hB3.block w.heap.size (lt_of_block HG2.out) (fun h => h)).trans HG2.out
    have u2 := ((hB2.trans hB3).cell (p := ⟨g, 2, none⟩) hgb (fun h => h)).trans hvb
    have hbln : 0 < (lb.length : Int) ∨ ¬ 0 < (lb.length : Int) := Decidable.em _
    obtain ⟨k0, k1, k2, k3⟩ := row4 hgF
    obtain ⟨q0, q1, q2, q3⟩ := row4 hg3
    obtain ⟨f0, f1, f2, f3⟩ := froz4 hg3
    have HG3 := hid hg3
    clear hg3 HG2 HG1 hgF
    go_loopg [6] 0 (fun mm is wr => is = .int .i64 0 ∧ wr = w3)
    case atStart => exact ⟨rfl, rfl⟩
    case round =>
     obtain ⟨rfl, hww⟩ := hrel
     subst hww
     rcases hbln with hbln | hbln
     ·go_wp2_with fail
      have h9 := put4_heap HG3.out (.int .i64 3) (.int .i64 q) (.pointer none) (.slice none 0 0)
      have h9b := put4_but wr w.heap.size (.int .i64 3) (.int .i64 q) (.pointer none) (.slice none 0 0)
      unfold put4 at h9 h9b
      revert h9 h9b
      generalize ((((wr.setCell ⟨w.heap.size, 0, none⟩ (.int .i64 3)).setCell ⟨w.heap.size, 1, none⟩ (.int .i64 q)).setCell ⟨w.heap.size, 2, none⟩ (.pointer none)).setCell ⟨w.heap.size, 3, none⟩ (.slice none 0 0)) = w9
      intro h9 h9b
      obtain ⟨r0, r1, r2, r3⟩ := row4 h9
      exact bodyPost_ret (v := .agg #[.int .i64 3, .int .i64 q, .pointer none, .slice none 0 0]) (by simp [results, Tryz.results36, go_sem, r0, r1, r2, r3]) rfl ⟨(hBw2.trans hB3).next h9b (fun k hk h => by omega), by unfold ExamP; rw [HL.out]; rfl⟩
     ·go_wp2_with fail
      have h9 := put4_heap HG3.out (.int .i64 3) (.int .i64 q) (.pointer none) (.slice none 0 0)
      have h9b := put4_but wr w.heap.size (.int .i64 3) (.int .i64 q) (.pointer none) (.slice none 0 0)
      unfold put4 at h9 h9b
      revert h9 h9b
      generalize ((((wr.setCell ⟨w.heap.size, 0, none⟩ (.int .i64 3)).setCell ⟨w.heap.size, 1, none⟩ (.int .i64 q)).setCell ⟨w.heap.size, 2, none⟩ (.pointer none)).setCell ⟨w.heap.size, 3, none⟩ (.slice none 0 0)) = w9
      intro h9 h9b
      obtain ⟨r0, r1, r2, r3⟩ := row4 h9
      exact bodyPost_ret (v := .agg #[.int .i64 3, .int .i64 q, .pointer none, .slice none 0 0]) (by simp [results, Tryz.results36, go_sem, r0, r1, r2, r3]) rfl ⟨(hBw2.trans hB3).next h9b (fun k hk h => by omega), by unfold ExamP; rw [HL.out]; rfl⟩
   | none =>
    have HL : Hid (linkP s = .ok im) := hid (by unfold linkP; rw [if_neg hbig, HRD.out]; simp only [hfs])
    rw [show LinkV g im = .agg #[.int .i64 0, .int .i64 0, .pointer (some ⟨g, 0, none⟩), .slice none 0 0] from by unfold LinkV; rw [hfs]] at hfo
    have HFO := hid hfo
    clear hfo hfs hbig HRD
    go_wp2_with fail
    refine HFO.out.mono ?_
    rintro en w2 ⟨hB2, rfl⟩
    have hBw2 := hBw1.trans hB2
    have HG2 := hid ((hB2.block w.heap.size (lt_of_block HG1.out) (fun h => h)).trans HG1.out)
    clear HFO
    go_wp2_with fail
    have hB3 : But (fun _ => False) w2 (w2.alloc (.cells #[.int .i64 0, .int .i64 0, .pointer (some ⟨g, 0, none⟩), .slice none 0 0] 60)) := But.alloc _ _ _
    have hgF := heap_alloc_new w2 (.cells #[.int .i64 0, .int .i64 0, .pointer (some ⟨g, 0, none⟩), .slice none 0 0] 60)
    revert hB3 hgF
    generalize (w2.alloc (.cells #[.int .i64 0, .int .i64 0, .pointer (some ⟨g, 0, none⟩), .slice none 0 0] 60)) = w3
    intro hB3 hgF
    have hg3 := (hB3.block w.heap.size (lt_of_block HG2.out) (fun h => h)).trans HG2.out
    have hB13 := hB2.trans hB3
    have hBw3 := hBw2.trans hB3
    have hgb3 : g < w3.heap.size := Nat.lt_of_lt_of_le hgb hB13.size
    have hF2 : w.heap.size < w2.heap.size := lt_of_block HG2.out
    have hF3 := lt_of_block hgF
    have HG3 := hid hg3
    have hTX3 := hTX.but hB13
    have hO3 := owns_but hO hB13 (fun _ _ h => h)
    have hv3 := (hB13.cell (p := ⟨g, 2, none⟩) hgb (fun h => h)).trans hvb
    have hgF' : g ≠ w2.heap.size := by have := Nat.lt_of_lt_of_le hgb hB2.size; omega
    have HF : Hid (∀ x ∈ lb, BtB w3 0 x.2.1 x.1.locals ∧ ItB w3 0 x.2.2 x.1.items) := hid (fun x hx => ⟨(hf x hx).1.but hB13 (fun _ _ h => h), owns_but (hf x hx).2 hB13 (fun _ _ h => h)⟩)
    clear hg3 HG2 HG1 hf hvb hO
    go_loopg [6] lb.length (fun mm ks wr => ∃ (k : Nat) (ao : Option Addr) (cap : Nat) (l : List (Nat × List St)), l.length = k ∧ ks = .int .i64 k ∧ k ≤ lb.length ∧ k + mm ≤ lb.length ∧ lb.length ≤ k + mm ∧ But (· = w2.heap.size) w3 wr ∧ Fnd wr w2.heap.size (.int .i64 0) (.int .i64 0) (.pointer (some ⟨g, 0, none⟩)) (.slice ao k cap) ∧ XTabs wr w3.heap.size (.slice ao k cap) l ∧ Hid ((im.bodies.take k).map (leastT im) = (l.map (·.2)).map some))
    case atStart => exact ⟨0, none, 0, [], rfl, rfl, by omega, by omega, by omega, But.refl _ _, hgF, ⟨owns_nil _ _ _ _, by simp⟩, hid rfl⟩
    case round =>
     obtain ⟨k, ao, cap, l, hlk, rfl, hk1, hk2, hk3, hBr, hFn, hTs, HA⟩ := hrel
     have HLK := hid hlk
     clear hlk hk2
     have HFn := hid hFn
     have hgr := (hBr.block w.heap.size (lt_of_block HG3.out) (by omega)).trans HG3.out
     have HGr := hid hgr
     have hglr := lt_of_block hgr
     have hFlr := lt_of_block hFn
     have hv2r := (hBr.cell (p := ⟨g, 2, none⟩) hgb3 hgF').trans hv3
     have hgbr : g < wr.heap.size := Nat.lt_of_lt_of_le hgb3 hBr.size
     obtain ⟨k0, k1, k2, k3⟩ := row4 hFn
     clear hgr hFn
     by_cases hlt : k < lb.length
     ·have hkn : (k : Int) < (lb.length : Int) := by omega
      have hx := List.getElem?_eq_getElem hlt
      have hnF : ∀ g' cur e, w3.heap[g']? = some (.cells cur e) → e ≠ 60 → ¬ g' = w2.heap.size := by
       intro g' cur e hh he h9
       rw [h9, hgF] at hh
       injection hh with hh
       injection hh with _ h2
       exact he h2.symm
      have hOr := owns_off hO3 hBr (fun g' cur hh _ => hnF g' cur _ hh (by decide))
      obtain ⟨gB, hgB, hgB1, _, hcell⟩ := owns_two hOr (by omega)
      obtain ⟨bd, hbd⟩ : ∃ bd, im.bodies[k]? = some bd := ⟨_, List.getElem?_eq_getElem (by omega)⟩
      have hbx : lb[k].1 = toXB im.sigs bd := by
       have h1 : (lb.map (·.1))[k]? = some (toXB im.sigs bd) := by rw [HM.out, List.getElem?_map, hbd]; rfl
       rw [List.getElem?_map, hx] at h1
       exact Option.some.inj h1
      obtain ⟨hlo3, hit3⟩ := HF.out _ (List.getElem_mem hlt)
      have hlo : BtB wr 0 lb[k].2.1 lb[k].1.locals := owns_off hlo3 hBr (fun g' cur hh _ => hnF g' cur _ hh (by decide))
      have hit : ItB wr 0 lb[k].2.2 lb[k].1.items := owns_off hit3 hBr (fun g' cur hh _ => hnF g' cur _ hh (by decide))
      clear hlo3 hit3
      have p0 : wr.cell? ⟨gB, k * 5, none⟩ = some (.int .u8 lb[k].1.cls.toNat) := hcell _ _ (xbCells_at (k := 0) hx (by omega))
      have p1 : wr.cell? ⟨gB, k * 5 + 1, none⟩ = some (.int .i64 lb[k].1.meth) := hcell _ _ (xbCells_at (k := 1) hx (by omega))
      have p2 : wr.cell? ⟨gB, k * 5 + 2, none⟩ = some (.int .u8 lb[k].1.ans.toNat) := hcell _ _ (xbCells_at (k := 2) hx (by omega))
      have p3 : wr.cell? ⟨gB, k * 5 + 3, none⟩ = some lb[k].2.1 := hcell _ _ (xbCells_at (k := 3) hx (by omega))
      have p4 : wr.cell? ⟨gB, k * 5 + 4, none⟩ = some lb[k].2.2 := hcell _ _ (xbCells_at (k := 4) hx (by omega))
      rw [hbx] at p0 p1 p2 hlo hit
      obtain ⟨al, capl, hal⟩ := owns_len hlo
      obtain ⟨ai, capi, hai⟩ := owns_len hit
      rw [hal] at p3 hlo
      rw [hai] at p4 hit
      have hlol : (toXB im.sigs bd).locals = bd.locals := rfl
      have hitl : (toXB im.sigs bd).items = bd.code.map toXI := rfl
      rw [hlol] at p3 hlo
      rw [hitl] at p4 hit
      simp only [List.length_map] at p4 hit
      have hwb : WfB im.classes im.sigs bd := hW.bod _ (List.mem_of_getElem? hbd)
      have HTXr : Hid (TextX wr g im) := hid (hTX3.off hBr hgF' (fun k' cur e hh he => hnF k' cur e hh (by rcases he with h | h | h | h | h <;> (rw [h]; decide))))
      have HLE := hid (fun (wx : World) (h : But (fun _ => False) wr wx) => xleast_any g im bd (toXB im.sigs bd).cls (toXB im.sigs bd).meth al ai capl capi wx hW hwb (HTXr.out.but h) (hlo.but h (fun _ _ h => h)) (owns_but hit h (fun _ _ h => h)))
      have HBD := hid hbd
      subst hgB
      obtain ⟨X, hX⟩ : ∃ X, toXB im.sigs bd = X := ⟨_, rfl⟩
      rw [hX] at p0 p1 p2 HLE
      clear hX hbx hcell hx hal hai hlol hitl hbd hlo hit
      unfold hdV at HLE
      go_wp2_with fail
      refine (HLE.out wr (But.refl _ _)).mono ?_
      rintro en w4 ⟨hB4, hres⟩
      have hTs4 := hTs.but hB4
      have hg4 := (hB4.block w.heap.size hglr (fun h => h)).trans HGr.out
      have hF4 := (hB4.block w2.heap.size hFlr (fun h => h)).trans HFn.out
      have HG4 := hid hg4
      have hgl4 := lt_of_block hg4
      clear k0 k1 k2 k3
      obtain ⟨q0, q1, q2, q3⟩ := row4 hg4
      obtain ⟨f0, f1, f2, f3⟩ := froz4 hg4
      obtain ⟨k0, k1, k2, k3⟩ := row4 hF4
      obtain ⟨l0, l1, l2, l3⟩ := froz4 hF4
      have HF4 := hid hF4
      have hFl4 := lt_of_block hF4
      clear HLE p0 p1 p2 p3 p4 hv2r hg4 hF4
      rcases hres with ⟨hN, rfl⟩ | ⟨tb, gt, hN, rfl, hst, hgt⟩
      ·have HTS : Hid (tabsP im 0 im.bodies = .error k) := by
        have := tabsP_err (i := 0) HA.out HBD.out hN
        refine hid ?_
        rw [this]
        simp
       clear hN HA
       go_wp2_with fail
       have h9 := put4_heap HG4.out (.int .i64 4) (.int .i64 k) (.pointer none) (.slice none 0 0)
       have h9b := put4_but w4 w.heap.size (.int .i64 4) (.int .i64 k) (.pointer none) (.slice none 0 0)
       unfold put4 at h9 h9b
       have h10b : But (· = w.heap.size) w4 (((((w4.setCell ⟨w.heap.size, 0, none⟩ (.int .i64 4)).setCell ⟨w.heap.size, 1, none⟩ (.int .i64 k)).setCell ⟨w.heap.size, 2, none⟩ (.pointer none)).setCell ⟨w.heap.size, 3, none⟩ (.slice none 0 0)).alloc (.cells #[.slice none 0 0] 65)) := h9b.trans (But.alloc _ _ _)
       have h10 := ((But.alloc (fun _ => False) ((((w4.setCell ⟨w.heap.size, 0, none⟩ (.int .i64 4)).setCell ⟨w.heap.size, 1, none⟩ (.int .i64 k)).setCell ⟨w.heap.size, 2, none⟩ (.pointer none)).setCell ⟨w.heap.size, 3, none⟩ (.slice none 0 0)) (.cells #[.slice none 0 0] 65)).block w.heap.size (lt_of_block h9) (fun h => h)).trans h9
       clear h9 h9b
       revert h10 h10b
       generalize (((((w4.setCell ⟨w.heap.size, 0, none⟩ (.int .i64 4)).setCell ⟨w.heap.size, 1, none⟩ (.int .i64 k)).setCell ⟨w.heap.size, 2, none⟩ (.pointer none)).setCell ⟨w.heap.size, 3, none⟩ (.slice none 0 0)).alloc (.cells #[.slice none 0 0] 65)) = w9
       intro h10b h10
       obtain ⟨r0, r1, r2, r3⟩ := row4 h10
       have hBw9 : But (fun _ => False) w w9 := (((hBw3.next hBr (fun k' hk' h => by omega)).trans hB4).next h10b (fun k' hk' h => by omega))
       exact bodyPost_ret (v := .agg #[.int .i64 4, .int .i64 k, .pointer none, .slice none 0 0]) (by simp [results, Tryz.results36, go_sem, r0, r1, r2, r3]) rfl ⟨hBw9, by unfold ExamP; rw [HL.out]; simp only [HTS.out]⟩
      ·have HN := hid hN
       clear hN
       have hO4 : w4.ownsRow w3.heap.size 65 1 (.slice ao k cap) k (xtvCells l) := by have := hTs4.1; rw [HLK.out] at this; exact this
       have hge4 := owns_ge hO4
       have hBw4 : But (· = w2.heap.size) w3 w4 := hBr.next hB4 (fun _ _ h => h.elim)
       have hz4 := hBw4.size
       go_wp2_with (at_builtin; refine wpList_append_lies _ rfl _ _ _ rfl w3.heap.size 65 i0 _ 1 24 (by kernel_rfl) hi0 hz0 hz1 hz2 rfl (by omega) _ k (xtvCells l) rfl ((hO4.alloc _).alloc _) ⟨w4.heap.size + 1, 0, none⟩ 1 1 [.slice (some ⟨gt, 0, none⟩) tb.length tb.length] rfl rfl (World.news_of_block (cs := #[.slice (some ⟨gt, 0, none⟩) tb.length tb.length]) (t := 65) (fr := (0, 0)) (heap_alloc_at (by simp) _)) (by simp [Value.oneCell']) (by omega) (by unfold maxLen; omega) (by omega) (by simp; omega) (w4.heap.size + 2) (by simp) ?_)
       intro gg cap3 w5 hown2 hgrow hat hlt2
       have hSW : But (fun k' => (Value.slice ao k cap).ownBlock = some k') w4 w5 := ((But.alloc _ _ _).trans (But.alloc _ _ _)).trans (but_grown hgrow)
       have hF5 : Fnd w5 w2.heap.size (.int .i64 0) (.int .i64 0) (.pointer (some ⟨g, 0, none⟩)) (.slice ao k cap) := (hSW.block w2.heap.size hFl4 (fun h => by have := hge4 _ h; omega)).trans HF4.out
       have hBw5 : But (· = w2.heap.size) w3 w5 := hBw4.next hSW (fun k' hk' h => absurd (hge4 k' h) (by omega))
       have hsoff : ∀ p : Nat × List St, StB w4 p.1 p.2 → StB w5 p.1 p.2 := by
        intro p hp
        refine hp.off hSW ?_ (fun k' cur hk' e => owns_apart hO4 hk' (by decide) e)
        obtain ⟨l', hs', _⟩ := hp
        exact owns_apart hO4 hs' (by decide)
       have hTs5 : XTabs w5 w3.heap.size (.slice (some ⟨gg, 0, none⟩) (k + 1) cap3) (l ++ [(gt, tb)]) := by
        refine ⟨?_, fun p hp => ?_⟩
        ·unfold xtvCells
         rw [List.length_append, HLK.out, List.map_append]
         exact hown2
        ·rcases List.mem_append.1 hp with hp | hp
         ·exact hsoff p (hTs4.2 p hp)
         ·simp at hp
          subst hp
          exact hsoff (gt, tb) hst
       have HNX : Hid ((im.bodies.take (k + 1)).map (leastT im) = ((l ++ [(gt, tb)]).map (·.2)).map some) := by
        show _ = _
        obtain ⟨hk9, hk8⟩ := List.getElem?_eq_some_iff.1 HBD.out
        rw [List.take_succ_eq_append_getElem hk9, List.map_append, HA.out, hk8]
        simp [HN.out]
       clear q0 q1 q2 q3 f0 f1 f2 f3 k0 k1 k2 k3 l0 l1 l2 l3 hSW hgrow hown2 hat
       obtain ⟨k0, k1, k2, k3⟩ := row4 hF5
       obtain ⟨l0, l1, l2, l3⟩ := froz4 hF5
       go_wp2_with fail
       have hB6 := But.setB w5 w2.heap.size 3 (.slice (some ⟨gg, 0, none⟩) (k + 1) cap3)
       have hF6 : Fnd (w5.setCell ⟨w2.heap.size, 3, none⟩ (.slice (some ⟨gg, 0, none⟩) (k + 1) cap3)) w2.heap.size (.int .i64 0) (.int .i64 0) (.pointer (some ⟨g, 0, none⟩)) (.slice (some ⟨gg, 0, none⟩) (k + 1) cap3) := heap_setCell_same w5 w2.heap.size 3 _ _ _ hF5
       have hTs6 : XTabs (w5.setCell ⟨w2.heap.size, 3, none⟩ (.slice (some ⟨gg, 0, none⟩) (k + 1) cap3)) w3.heap.size (.slice (some ⟨gg, 0, none⟩) (k + 1) cap3) (l ++ [(gt, tb)]) := hTs5.aside hB6 hF5
       go_roundg (lb.length - (k + 1))
       case measure => omega
       case rel => exact ⟨k + 1, _, cap3, l ++ [(gt, tb)], by rw [List.length_append, HLK.out]; rfl, by simp, by omega, by omega, by omega, hBw5.trans hB6, hF6, hTs6, HNX⟩
     ·have hkn : ¬ (k : Int) < (lb.length : Int) := by omega
      have hk : k = im.bodies.length := by omega
      have HTS : Hid (tabsP im 0 im.bodies = .ok (l.map (·.2))) := hid (tabsP_ok (by
       have := HA.out
       rw [List.take_of_length_le (by omega)] at this
       exact this))
      clear HA hk
      obtain ⟨q0, q1, q2, q3⟩ := row4 HGr.out
      obtain ⟨f0, f1, f2, f3⟩ := froz4 HGr.out
      have hTXr := hTX3.off hBr hgF' (fun k' cur e hh he h9 => by
       rw [h9, hgF] at hh
       injection hh with hh
       injection hh with _ h2
       rw [← h2] at he
       revert he
       decide)
      go_wp2_with fail
      have h9 := put4_heap HGr.out (.int .i64 0) (.int .i64 0) (.pointer (some ⟨g, 0, none⟩)) (.slice ao k cap)
      have h9b := put4_but wr w.heap.size (.int .i64 0) (.int .i64 0) (.pointer (some ⟨g, 0, none⟩)) (.slice ao k cap)
      unfold put4 at h9 h9b
      revert h9 h9b
      generalize ((((wr.setCell ⟨w.heap.size, 0, none⟩ (.int .i64 0)).setCell ⟨w.heap.size, 1, none⟩ (.int .i64 0)).setCell ⟨w.heap.size, 2, none⟩ (.pointer (some ⟨g, 0, none⟩))).setCell ⟨w.heap.size, 3, none⟩ (.slice ao k cap)) = w9
      intro h9 h9b
      obtain ⟨r0, r1, r2, r3⟩ := row4 h9
      have hTX9 : TextX w9 g im := hTXr.off h9b (by omega) (fun k' cur e hh he h8 => by
       rw [h8, HGr.out] at hh
       injection hh with hh
       injection hh with _ h2
       rw [← h2] at he
       revert he
       decide)
      have hTs9 : XTabs w9 w.heap.size (.slice ao l.length cap) l := by
       have h1 := hTs.aside h9b HGr.out
       rw [HLK.out]
       exact ⟨h1.1.mono (by omega), h1.2⟩
      have hBw9 : But (fun _ => False) w w9 := ((hBw3.next hBr (fun k' hk' h => by omega)).next h9b (fun k' hk' h => by omega))
      exact bodyPost_ret (v := .agg #[.int .i64 0, .int .i64 0, .pointer (some ⟨g, 0, none⟩), .slice ao k cap]) (by simp [results, Tryz.results36, go_sem, r0, r1, r2, r3]) rfl ⟨hBw9, by unfold ExamP; rw [HL.out]; simp only [HTS.out]; exact ⟨g, ao, cap, l, by rw [HLK.out], rfl, hTs9, hTX9⟩⟩
end Go.Proofs.YtpfkkmacakjmbaaGreatDoor
