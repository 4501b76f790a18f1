import Derived.Test.YtpfkkmacakjmbaaGreatDoorP26
import Derived.Test.YtpfkkmacakjmbaaGreatDoorP22
import Derived.Test.YtpfkkmacakjmbaaGreatDoorP13
set_option maxRecDepth 100000
set_option maxHeartbeats 6400000
namespace Go.Proofs.YtpfkkmacakjmbaaGreatDoor
open Go Go.RowKit Sp
set_option linter.unusedSimpArgs false
set_option linter.unusedVariables false
section
variable {im : Img} {bd : Bod}
structure RunI (im : Img) (bd : Bod) (q : Nat) (ty : List UInt8) : Prop where
 len : ty.length = bd.code.length
 at' : ∀ k, q ≤ k → k < bd.code.length → typN im.classes im.sigs bd.locals bd.code bd.code.length k = some (ty.getD k 0) ∧ (ty.getD k 0).toNat ≠ 45
theorem step_rel (hW : WfIS im) (hbd : WfBS im.classes im.sigs bd) {p : Nat} {ty : List UInt8} (h : RunI im bd (p + 1) ty) (hp : p < bd.code.length) :
  (stepX (im.classes.map toX) im.sigs bd.locals bd.code p ty = none ∧ typN im.classes im.sigs bd.locals bd.code bd.code.length p = none) ∨ ∃ ty', stepX (im.classes.map toX) im.sigs bd.locals bd.code p ty = some ty' ∧ RunI im bd p ty' := by
 have hy := List.getElem?_eq_getElem hp
 obtain ⟨y, hyy⟩ : ∃ y, bd.code[p] = y := ⟨_, rfl⟩
 rw [hyy] at hy
 have htat : ∀ k, k ∈ ptsN bd.code p → tatX ty k = ty.getD k 0 := fun k hk => tat_loc (by rw [h.len]; exact (ptsN_mem hk).2)
 have hparts : partsT bd.code (typN im.classes im.sigs bd.locals bd.code bd.code.length) (arity y.op) (p + 1) = some ((ptsN bd.code p).map (tatX ty)) := by
  have e : ptsN bd.code p = ptsL bd.code (arity y.op) (p + 1) := by unfold ptsN; rw [hy]
  rw [e]
  refine partsT_map ?_ ?_
  ·rw [← e]; exact ptsN_len hbd.full hy
  ·intro q hq
   rw [← e] at hq
   have hm := ptsN_mem hq
   rw [htat q hq]
   exact (h.at' q (by omega) hm.2).1
 have hwy := hbd.code y (List.mem_of_getElem? hy)
 have hnr := node_rel hW hbd hwy (ts := (ptsN bd.code p).map (tatX ty)) (by rw [List.length_map]; exact ptsN_len hbd.full hy) (fun c hc => by
  obtain ⟨q, hq, rfl⟩ := List.mem_map.1 hc
  rw [htat q hq]
  exact typN_ok hW hbd (h.at' q (by have := (ptsN_mem hq).1; omega) (ptsN_mem hq).2).1) (fun c hc => by
  obtain ⟨q, hq, rfl⟩ := List.mem_map.1 hc
  rw [htat q hq]
  exact (h.at' q (by have := (ptsN_mem hq).1; omega) (ptsN_mem hq).2).2)
 have hst : typN im.classes im.sigs bd.locals bd.code bd.code.length p = nodeX (im.classes.map toX) im.sigs bd.locals y ((ptsN bd.code p).map (tatX ty)) := by
  rw [typN_step hy, hparts, hnr]
 unfold stepX
 rw [hy]
 simp only
 cases hx : nodeX (im.classes.map toX) im.sigs bd.locals y ((ptsN bd.code p).map (tatX ty)) with
 | none => exact Or.inl ⟨rfl, by rw [hst, hx]⟩
 | some c =>
  right
  have hc45 : c.toNat ≠ 45 := by
   unfold nodeX at hx
   split at hx
   ·rename_i hh
    cases hx
    exact hh.2
   ·cases hx
  refine ⟨ty.set p c, rfl, by rw [List.length_set]; exact h.len, fun k h1 h2 => ?_⟩
  by_cases hk : p = k
  ·subst hk
   have e : (ty.set p c).getD p 0 = c := by simp [List.getD, h.len, hp]
   rw [e, hst, hx]
   exact ⟨rfl, hc45⟩
  ·have e : (ty.set p c).getD k 0 = ty.getD k 0 := by simp [List.getD, List.getElem?_set_ne hk]
   rw [e]
   exact h.at' k (by omega) h2
theorem ans_ok (hW : WfIS im) (hbd : WfBS im.classes im.sigs bd) : okT im.classes.length (toXB im.sigs bd).ans = true ∧ (toXB im.sigs bd).ans = if bd.cls < 0 then 105 else retT im.sigs bd.meth.toNat := by
 rcases hbd.cls with ⟨h1, _⟩ | ⟨h1, h2, h3, h4⟩
 ·simp [toXB, h1, okT_i]
 ·have hn : ¬ bd.cls < 0 := by omega
  have hm : bd.meth.toNat < im.sigs.length := by omega
  have e := (arg_rel hm).2
  simp only [toXB, hn, if_false, e, and_true]
  unfold retT
  rw [List.getElem?_eq_getElem hm]
  exact okT_ty (hW.sig _ (List.getElem_mem hm)).2
theorem run_rel (hW : WfIS im) (hbd : WfBS im.classes im.sigs bd) : ∀ {q : Nat} {ty : List UInt8}, q ≤ bd.code.length → RunI im bd q ty → endX (im.classes.map toX) (toXB im.sigs bd).ans (runX (im.classes.map toX) im.sigs bd.locals bd.code q ty) = bodyT im bd := by
 intro q
 induction q with
 | zero =>
  intro ty _ h
  have h0 := full_pos (m := 0) hbd.full
  obtain ⟨e1, e2⟩ := h.at' 0 (Nat.le_refl _) h0
  obtain ⟨a1, a2⟩ := ans_ok hW hbd
  simp only [runX, endX, bodyT, e1]
  rw [tat_loc (by rw [h.len]; exact h0), fitsX_subT hW.cls hW.nc (typN_ok hW hbd e1) a1, a2]
 | succ p ih =>
  intro ty hq h
  rcases step_rel hW hbd h (by omega) with ⟨h1, h2⟩ | ⟨ty', h1, h2⟩
  ·simp only [runX, h1, endX, bodyT]
   have hr : typN im.classes im.sigs bd.locals bd.code bd.code.length 0 = none := by
    cases hr : typN im.classes im.sigs bd.locals bd.code bd.code.length 0 with
    | none => rfl
    | some c => exact absurd h2 (typN_all hbd.full (by rw [hr]; simp) p (by omega))
   rw [hr]
  ·simp only [runX, h1]
   exact ih (by omega) h2
theorem has_rel (hW : WfIS im) (hbd : WfBS im.classes im.sigs bd) : hasX (im.classes.map toX) im.sigs bd.locals bd.code (toXB im.sigs bd).ans = bodyT im bd := by
 unfold hasX
 exact run_rel hW hbd (Nat.le_refl _) ⟨by simp, fun k h1 h2 => by omega⟩
end
end Go.Proofs.YtpfkkmacakjmbaaGreatDoor
namespace Go.Proofs.YtpfkkmacakjmbaaGreatDoor
open Go Go.RowKit Sp
set_option linter.unusedSimpArgs false
set_option linter.unusedVariables false
attribute [local go_sem ↓] Go.wp_at_zero Go.wp_at_succ
theorem TextN.but {w w' : World} {g : Nat} {im : Img} (h : TextN w g im) (hb : But (fun _ => False) w w') : TextN w' g im := by
 obtain ⟨bs, h1, h2⟩ := h.bod
 exact ⟨h.cls.but hb, h.met.but hb, bs, h1.but hb, h2.but hb (fun _ _ _ _ h => h)⟩
theorem xformN_ok (g : Nat) (im : Img) (w : World) (hW : WfIS im) (hTX : TextN w g im) :
  Calls Tryz.prog 64 #[.pointer (some ⟨g, 0, none⟩), .int .i64 (-1)] w fun en w' => But (fun _ => False) w w' ∧ en = .returned (LinkV g im) := by
 have hBW : But (fun _ => False) w (w.alloc (.cells #[.int .i64 0, .int .i64 0, .pointer none, .slice none 0 0] 60)) := But.alloc _ _ _
 have hgW := heap_alloc_new w (.cells #[.int .i64 0, .int .i64 0, .pointer none, .slice none 0 0] 60)
 cases hfs : im.bodies.findSome? (fun b => unl im.classes im.bodies b.code) with
 | some q =>
  have e1 : ((q : Int) == -1) = false := by rw [beq_eq_false_iff_ne]; omega
  have e2 : ((q : Int) != -1) = true := by simp [bne, e1]
  have hjn : ¬ (q : Int) = -1 := by omega
  have hlk := xlinkN_any g im (w.alloc (.cells #[.int .i64 0, .int .i64 0, .pointer none, .slice none 0 0] 60)) hW (hTX.but hBW)
  rw [hfs] at hlk
  simp only [placeI] at hlk
  rw [show LinkV g im = .agg #[.int .i64 3, .int .i64 q, .pointer none, .slice none 0 0] from by unfold LinkV; rw [hfs]]
  have HLK := hid hlk
  clear hlk hfs
  go_enter Tryz.func64, Tryz.ntmps64
  go_wp2_with fail
  revert hBW hgW HLK
  generalize (w.alloc (.cells #[.int .i64 0, .int .i64 0, .pointer none, .slice none 0 0] 60)) = W
  intro hBW hgW HLK
  have hgl := lt_of_block hgW
  refine HLK.out.mono ?_
  rintro en w2 ⟨rfl, hB2⟩
  have hBw2 := hBW.trans hB2
  have hg2 := (hB2.block w.heap.size hgl (fun h => h)).trans hgW
  have HG2 := hid hg2
  obtain ⟨q0, q1, q2, q3⟩ := row4 hg2
  obtain ⟨f0, f1, f2, f3⟩ := froz4 hg2
  clear hg2 hgW HLK
  go_wp2_with fail
  have h9 := put4_heap HG2.out (.int .i64 3) (.int .i64 q) (.pointer none) (.slice none 0 0)
  have h9b := put4_but w2 w.heap.size (.int .i64 3) (.int .i64 q) (.pointer none) (.slice none 0 0)
  unfold put4 at h9 h9b
  revert h9 h9b
  generalize ((((w2.setCell ⟨w.heap.size, 0, none⟩ (.int .i64 3)).setCell ⟨w.heap.size, 1, none⟩ (.int .i64 q)).setCell ⟨w.heap.size, 2, none⟩ (.pointer none)).setCell ⟨w.heap.size, 3, none⟩ (.slice none 0 0)) = w9
  intro h9 h9b
  obtain ⟨r0, r1, r2, r3⟩ := row4 h9
  exact bodyPost_ret (v := .agg #[.int .i64 3, .int .i64 q, .pointer none, .slice none 0 0]) (by simp [results, Tryz.results64, go_sem, r0, r1, r2, r3]) rfl ⟨hBw2.next h9b (fun k hk h => by omega), rfl⟩
 | none =>
  have hlk := xlinkN_any g im (w.alloc (.cells #[.int .i64 0, .int .i64 0, .pointer none, .slice none 0 0] 60)) hW (hTX.but hBW)
  rw [hfs] at hlk
  simp only [placeI] at hlk
  rw [show LinkV g im = .agg #[.int .i64 0, .int .i64 0, .pointer (some ⟨g, 0, none⟩), .slice none 0 0] from by unfold LinkV; rw [hfs]]
  have HLK := hid hlk
  clear hlk hfs
  go_enter Tryz.func64, Tryz.ntmps64
  go_wp2_with fail
  revert hBW hgW HLK
  generalize (w.alloc (.cells #[.int .i64 0, .int .i64 0, .pointer none, .slice none 0 0] 60)) = W
  intro hBW hgW HLK
  have hgl := lt_of_block hgW
  refine HLK.out.mono ?_
  rintro en w2 ⟨rfl, hB2⟩
  have hBw2 := hBW.trans hB2
  have hg2 := (hB2.block w.heap.size hgl (fun h => h)).trans hgW
  have HG2 := hid hg2
  obtain ⟨q0, q1, q2, q3⟩ := row4 hg2
  obtain ⟨f0, f1, f2, f3⟩ := froz4 hg2
  clear hg2 hgW HLK
  go_wp2_with fail
  have h9 := put4_heap HG2.out (.int .i64 0) (.int .i64 0) (.pointer (some ⟨g, 0, none⟩)) (.slice none 0 0)
  have h9b := put4_but w2 w.heap.size (.int .i64 0) (.int .i64 0) (.pointer (some ⟨g, 0, none⟩)) (.slice none 0 0)
  unfold put4 at h9 h9b
  revert h9 h9b
  generalize ((((w2.setCell ⟨w.heap.size, 0, none⟩ (.int .i64 0)).setCell ⟨w.heap.size, 1, none⟩ (.int .i64 0)).setCell ⟨w.heap.size, 2, none⟩ (.pointer (some ⟨g, 0, none⟩))).setCell ⟨w.heap.size, 3, none⟩ (.slice none 0 0)) = w9
  intro h9 h9b
  obtain ⟨r0, r1, r2, r3⟩ := row4 h9
  exact bodyPost_ret (v := .agg #[.int .i64 0, .int .i64 0, .pointer (some ⟨g, 0, none⟩), .slice none 0 0]) (by simp [results, Tryz.results64, go_sem, r0, r1, r2, r3]) rfl ⟨hBw2.next h9b (fun k hk h => by omega), rfl⟩
theorem TextN.off {F : Nat → Prop} {w w' : World} {g : Nat} {im : Img} (h : TextN w g im) (hb : But F w w') (hg : ¬ F g) (hf : ∀ k cur e, w.heap[k]? = some (.cells cur e) → (e = 240 ∨ e = 243 ∨ e = 115 ∨ e = 219 ∨ e = 5 ∨ e = 3) → ¬ F k) : TextN w' g im := by
 obtain ⟨⟨v0, l, h0, hl, hO, hm, hfl⟩, ⟨v1, h1, _, hO1⟩, bs, ⟨v2, h2, _, hT⟩, hBd⟩ := h
 refine ⟨⟨v0, l, (hb.cell (p := ⟨g, 0, none⟩) hl hg).trans h0, Nat.lt_of_lt_of_le hl hb.size, owns_off hO hb (fun k cur hh _ => hf k cur _ hh (by simp)), hm, fun x hx => owns_off (hfl x hx) hb (fun k cur hh _ => hf k cur _ hh (by simp))⟩, ⟨v1, (hb.cell (p := ⟨g, 1, none⟩) hl hg).trans h1, Nat.lt_of_lt_of_le hl hb.size, owns_off hO1 hb (fun k cur hh _ => hf k cur _ hh (by simp))⟩, bs, ⟨v2, (hb.cell (p := ⟨g, 2, none⟩) hl hg).trans h2, Nat.lt_of_lt_of_le hl hb.size, hT.but hb (fun k e cur hh he _ => hf k cur e hh (by rcases he with h | h | h <;> simp [h]))⟩, hBd.but hb (fun k cur hh _ => hf k cur _ hh (by simp))⟩
def ExamN (s : ByteArray) (w : World) (en : Ending) (w' : World) : Prop :=
 match linkS s with
 | .error (e, p) => en = .returned (.agg #[.int .i64 e, .int .i64 p, .pointer none, .slice none 0 0])
 | .ok im =>
  match im.bodies.findIdx? (fun b => !bodyT im b) with
  | some k => en = .returned (.agg #[.int .i64 4, .int .i64 k, .pointer none, .slice none 0 0])
  | none => ∃ g, en = .returned (.agg #[.int .i64 0, .int .i64 0, .pointer (some ⟨g, 0, none⟩), .slice none 0 0]) ∧ WfIS im ∧ TextN w' g im
theorem xexamineN_any (s : ByteArray) (w : World) (hmax : s.size ≤ maxLen) :
  Calls Tryz.prog 60 #[.string s] w fun en w' => But (fun _ => False) w w' ∧ ExamN s w en w' := by
 have hBW : But (fun _ => False) w (w.alloc (.cells #[.int .i64 0, .int .i64 0, .pointer none, .slice none 0 0] 60)) := But.alloc _ _ _
 have hgW := heap_alloc_new w (.cells #[.int .i64 0, .int .i64 0, .pointer none, .slice none 0 0] 60)
 by_cases hbig : 400 < s.size
 ·have hbI : 400 < (s.size : Int) := by omega
  have hL : linkS s = .error (1, 0) := by unfold linkS; rw [if_pos hbig]
  have HL := hid hL
  clear hbig hL
  go_enter Tryz.func60, Tryz.ntmps60
  go_wp2_with fail
  have h9 := heap_alloc_new w (.cells #[.int .i64 1, .int .i64 0, .pointer none, .slice none 0 0] 60)
  have h9b : But (fun _ => False) w (w.alloc (.cells #[.int .i64 1, .int .i64 0, .pointer none, .slice none 0 0] 60)) := But.alloc _ _ _
  revert h9 h9b
  generalize (w.alloc (.cells #[.int .i64 1, .int .i64 0, .pointer none, .slice none 0 0] 60)) = w9
  intro h9 h9b
  obtain ⟨r0, r1, r2, r3⟩ := row4 h9
  exact bodyPost_ret (v := .agg #[.int .i64 1, .int .i64 0, .pointer none, .slice none 0 0]) (by simp [results, Tryz.results60, go_sem, r0, r1, r2, r3]) rfl ⟨h9b, by unfold ExamN; rw [HL.out]; rfl⟩
 ·have hbI : ¬ 400 < (s.size : Int) := by omega
  go_enter Tryz.func60, Tryz.ntmps60
  go_wp2_with fail
  revert hBW hgW
  generalize (w.alloc (.cells #[.int .i64 0, .int .i64 0, .pointer none, .slice none 0 0] 60)) = W
  intro hBW hgW
  have hgl := lt_of_block hgW
  have HGW := hid hgW
  clear hgW
  refine (xreadN_any s W (by omega)).mono ?_
  rintro en w1 ⟨hB1, g, p, rfl, hg, hcs⟩
  have hBw1 := hBW.trans hB1
  have HG1 := hid ((hB1.block w.heap.size hgl (fun h => h)).trans HGW.out)
  rcases hcs with ⟨j, hrd, rfl, hge⟩ | ⟨rfl, im, hrd, hTX⟩
  ·have HL : Hid (linkS s = .error (2, j)) := hid (by unfold linkS; rw [if_neg hbig, hrd])
   clear hrd hbig HGW
   have hgel := lt_of_block hge
   go_wp2_with fail
   refine (xform_bad g j w1).mono ?_
   rintro en w2 ⟨hB2, rfl⟩
   have hBw2 := hBw1.trans hB2
   have hge2 := (hB2.block g hgel (fun h => h)).trans hge
   obtain ⟨t0, t1, t2⟩ := row3 hge2
   have hgl2 := lt_of_block hge2
   have HG2 := hid ((hB2.block w.heap.size (lt_of_block HG1.out) (fun h => h)).trans HG1.out)
   go_wp2_with fail
   have hB3 : But (fun _ => False) w2 (w2.alloc (.cells #[.int .i64 2, .int .i64 j, .pointer none, .slice none 0 0] 60)) := But.alloc _ _ _
   have hgF := heap_alloc_new w2 (.cells #[.int .i64 2, .int .i64 j, .pointer none, .slice none 0 0] 60)
   revert hB3 hgF
   generalize (w2.alloc (.cells #[.int .i64 2, .int .i64 j, .pointer none, .slice none 0 0] 60)) = w3
   intro hB3 hgF
   have hg3 := (hB3.block w.heap.size (lt_of_block HG2.out) (fun h => h)).trans HG2.out
   have u2 := (hB3.cell (p := ⟨g, 2, none⟩) hgl2 (fun h => h)).trans t2
   clear t0 t1 t2
   obtain ⟨k0, k1, k2, k3⟩ := row4 hgF
   obtain ⟨q0, q1, q2, q3⟩ := row4 hg3
   obtain ⟨f0, f1, f2, f3⟩ := froz4 hg3
   have HG3 := hid hg3
   clear hg3 HG2 HG1 hgF
   go_loopg [6] 0 (fun mm is wr => is = .int .i64 0 ∧ wr = w3)
   case atStart => exact ⟨rfl, rfl⟩
   case round =>
    obtain ⟨rfl, hww⟩ := hrel
    subst hww
    go_wp2_with fail
    have h9 := put4_heap HG3.out (.int .i64 2) (.int .i64 j) (.pointer none) (.slice none 0 0)
    have h9b := put4_but wr w.heap.size (.int .i64 2) (.int .i64 j) (.pointer none) (.slice none 0 0)
    unfold put4 at h9 h9b
    revert h9 h9b
    generalize ((((wr.setCell ⟨w.heap.size, 0, none⟩ (.int .i64 2)).setCell ⟨w.heap.size, 1, none⟩ (.int .i64 j)).setCell ⟨w.heap.size, 2, none⟩ (.pointer none)).setCell ⟨w.heap.size, 3, none⟩ (.slice none 0 0)) = w9
    intro h9 h9b
    obtain ⟨r0, r1, r2, r3⟩ := row4 h9
    exact bodyPost_ret (v := .agg #[.int .i64 2, .int .i64 j, .pointer none, .slice none 0 0]) (by simp [results, Tryz.results60, go_sem, r0, r1, r2, r3]) rfl ⟨(hBw2.trans hB3).next h9b (fun k hk h => by omega), by unfold ExamN; rw [HL.out]; rfl⟩
  ·have hW := readS_wf (by omega) hrd
   have HRD := hid hrd
   clear hrd HGW
   have hfo := xformN_ok g im w1 hW hTX
   obtain ⟨bs, ⟨vb, hvb, hgb, lb, hO, hm, hf⟩, hBds⟩ := hTX.bod
   obtain ⟨a2, cap2, rfl⟩ := owns_len hO
   have hlb : lb.length = im.bodies.length := by rw [← hBds.1, ← hm]; simp
   have hnb := hW.nb
   have HM := hid hm
   clear hm
   cases hfs : im.bodies.findSome? (fun b => unl im.classes im.bodies b.code) with
   | some q =>
    have HL : Hid (linkS s = .error (3, q)) := hid (by unfold linkS; rw [if_neg hbig, HRD.out]; simp only [hfs])
    rw [show LinkV g im = .agg #[.int .i64 3, .int .i64 q, .pointer none, .slice none 0 0] from by unfold LinkV; rw [hfs]] at hfo
    have HFO := hid hfo
    clear hfo hfs hbig HRD
    go_wp2_with fail
    refine HFO.out.mono ?_
    rintro en w2 ⟨hB2, rfl⟩
    have hBw2 := hBw1.trans hB2
    have HG2 := hid ((hB2.block w.heap.size (lt_of_block HG1.out) (fun h => h)).trans HG1.out)
    clear HFO
    go_wp2_with fail
    have hB3 : But (fun _ => False) w2 (w2.alloc (.cells #[.int .i64 3, .int .i64 q, .pointer none, .slice none 0 0] 60)) := But.alloc _ _ _
    have hgF := heap_alloc_new w2 (.cells #[.int .i64 3, .int .i64 q, .pointer none, .slice none 0 0] 60)
    revert hB3 hgF
    generalize (w2.alloc (.cells #[.int .i64 3, .int .i64 q, .pointer none, .slice none 0 0] 60)) = w3
    intro hB3 hgF
    have hg3 := (hB3.block w.heap.size (lt_of_block HG2.out) (fun h => h)).trans HG2.out
    have u2 := ((hB2.trans hB3).cell (p := ⟨g, 2, none⟩) hgb (fun h => h)).trans hvb
    have hbln : 0 < (lb.length : Int) ∨ ¬ 0 < (lb.length : Int) := Decidable.em _
    obtain ⟨k0, k1, k2, k3⟩ := row4 hgF
    obtain ⟨q0, q1, q2, q3⟩ := row4 hg3
    obtain ⟨f0, f1, f2, f3⟩ := froz4 hg3
    have HG3 := hid hg3
    clear hg3 HG2 HG1 hgF
    go_loopg [6] 0 (fun mm is wr => is = .int .i64 0 ∧ wr = w3)
    case atStart => exact ⟨rfl, rfl⟩
    case round =>
     obtain ⟨rfl, hww⟩ := hrel
     subst hww
     rcases hbln with hbln | hbln
     ·go_wp2_with fail
      have h9 := put4_heap HG3.out (.int .i64 3) (.int .i64 q) (.pointer none) (.slice none 0 0)
      have h9b := put4_but wr w.heap.size (.int .i64 3) (.int .i64 q) (.pointer none) (.slice none 0 0)
      unfold put4 at h9 h9b
      revert h9 h9b
      generalize ((((wr.setCell ⟨w.heap.size, 0, none⟩ (.int .i64 3)).setCell ⟨w.heap.size, 1, none⟩ (.int .i64 q)).setCell ⟨w.heap.size, 2, none⟩ (.pointer none)).setCell ⟨w.heap.size, 3, none⟩ (.slice none 0 0)) = w9
      intro h9 h9b
      obtain ⟨r0, r1, r2, r3⟩ := row4 h9
      exact bodyPost_ret (v := .agg #[.int .i64 3, .int .i64 q, .pointer none, .slice none 0 0]) (by simp [results, Tryz.results60, go_sem, r0, r1, r2, r3]) rfl ⟨(hBw2.trans hB3).next h9b (fun k hk h => by omega), by unfold ExamN; rw [HL.out]; rfl⟩
     ·go_wp2_with fail
      have h9 := put4_heap HG3.out (.int .i64 3) (.int .i64 q) (.pointer none) (.slice none 0 0)
      have h9b := put4_but wr w.heap.size (.int .i64 3) (.int .i64 q) (.pointer none) (.slice none 0 0)
      unfold put4 at h9 h9b
      revert h9 h9b
      generalize ((((wr.setCell ⟨w.heap.size, 0, none⟩ (.int .i64 3)).setCell ⟨w.heap.size, 1, none⟩ (.int .i64 q)).setCell ⟨w.heap.size, 2, none⟩ (.pointer none)).setCell ⟨w.heap.size, 3, none⟩ (.slice none 0 0)) = w9
      intro h9 h9b
      obtain ⟨r0, r1, r2, r3⟩ := row4 h9
      exact bodyPost_ret (v := .agg #[.int .i64 3, .int .i64 q, .pointer none, .slice none 0 0]) (by simp [results, Tryz.results60, go_sem, r0, r1, r2, r3]) rfl ⟨(hBw2.trans hB3).next h9b (fun k hk h => by omega), by unfold ExamN; rw [HL.out]; rfl⟩
   | none =>
    have HL : Hid (linkS s = .ok im) := hid (by unfold linkS; rw [if_neg hbig, HRD.out]; simp only [hfs])
    rw [show LinkV g im = .agg #[.int .i64 0, .int .i64 0, .pointer (some ⟨g, 0, none⟩), .slice none 0 0] from by unfold LinkV; rw [hfs]] at hfo
    have HFO := hid hfo
    clear hfo hfs hbig HRD
    go_wp2_with fail
    refine HFO.out.mono ?_
    rintro en w2 ⟨hB2, rfl⟩
    have hBw2 := hBw1.trans hB2
    have HG2 := hid ((hB2.block w.heap.size (lt_of_block HG1.out) (fun h => h)).trans HG1.out)
    clear HFO
    go_wp2_with fail
    have hB3 : But (fun _ => False) w2 (w2.alloc (.cells #[.int .i64 0, .int .i64 0, .pointer (some ⟨g, 0, none⟩), .slice none 0 0] 60)) := But.alloc _ _ _
    have hgF := heap_alloc_new w2 (.cells #[.int .i64 0, .int .i64 0, .pointer (some ⟨g, 0, none⟩), .slice none 0 0] 60)
    revert hB3 hgF
    generalize (w2.alloc (.cells #[.int .i64 0, .int .i64 0, .pointer (some ⟨g, 0, none⟩), .slice none 0 0] 60)) = w3
    intro hB3 hgF
    have hg3 := (hB3.block w.heap.size (lt_of_block HG2.out) (fun h => h)).trans HG2.out
    have hB13 := hB2.trans hB3
    have hBw3 := hBw2.trans hB3
    have hgb3 : g < w3.heap.size := Nat.lt_of_lt_of_le hgb hB13.size
    have hF2 : w.heap.size < w2.heap.size := lt_of_block HG2.out
    have hF3 := lt_of_block hgF
    have HG3 := hid hg3
    have hTX3 := hTX.but hB13
    have hO3 := owns_but hO hB13 (fun _ _ h => h)
    have hv3 := (hB13.cell (p := ⟨g, 2, none⟩) hgb (fun h => h)).trans hvb
    have hgF' : g ≠ w2.heap.size := by have := Nat.lt_of_lt_of_le hgb hB2.size; omega
    have HF : Hid (∀ x ∈ lb, BtB w3 0 x.2.1 x.1.locals ∧ ItB w3 0 x.2.2 x.1.items) := hid (fun x hx => ⟨(hf x hx).1.but hB13 (fun _ _ h => h), owns_but (hf x hx).2 hB13 (fun _ _ h => h)⟩)
    have hBds3 := hBds.but hB13 (fun _ _ _ _ h => h)
    clear hg3 HG2 HG1 hf hvb hO
    go_loopg [6] lb.length (fun mm ks wr => ∃ (k : Nat), ks = .int .i64 k ∧ k ≤ lb.length ∧ k + mm ≤ lb.length ∧ lb.length ≤ k + mm ∧ But (fun _ => False) w3 wr ∧ Hid (∀ j (hj : j < im.bodies.length), j < k → bodyT im im.bodies[j] = true))
    case atStart => exact ⟨0, rfl, by omega, by omega, by omega, But.refl _ _, fun j hj h => absurd h (by omega)⟩
    case round =>
     obtain ⟨k, rfl, hk1, hk2, hk3, hBr, HA⟩ := hrel
     have hgr := (hBr.block w.heap.size (lt_of_block HG3.out) (fun h => h)).trans HG3.out
     have hFn := (hBr.block w2.heap.size hF3 (fun h => h)).trans hgF
     have HGr := hid hgr
     have hglr := lt_of_block hgr
     have hFlr := lt_of_block hFn
     have hv2r := (hBr.cell (p := ⟨g, 2, none⟩) hgb3 (fun h => h)).trans hv3
     have hgbr : g < wr.heap.size := Nat.lt_of_lt_of_le hgb3 hBr.size
     have HLB := hid hlb
     clear hlb
     obtain ⟨k0, k1, k2, k3⟩ := row4 hFn
     by_cases hlt : k < lb.length
     ·have hkn : (k : Int) < (lb.length : Int) := by omega
      have hx := List.getElem?_eq_getElem hlt
      have hOr := owns_but hO3 hBr (fun _ _ h => h)
      obtain ⟨gB, hgB, hgB1, _, hcell⟩ := owns_two hOr (by omega)
      obtain ⟨X, hX⟩ : ∃ X, lb[k] = X := ⟨_, rfl⟩
      have hki : k < im.bodies.length := by rw [← HLB.out]; exact hlt
      have hbk := List.getElem?_eq_getElem hki
      obtain ⟨bd, hbd⟩ : ∃ bd, im.bodies[k] = bd := ⟨_, rfl⟩
      rw [hbd] at hbk
      have hXk : bs[k]? = some X.1 := by rw [← HM.out, List.getElem?_map, hx, hX]; rfl
      have hBN := (hBds3.but hBr (fun _ _ _ _ h => h)).2 k X.1 bd hXk hbk
      have hwb : WfBS im.classes im.sigs bd := hW.bod _ (List.mem_of_getElem? hbk)
      obtain ⟨hlo3, hit3⟩ := HF.out _ (List.getElem_mem hlt)
      rw [hX] at hlo3 hit3 hx
      have hlo := BtB.but hlo3 hBr (fun _ _ h => h)
      have hit : ItB wr 0 X.2.2 X.1.items := owns_but hit3 hBr (fun _ _ h => h)
      clear hlo3 hit3 hX
      have p0 : wr.cell? ⟨gB, k * 5, none⟩ = some (.int .u8 X.1.cls.toNat) := hcell _ _ (xbCells_at (k := 0) hx (by omega))
      have p1 : wr.cell? ⟨gB, k * 5 + 1, none⟩ = some (.int .i64 X.1.meth) := hcell _ _ (xbCells_at (k := 1) hx (by omega))
      have p2 : wr.cell? ⟨gB, k * 5 + 2, none⟩ = some (.int .u8 X.1.ans.toNat) := hcell _ _ (xbCells_at (k := 2) hx (by omega))
      have p3 : wr.cell? ⟨gB, k * 5 + 3, none⟩ = some X.2.1 := hcell _ _ (xbCells_at (k := 3) hx (by omega))
      have p4 : wr.cell? ⟨gB, k * 5 + 4, none⟩ = some X.2.2 := hcell _ _ (xbCells_at (k := 4) hx (by omega))
      obtain ⟨⟨xc, xm, xa, xl, xi⟩, xv, xw⟩ := X
      dsimp only at p0 p1 p2 p3 p4 hlo hit hBN
      obtain ⟨al, capl, rfl⟩ := owns_len hlo
      obtain ⟨ai, capi, rfl⟩ := owns_len hit
      have hTXr := hTX3.but hBr
      have hil : xi.length ≤ 24 := by have h1 : xi.length = bd.code.length := hBN.its.len; have := hwb.len; omega
      have hHT := xhasType_any g (im.classes.map toX) im.sigs xc xm xa al ai capl capi xl xi bd.code wr (by rw [List.length_map]; have := hW.nc; omega) (by have := hW.ns; omega) hil hTXr.cls hTXr.met hlo hit hBN.its
      have e1 : hasX (im.classes.map toX) im.sigs xl bd.code xa = bodyT im bd := by
       have h1 : xl = bd.locals := hBN.loc
       have h2 : xa = (toXB im.sigs bd).ans := hBN.ans
       rw [h1, h2]
       exact has_rel hW hwb
      rw [e1] at hHT
      unfold hdV at hHT
      have HHT := hid hHT
      subst hgB
      have HNX : Hid ((bodyT im bd = false → im.bodies.findIdx? (fun b => !bodyT im b) = some k) ∧ (bodyT im bd = true → ∀ j (hj : j < im.bodies.length), j < k + 1 → bodyT im im.bodies[j] = true)) := by
       refine hid ⟨fun h => ?_, fun h j hj hjk => ?_⟩
       ·rw [List.findIdx?_eq_some_iff_getElem]
        exact ⟨hki, by rw [hbd, h]; rfl, fun j hj => by rw [HA.out j (by omega) hj]; simp⟩
       ·rcases Nat.lt_or_ge j k with h' | h'
        ·exact HA.out j hj h'
        ·have : j = k := by omega
         subst this
         rw [hbd]
         exact h
      clear hHT e1 hcell hx hXk hbk hbd hit hlo
      go_wp2_with fail
      refine HHT.out.mono ?_
      rintro en w4 ⟨hB4, rfl⟩
      have hBw4 := hBr.trans hB4
      have hg4 := (hB4.block w.heap.size hglr (fun h => h)).trans HGr.out
      have HG4 := hid hg4
      have hgl4 := lt_of_block hg4
      obtain ⟨q0, q1, q2, q3⟩ := row4 hg4
      obtain ⟨f0, f1, f2, f3⟩ := froz4 hg4
      clear HHT p0 p1 p2 p3 p4 hv2r hg4 k0 k1 k2 k3
      cases hbt : bodyT im bd with
      | false =>
       have HFI := hid (HNX.out.1 hbt)
       clear hbt HNX
       go_wp2_with fail
       have h9 := put4_heap HG4.out (.int .i64 4) (.int .i64 k) (.pointer none) (.slice none 0 0)
       have h9b := put4_but w4 w.heap.size (.int .i64 4) (.int .i64 k) (.pointer none) (.slice none 0 0)
       unfold put4 at h9 h9b
       revert h9 h9b
       generalize ((((w4.setCell ⟨w.heap.size, 0, none⟩ (.int .i64 4)).setCell ⟨w.heap.size, 1, none⟩ (.int .i64 k)).setCell ⟨w.heap.size, 2, none⟩ (.pointer none)).setCell ⟨w.heap.size, 3, none⟩ (.slice none 0 0)) = w9
       intro h9 h9b
       obtain ⟨r0, r1, r2, r3⟩ := row4 h9
       exact bodyPost_ret (v := .agg #[.int .i64 4, .int .i64 k, .pointer none, .slice none 0 0]) (by simp [results, Tryz.results60, go_sem, r0, r1, r2, r3]) rfl ⟨(hBw3.trans hBw4).next h9b (fun k' hk' h => by omega), by unfold ExamN; rw [HL.out]; simp only [HFI.out]⟩
      | true =>
       have HY := hid (HNX.out.2 hbt)
       clear hbt HNX
       go_wp2_with fail
       go_roundg (lb.length - (k + 1))
       case measure => omega
       case rel => exact ⟨k + 1, by simp, by omega, by omega, by omega, hBw4, HY⟩
     ·have hkn : ¬ (k : Int) < (lb.length : Int) := by omega
      have HFI : Hid (im.bodies.findIdx? (fun b => !bodyT im b) = none) := by
       refine hid ?_
       rw [List.findIdx?_eq_none_iff]
       intro x hx
       obtain ⟨j, hj, rfl⟩ := List.getElem_of_mem hx
       simp [HA.out j hj (by have := HLB.out; omega)]
      clear HA
      obtain ⟨q0, q1, q2, q3⟩ := row4 HGr.out
      obtain ⟨f0, f1, f2, f3⟩ := froz4 HGr.out
      have hTXr := hTX3.but hBr
      go_wp2_with fail
      have h9 := put4_heap HGr.out (.int .i64 0) (.int .i64 0) (.pointer (some ⟨g, 0, none⟩)) (.slice none 0 0)
      have h9b := put4_but wr w.heap.size (.int .i64 0) (.int .i64 0) (.pointer (some ⟨g, 0, none⟩)) (.slice none 0 0)
      unfold put4 at h9 h9b
      revert h9 h9b
      generalize ((((wr.setCell ⟨w.heap.size, 0, none⟩ (.int .i64 0)).setCell ⟨w.heap.size, 1, none⟩ (.int .i64 0)).setCell ⟨w.heap.size, 2, none⟩ (.pointer (some ⟨g, 0, none⟩))).setCell ⟨w.heap.size, 3, none⟩ (.slice none 0 0)) = w9
      intro h9 h9b
      obtain ⟨r0, r1, r2, r3⟩ := row4 h9
      have hTX9 : TextN w9 g im := hTXr.off h9b (by omega) (fun k' cur e hh he h8 => by
       rw [h8, HGr.out] at hh
       injection hh with hh
       injection hh with _ h2
       rw [← h2] at he
       revert he
       decide)
      exact bodyPost_ret (v := .agg #[.int .i64 0, .int .i64 0, .pointer (some ⟨g, 0, none⟩), .slice none 0 0]) (by simp [results, Tryz.results60, go_sem, r0, r1, r2, r3]) rfl ⟨(hBw3.trans hBr).next h9b (fun k' hk' h => by omega), by unfold ExamN; rw [HL.out]; simp only [HFI.out]; exact ⟨g, rfl, hW, hTX9⟩⟩
theorem xscan_any (s : ByteArray) (w : World) (hmax : s.size ≤ maxLen) :
  Calls Tryz.prog 33 #[.string s] w fun en w' => en = .returned (.tuple #[.int .i64 (scanP s).1, .int .i64 (scanP s).2]) ∧ But (fun _ => False) w w' := by
 have key : Calls Tryz.prog 60 #[.string s] w fun en w' => But (fun _ => False) w w' ∧ ∃ p ao cap n, en = .returned (.agg #[.int .i64 (scanP s).1, .int .i64 (scanP s).2, .pointer p, .slice ao n cap]) := by
  refine (xexamineN_any s w hmax).mono ?_
  rintro en w' ⟨hB, hE⟩
  refine ⟨hB, ?_⟩
  unfold ExamN at hE
  unfold scanP
  cases hl : linkS s with
  | error e =>
   rw [hl] at hE
   obtain ⟨e, p⟩ := e
   exact ⟨_, _, _, _, hE⟩
  | ok im =>
   rw [hl] at hE
   simp only at hE ⊢
   cases ht : im.bodies.findIdx? (fun b => !bodyT im b) with
   | some k => rw [ht] at hE; exact ⟨_, _, _, _, hE⟩
   | none =>
    rw [ht] at hE
    obtain ⟨g, h1, _⟩ := hE
    exact ⟨_, _, _, _, h1⟩
 have HK := hid key
 clear key
 obtain ⟨E, hE⟩ : ∃ E, scanP s = E := ⟨_, rfl⟩
 rw [hE] at HK
 rw [hE]
 clear hE
 obtain ⟨e, p⟩ := E
 dsimp only at HK ⊢
 go_enter Tryz.func33, Tryz.ntmps33
 go_wp2_with fail
 refine HK.out.mono ?_
 rintro en w1 ⟨hB1, p1, ao, cap, n, rfl⟩
 go_wp2_with fail
 have hBW : But (fun _ => False) w1 (w1.alloc (.cells #[.int .i64 e, .int .i64 p, .pointer p1, .slice ao n cap] 60)) := But.alloc _ _ _
 have hgW := heap_alloc_new w1 (.cells #[.int .i64 e, .int .i64 p, .pointer p1, .slice ao n cap] 60)
 revert hBW hgW
 generalize (w1.alloc (.cells #[.int .i64 e, .int .i64 p, .pointer p1, .slice ao n cap] 60)) = W
 intro hBW hgW
 obtain ⟨k0, k1, k2, k3⟩ := row4 hgW
 have hgl := lt_of_block hgW
 have hS0 : But (fun _ => False) W W.drew := But.drew _ _
 refine wpP_begin (But (fun _ => False) W) 5 (by kernel_rfl) ?_
 have fSA := hid (fun wS (h : (But (fun _ => False) W) wS) => (And.intro ((h.cell (p := ⟨w1.heap.size, 0, none⟩) hgl (fun h => h)).trans k0) ((h.cell (p := ⟨w1.heap.size, 1, none⟩) hgl (fun h => h)).trans k1)))
 refine wpP_take (k := 2) (v := ?vA2) rfl (by decide) (by kernel_rfl) (fun _ _ _ h => h) rfl hS0 ?yA2 ?rA2
 case yA2 => intro wS h; obtain ⟨q0, q1⟩ := fSA.out wS h; clear h; go_simp; try rfl
 dsimp only [Act.put]
 try simp only [puts]
 refine wpP_take (k := 3) (v := ?vA3) rfl (by decide) (by kernel_rfl) (fun _ _ _ h => h) rfl hS0 ?yA3 ?rA3
 case yA3 => intro wS h; obtain ⟨q0, q1⟩ := fSA.out wS h; clear h; go_simp; try rfl
 dsimp only [Act.put]
 try simp only [puts]
 refine wpP_take (k := 0) (v := ?vA0) rfl (by decide) (by kernel_rfl) (fun _ _ _ h => h) rfl hS0 ?yA0 ?rA0
 case yA0 => intro wS h; obtain ⟨q0, q1⟩ := fSA.out wS h; clear h; go_simp; try rfl
 dsimp only [Act.put]
 try simp only [puts]
 refine wpP_take (k := 1) (v := ?vA1) rfl (by decide) (by kernel_rfl) (fun _ _ _ h => h) rfl hS0 ?yA1 ?rA1
 case yA1 => intro wS h; obtain ⟨q0, q1⟩ := fSA.out wS h; clear h; go_simp; try rfl
 dsimp only [Act.put]
 try simp only [puts]
 try clear fSA
 refine wpP_step (k := 4) rfl (by decide) (by kernel_rfl) ?_
 intro KS hKS
 go_simp
 refine hKS.out _ _ (fun _ => hS0) ?_
 clear hKS KS
 refine wpP_step (k := 5) rfl (by decide) (by kernel_rfl) ?_
 intro KS hKS
 go_simp
 refine hKS.out _ _ (fun h => absurd h (by decide)) ?_
 clear hKS KS
 refine wpP_done rfl (by kernel_rfl) ?_
 go_wp2_with fail
 exact bodyPost_ret (v := .tuple #[.int .i64 e, .int .i64 p]) (by simp [results, Tryz.results33, go_sem]) rfl ⟨rfl, (hB1.trans hBW).trans hS0⟩
end Go.Proofs.YtpfkkmacakjmbaaGreatDoor
