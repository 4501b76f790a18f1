import Derived.Test.YtmfbojnnoonidaaGreatDoorP32
import Derived.Test.YtmfbojnnoonidaaGreatDoorP14
/- The program examines an image. -/
namespace Go.Proofs.YtmfbojnnoonidaaGreatDoor
open Go Go.RowKit Sp
set_option linter.unusedSimpArgs false
set_option linter.unusedVariables false
attribute [local go_sem ↓] Go.wp_at_zero Go.wp_at_succ

def xtvCells (l : List (Nat × List St)) : List Value := l.map fun p => .slice (some ⟨p.1, 0, none⟩) p.2.length p.2.length
/-- The tables of the program. -/
def XTabs (w : World) (base : Nat) (v : Value) (l : List (Nat × List St)) : Prop :=
  w.ownsRow base 59 1 v l.length (xtvCells l) ∧ ∀ p ∈ l, StB w p.1 p.2
theorem XTabs.but {w w' : World} {base : Nat} {v : Value} {l : List (Nat × List St)} (h : XTabs w base v l) (hb : But (fun _ => False) w w') : XTabs w' base v l :=
  ⟨owns_but h.1 hb (fun _ _ h => h), fun p hp => (h.2 p hp).off hb (fun h => h) (fun _ _ _ h => h)⟩

theorem info_xtab : (Tryz.prog.info? 59).map (fun i => (i.zero, i.size, i.bytes)) = some (some (.agg #[.slice none 0 0]), 1, 24) := by kernel_rfl

/-- What examine answers. -/
def ExamP (s : ByteArray) (w : World) (en : Ending) (w' : World) : Prop :=
  match linkP s with
  | .error (e, p) => en = .returned (.agg #[.int .i64 e, .int .i64 p, .pointer none, .slice none 0 0])
  | .ok im =>
    match tabsP im 0 im.bodies with
    | .error k => en = .returned (.agg #[.int .i64 4, .int .i64 k, .pointer none, .slice none 0 0])
    | .ok ts => ∃ g ao cap l, en = .returned (.agg #[.int .i64 0, .int .i64 0, .pointer (some ⟨g, 0, none⟩), .slice ao (List.length l) cap]) ∧ l.map (·.2) = ts ∧ XTabs w' w.heap.size (.slice ao l.length cap) l

set_option maxHeartbeats 3200000 in
set_option maxRecDepth 100000 in
theorem xexamine_any (s : ByteArray) (w : World) (hmax : s.size ≤ maxLen) :
    Calls Tryz.prog 20 #[.string s] w fun en w' => But (fun _ => False) w w' ∧ ExamP s w en w' := by
  obtain ⟨i0, hi0, hz0, hz1, hz2⟩ := info_parts info_xtab
  have hBW : But (fun _ => False) w (w.alloc (.cells #[.int .i64 0, .int .i64 0, .pointer none, .slice none 0 0] 48)) := But.alloc _ _ _
  have hgW := heap_alloc_new w (.cells #[.int .i64 0, .int .i64 0, .pointer none, .slice none 0 0] 48)
  by_cases hbig : 2000 < s.size
  · have hbI : 2000 < (s.size : Int) := by omega
    have hL : linkP s = .error (1, 0) := by unfold linkP; rw [if_pos hbig]
    have HL := hid hL
    clear hbig hL
    go_enter Tryz.func20, Tryz.ntmps20
    go_wp2_with fail
    have h9 := heap_alloc_new w (.cells #[.int .i64 1, .int .i64 0, .pointer none, .slice none 0 0] 48)
    have h9b : But (fun _ => False) w (w.alloc (.cells #[.int .i64 1, .int .i64 0, .pointer none, .slice none 0 0] 48)) := But.alloc _ _ _
    revert h9 h9b
    generalize (w.alloc (.cells #[.int .i64 1, .int .i64 0, .pointer none, .slice none 0 0] 48)) = w9
    intro h9 h9b
    obtain ⟨r0, r1, r2, r3⟩ := row4 h9
    exact bodyPost_ret (v := .agg #[.int .i64 1, .int .i64 0, .pointer none, .slice none 0 0]) (by simp [results, Tryz.results20, go_sem, r0, r1, r2, r3]) rfl ⟨h9b, by unfold ExamP; rw [HL.out]; rfl⟩
  · have hbI : ¬ 2000 < (s.size : Int) := by omega
    go_enter Tryz.func20, Tryz.ntmps20
    go_wp2_with fail
    revert hBW hgW
    generalize (w.alloc (.cells #[.int .i64 0, .int .i64 0, .pointer none, .slice none 0 0] 48)) = W
    intro hBW hgW
    have hgl := lt_of_block hgW
    have HGW := hid hgW
    clear hgW
    refine (xread_any s W (by omega)).mono ?_
    rintro en w1 ⟨hB1, g, p, rfl, hg, hcs⟩
    have hBw1 := hBW.trans hB1
    have hg1 := (hB1.block w.heap.size hgl (fun h => h)).trans HGW.out
    have HG1 := hid hg1
    have hgl1 := lt_of_block hg1
    obtain ⟨q0, q1, q2, q3⟩ := row4 hg1
    obtain ⟨f0, f1, f2, f3⟩ := froz4 hg1
    clear hg1
    rcases hcs with ⟨j, hrd, rfl⟩ | ⟨rfl, im, hrd, hTX⟩
    · have hL : linkP s = .error (2, j) := by unfold linkP; rw [if_neg hbig, hrd]
      have HL := hid hL
      have hjn : ¬ (j : Int) = -1 := by omega
      have e1 : ((j : Int) == -1) = false := by rw [beq_eq_false_iff_ne]; omega
      have e2 : ((j : Int) != -1) = true := by simp [bne, e1]
      clear hL hrd hbig
      go_wp2_with fail
      have h9 := put4_heap HG1.out (.int .i64 2) (.int .i64 j) (.pointer none) (.slice none 0 0)
      have h9b := put4_but w1 w.heap.size (.int .i64 2) (.int .i64 j) (.pointer none) (.slice none 0 0)
      unfold put4 at h9 h9b
      revert h9 h9b
      generalize ((((w1.setCell ⟨w.heap.size, 0, none⟩ (.int .i64 2)).setCell ⟨w.heap.size, 1, none⟩ (.int .i64 j)).setCell ⟨w.heap.size, 2, none⟩ (.pointer none)).setCell ⟨w.heap.size, 3, none⟩ (.slice none 0 0)) = w9
      intro h9 h9b
      obtain ⟨r0, r1, r2, r3⟩ := row4 h9
      exact bodyPost_ret (v := .agg #[.int .i64 2, .int .i64 j, (.pointer none), .slice none 0 0]) (by simp [results, Tryz.results20, go_sem, r0, r1, r2, r3]) rfl ⟨hBw1.next h9b (fun k hk h => by omega), by unfold ExamP; rw [HL.out]; rfl⟩
    · have hW := readP_wf (by omega) hrd
      have HRD := hid hrd
      clear hrd
      go_wp2_with fail
      refine (xlink_any g im w1 hW hTX).mono ?_
      rintro en w2 ⟨rfl, hB2⟩
      have hBw2 := hBw1.trans hB2
      have hg2 := (hB2.block w.heap.size hgl1 (fun h => h)).trans HG1.out
      have HG2 := hid hg2
      have hgl2 := lt_of_block hg2
      clear q0 q1 q2 q3 f0 f1 f2 f3
      obtain ⟨q0, q1, q2, q3⟩ := row4 hg2
      obtain ⟨f0, f1, f2, f3⟩ := froz4 hg2
      clear hg2 HG1
      have hTX2 : TextX w2 g im := ⟨hTX.cls.but hB2, hTX.met.but hB2, hTX.bod.but hB2⟩
      cases hfs : im.bodies.findSome? (fun b => unl im.classes im.bodies b.code) with
      | some q =>
        have hL : linkP s = .error (3, q) := by unfold linkP; rw [if_neg hbig, HRD.out]; simp only [hfs]
        have HL := hid hL
        have e1 : ((q : Int) == -1) = false := by rw [beq_eq_false_iff_ne]; omega
        have e2 : ((q : Int) != -1) = true := by simp [bne, e1]
        have hjn : ¬ (q : Int) = -1 := by omega
        clear hL hbig hfs
        simp only [placeI]
        go_wp2_with fail
        have h9 := put4_heap HG2.out (.int .i64 3) (.int .i64 q) (.pointer none) (.slice none 0 0)
        have h9b := put4_but w2 w.heap.size (.int .i64 3) (.int .i64 q) (.pointer none) (.slice none 0 0)
        unfold put4 at h9 h9b
        revert h9 h9b
        generalize ((((w2.setCell ⟨w.heap.size, 0, none⟩ (.int .i64 3)).setCell ⟨w.heap.size, 1, none⟩ (.int .i64 q)).setCell ⟨w.heap.size, 2, none⟩ (.pointer none)).setCell ⟨w.heap.size, 3, none⟩ (.slice none 0 0)) = w9
        intro h9 h9b
        obtain ⟨r0, r1, r2, r3⟩ := row4 h9
        exact bodyPost_ret (v := .agg #[.int .i64 3, .int .i64 q, (.pointer none), .slice none 0 0]) (by simp [results, Tryz.results20, go_sem, r0, r1, r2, r3]) rfl ⟨hBw2.next h9b (fun k hk h => by omega), by unfold ExamP; rw [HL.out]; rfl⟩
      | none =>
        have hL : linkP s = .ok im := by unfold linkP; rw [if_neg hbig, HRD.out]; simp only [hfs]
        have HL := hid hL
        clear hL hbig hfs
        simp only [placeI]
        have hE : w2.heap.size ≤ w2.heap.size := Nat.le_refl _
        obtain ⟨v2, hv2, hgb2, lb, hO, hm, hf⟩ := hTX2.bod
        obtain ⟨a2, cap2, rfl⟩ := owns_len hO
        have hlb : lb.length = im.bodies.length := by have := congrArg List.length hm; simpa using this
        have hnb := hW.nb
        have HM := hid hm
        clear hm
        go_wp2_with fail
        have hB3 : But (fun _ => False) w2 (w2.alloc (.cells #[] 59)) := But.alloc _ _ _
        have hT3 : XTabs (w2.alloc (.cells #[] 59)) w2.heap.size (.slice (some ⟨w2.heap.size, 0, none⟩) 0 0) [] := ⟨⟨rfl, Or.inr ⟨w2.heap.size, 0, #[], rfl, Nat.le_refl _, heap_alloc_new _ _, Nat.le_refl _, by unfold maxLen; omega, rfl, rfl⟩⟩, by simp⟩
        revert hB3 hT3
        generalize (w2.alloc (.cells #[] 59)) = w3
        intro hB3 hT3
        go_loopg [5, 6] lb.length (fun mm vs ks wr => ∃ (k : Nat) (ao : Option Addr) (cap : Nat) (l : List (Nat × List St)), vs = .slice ao k cap ∧ l.length = k ∧ ks = .int .i64 k ∧ k ≤ lb.length ∧ k + mm ≤ lb.length ∧ lb.length ≤ k + mm ∧ But (fun _ => False) w2 wr ∧ XTabs wr w2.heap.size (.slice ao k cap) l ∧ Hid ((im.bodies.take k).map (leastT im) = (l.map (·.2)).map some))
        case atStart => exact ⟨0, _, 0, [], rfl, rfl, rfl, by omega, by omega, by omega, hB3, hT3, rfl⟩
        case round =>
          obtain ⟨k, ao, cap, l, rfl, hlk, rfl, hk1, hk2, hk3, hBr, hTs, HA⟩ := hrel
          have HLK := hid hlk
          clear hlk hk2 hT3 hB3
          have hgr := (hBr.block w.heap.size hgl2 (fun h => h)).trans HG2.out
          have HGr := hid hgr
          have hglr := lt_of_block hgr
          clear q0 q1 q2 q3 f0 f1 f2 f3
          have hv2r := (hBr.cell (p := ⟨g, 2, none⟩) hgb2 (fun h => h)).trans hv2
          have hgbr : g < wr.heap.size := Nat.lt_of_lt_of_le hgb2 hBr.size
          by_cases hlt : k < lb.length
          · have hkn : (k : Int) < (lb.length : Int) := by omega
            have hx := List.getElem?_eq_getElem hlt
            have hOr := owns_but hO hBr (fun _ _ h => h)
            obtain ⟨gB, hgB, hgB1, _, hcell⟩ := owns_two hOr (by omega)
            obtain ⟨bd, hbd⟩ : ∃ bd, im.bodies[k]? = some bd := ⟨_, List.getElem?_eq_getElem (by omega)⟩
            have hbx : lb[k].1 = toXB im.sigs bd := by
              have h1 : (lb.map (·.1))[k]? = some (toXB im.sigs bd) := by rw [HM.out, List.getElem?_map, hbd]; rfl
              rw [List.getElem?_map, hx] at h1
              exact Option.some.inj h1
            obtain ⟨hlo, hit⟩ := hf _ (List.getElem_mem hlt)
            have p0 : wr.cell? ⟨gB, k * 5, none⟩ = some (.int .u8 lb[k].1.cls.toNat) := hcell _ _ (xbCells_at (k := 0) hx (by omega))
            have p1 : wr.cell? ⟨gB, k * 5 + 1, none⟩ = some (.int .i64 lb[k].1.meth) := hcell _ _ (xbCells_at (k := 1) hx (by omega))
            have p2 : wr.cell? ⟨gB, k * 5 + 2, none⟩ = some (.int .u8 lb[k].1.ans.toNat) := hcell _ _ (xbCells_at (k := 2) hx (by omega))
            have p3 : wr.cell? ⟨gB, k * 5 + 3, none⟩ = some lb[k].2.1 := hcell _ _ (xbCells_at (k := 3) hx (by omega))
            have p4 : wr.cell? ⟨gB, k * 5 + 4, none⟩ = some lb[k].2.2 := hcell _ _ (xbCells_at (k := 4) hx (by omega))
            rw [hbx] at p0 p1 p2 hlo hit
            obtain ⟨al, capl, hal⟩ := owns_len hlo
            obtain ⟨ai, capi, hai⟩ := owns_len hit
            rw [hal] at p3 hlo
            rw [hai] at p4 hit
            have hlol : (toXB im.sigs bd).locals = bd.locals := rfl
            have hitl : (toXB im.sigs bd).items = bd.code.map toXI := rfl
            rw [hlol] at p3 hlo
            rw [hitl] at p4 hit
            simp only [List.length_map] at p4 hit
            have hwb : WfB im.classes im.sigs bd := hW.bod _ (List.mem_of_getElem? hbd)
            have HLE := hid (fun (wx : World) (h : But (fun _ => False) wr wx) => xleast_any g im bd (toXB im.sigs bd).cls (toXB im.sigs bd).meth al ai capl capi wx hW hwb ⟨hTX2.cls.but (hBr.trans h), hTX2.met.but (hBr.trans h), hTX2.bod.but (hBr.trans h)⟩ (hlo.but (hBr.trans h) (fun _ _ h => h)) (owns_but hit (hBr.trans h) (fun _ _ h => h)))
            have HBD := hid hbd
            subst hgB
            obtain ⟨X, hX⟩ : ∃ X, toXB im.sigs bd = X := ⟨_, rfl⟩
            rw [hX] at p0 p1 p2 HLE
            clear hX hbx hcell hx hal hai hlol hitl hbd hlo hit
            unfold hdV at HLE
            go_wp2_with fail
            refine (HLE.out wr (But.refl _ _)).mono ?_
            rintro en w4 ⟨hB4, hres⟩
            have hBw4 := hBr.trans hB4
            have hTs4 := hTs.but hB4
            have hg4 := (hB4.block w.heap.size hglr (fun h => h)).trans HGr.out
            have HG4 := hid hg4
            have hgl4 := lt_of_block hg4
            obtain ⟨q0, q1, q2, q3⟩ := row4 hg4
            obtain ⟨f0, f1, f2, f3⟩ := froz4 hg4
            clear HLE p0 p1 p2 p3 p4 hv2r hg4
            rcases hres with ⟨hN, rfl⟩ | ⟨tb, gt, hN, rfl, hst, hgt⟩
            · have hts : tabsP im 0 im.bodies = .error k := by
                have := tabsP_err (i := 0) HA.out HBD.out hN
                rw [this]
                simp
              have HTS := hid hts
              clear hts hN HA
              go_wp2_with fail
              have h9 := put4_heap HG4.out (.int .i64 4) (.int .i64 k) (.pointer none) (.slice none 0 0)
              have h9b := put4_but w4 w.heap.size (.int .i64 4) (.int .i64 k) (.pointer none) (.slice none 0 0)
              unfold put4 at h9 h9b
              have h10b : But (· = w.heap.size) w4 (((((w4.setCell ⟨w.heap.size, 0, none⟩ (.int .i64 4)).setCell ⟨w.heap.size, 1, none⟩ (.int .i64 k)).setCell ⟨w.heap.size, 2, none⟩ (.pointer none)).setCell ⟨w.heap.size, 3, none⟩ (.slice none 0 0)).alloc (.cells #[.slice none 0 0] 59)) := h9b.trans (But.alloc _ _ _)
              have h10 := ((But.alloc (fun _ => False) ((((w4.setCell ⟨w.heap.size, 0, none⟩ (.int .i64 4)).setCell ⟨w.heap.size, 1, none⟩ (.int .i64 k)).setCell ⟨w.heap.size, 2, none⟩ (.pointer none)).setCell ⟨w.heap.size, 3, none⟩ (.slice none 0 0)) (.cells #[.slice none 0 0] 59)).block w.heap.size (lt_of_block h9) (fun h => h)).trans h9
              clear h9 h9b
              revert h10 h10b
              generalize (((((w4.setCell ⟨w.heap.size, 0, none⟩ (.int .i64 4)).setCell ⟨w.heap.size, 1, none⟩ (.int .i64 k)).setCell ⟨w.heap.size, 2, none⟩ (.pointer none)).setCell ⟨w.heap.size, 3, none⟩ (.slice none 0 0)).alloc (.cells #[.slice none 0 0] 59)) = w9
              intro h10b h10
              obtain ⟨r0, r1, r2, r3⟩ := row4 h10
              exact bodyPost_ret (v := .agg #[.int .i64 4, .int .i64 k, .pointer none, .slice none 0 0]) (by simp [results, Tryz.results20, go_sem, r0, r1, r2, r3]) rfl ⟨(hBw2.trans hBw4).next h10b (fun k hk h => by omega), by unfold ExamP; rw [HL.out]; simp only [HTS.out]⟩
            · have HN := hid hN
              clear hN
              have hO4 : w4.ownsRow w2.heap.size 59 1 (.slice ao k cap) k (xtvCells l) := by have := hTs4.1; rw [HLK.out] at this; exact this
              have hsz := hBw4.size
              go_wp2_with (at_builtin; refine wpList_append_lies _ rfl _ _ _ rfl w2.heap.size 59 i0 _ 1 24 (by kernel_rfl) hi0 hz0 hz1 hz2 rfl (by omega) _ k (xtvCells l) rfl ((hO4.alloc _).alloc _) ⟨w4.heap.size + 1, 0, none⟩ 1 1 [.slice (some ⟨gt, 0, none⟩) tb.length tb.length] rfl rfl (World.news_of_block (cs := #[.slice (some ⟨gt, 0, none⟩) tb.length tb.length]) (t := 59) (fr := (0, 0)) (heap_alloc_at (by simp) _)) (by simp [Value.oneCell']) (by omega) (by unfold maxLen; omega) (by omega) (by simp; omega) (w4.heap.size + 2) (by simp) ?_)
              intro gg cap3 w5 hown2 hgrow hat hlt2
              have hSW : But (fun k' => (Value.slice ao k cap).ownBlock = some k') w4 w5 := ((But.alloc _ _ _).trans (But.alloc _ _ _)).trans (but_grown hgrow)
              have hBw5 : But (fun _ => False) w2 w5 := hBw4.next hSW (fun k' hk' h => absurd (owns_ge hO4 k' h) (by omega))
              have hsoff : ∀ p : Nat × List St, StB w4 p.1 p.2 → StB w5 p.1 p.2 := by
                intro p hp
                refine hp.off hSW ?_ (fun k' cur hk' e => owns_apart hO4 hk' (by decide) e)
                obtain ⟨l', hs', _⟩ := hp
                exact owns_apart hO4 hs' (by decide)
              have hTs5 : XTabs w5 w2.heap.size (.slice (some ⟨gg, 0, none⟩) (k + 1) cap3) (l ++ [(gt, tb)]) := by
                refine ⟨?_, fun p hp => ?_⟩
                · unfold xtvCells
                  rw [List.length_append, HLK.out, List.map_append]
                  exact hown2
                · rcases List.mem_append.1 hp with hp | hp
                  · exact hsoff p (hTs4.2 p hp)
                  · simp at hp
                    subst hp
                    exact hsoff (gt, tb) hst
              have HNX : Hid ((im.bodies.take (k + 1)).map (leastT im) = ((l ++ [(gt, tb)]).map (·.2)).map some) := by
                show _ = _
                obtain ⟨hk9, hk8⟩ := List.getElem?_eq_some_iff.1 HBD.out
                rw [List.take_succ_eq_append_getElem hk9, List.map_append, HA.out, hk8]
                simp [HN.out]
              clear q0 q1 q2 q3 f0 f1 f2 f3 hSW hgrow hown2 hat
              go_wp2_with fail
              go_roundg (lb.length - (k + 1))
              case measure => omega
              case rel => exact ⟨k + 1, _, cap3, l ++ [(gt, tb)], by simp, by rw [List.length_append, HLK.out]; rfl, by simp, by omega, by omega, by omega, hBw5, hTs5, HNX.out⟩
          · have hkn : ¬ (k : Int) < (lb.length : Int) := by omega
            have hk : k = im.bodies.length := by omega
            have hts : tabsP im 0 im.bodies = .ok (l.map (·.2)) := tabsP_ok (by
              have := HA.out
              rw [List.take_of_length_le (by omega)] at this
              exact this)
            have HTS := hid hts
            clear hts HA hk
            obtain ⟨q0, q1, q2, q3⟩ := row4 HGr.out
            obtain ⟨f0, f1, f2, f3⟩ := froz4 HGr.out
            clear hgr
            go_wp2_with fail
            have h9 := put4_heap HGr.out (.int .i64 0) (.int .i64 0) (.pointer (some ⟨g, 0, none⟩)) (.slice ao k cap)
            have h9b := put4_but wr w.heap.size (.int .i64 0) (.int .i64 0) (.pointer (some ⟨g, 0, none⟩)) (.slice ao k cap)
            unfold put4 at h9 h9b
            revert h9 h9b
            generalize ((((wr.setCell ⟨w.heap.size, 0, none⟩ (.int .i64 0)).setCell ⟨w.heap.size, 1, none⟩ (.int .i64 0)).setCell ⟨w.heap.size, 2, none⟩ (.pointer (some ⟨g, 0, none⟩))).setCell ⟨w.heap.size, 3, none⟩ (.slice ao k cap)) = w9
            intro h9 h9b
            obtain ⟨r0, r1, r2, r3⟩ := row4 h9
            have hTs9 : XTabs w9 w.heap.size (.slice ao l.length cap) l := by
              have hz2 := hBw2.size
              rw [HLK.out]
              have hT' := hTs.1
              refine ⟨?_, fun p hp => (hTs.2 p hp).off h9b ?_ ?_⟩
              · exact owns_but (hT'.mono (by omega)) h9b (fun g' hg' e => by have := owns_ge hT' g' hg'; omega)
              · intro e
                obtain ⟨l', hs', _⟩ := hTs.2 p hp
                rw [e, HGr.out] at hs'
                injection hs' with hs'
                injection hs' with _ h2
                exact absurd h2 (by decide)
              · intro k' cur hk' e
                rw [e, HGr.out] at hk'
                injection hk' with hk'
                injection hk' with _ h2
                exact absurd h2 (by decide)
            exact bodyPost_ret (v := .agg #[.int .i64 0, .int .i64 0, .pointer (some ⟨g, 0, none⟩), .slice ao k cap]) (by simp [results, Tryz.results20, go_sem, r0, r1, r2, r3]) rfl ⟨(hBw2.trans hBr).next h9b (fun k hk h => by omega), by unfold ExamP; rw [HL.out]; simp only [HTS.out]; exact ⟨g, ao, cap, l, by rw [HLK.out], rfl, hTs9⟩⟩
end Go.Proofs.YtmfbojnnoonidaaGreatDoor
/- The program's Check. -/
namespace Go.Proofs.YtmfbojnnoonidaaGreatDoor
open Go Go.RowKit Sp
set_option linter.unusedSimpArgs false
set_option linter.unusedVariables false
attribute [local go_sem ↓] Go.wp_at_zero Go.wp_at_succ

set_option maxHeartbeats 1600000 in
set_option maxRecDepth 100000 in
theorem xcheck_any (s : ByteArray) (w : World) (hmax : s.size ≤ maxLen) :
    Calls Tryz.prog 8 #[.string s] w fun en w' => en = .returned (.tuple #[.int .i64 (checkP s).1, .int .i64 (checkP s).2]) ∧ But (fun _ => False) w w' := by
  have key : Calls Tryz.prog 20 #[.string s] w fun en w' => But (fun _ => False) w w' ∧ ∃ p ao cap n, en = .returned (.agg #[.int .i64 (checkP s).1, .int .i64 (checkP s).2, .pointer p, .slice ao n cap]) := by
    refine (xexamine_any s w hmax).mono ?_
    rintro en w' ⟨hB, hE⟩
    refine ⟨hB, ?_⟩
    unfold ExamP at hE
    unfold checkP
    cases hl : linkP s with
    | error e =>
      rw [hl] at hE
      obtain ⟨e, p⟩ := e
      exact ⟨_, _, _, _, hE⟩
    | ok im =>
      rw [hl] at hE
      simp only at hE ⊢
      cases ht : tabsP im 0 im.bodies with
      | error k => rw [ht] at hE; exact ⟨_, _, _, _, hE⟩
      | ok ts =>
        rw [ht] at hE
        obtain ⟨g, ao, cap, l, h1, _⟩ := hE
        exact ⟨_, _, _, _, h1⟩
  have HK := hid key
  clear key
  obtain ⟨E, hE⟩ : ∃ E, checkP s = E := ⟨_, rfl⟩
  rw [hE] at HK
  rw [hE]
  clear hE
  obtain ⟨e, p⟩ := E
  dsimp only at HK ⊢
  go_enter Tryz.func8, Tryz.ntmps8
  go_wp2_with fail
  refine HK.out.mono ?_
  rintro en w1 ⟨hB1, p1, ao, cap, n, rfl⟩
  go_wp2_with fail
  have hBW : But (fun _ => False) w1 (w1.alloc (.cells #[.int .i64 e, .int .i64 p, .pointer p1, .slice ao n cap] 48)) := But.alloc _ _ _
  have hgW := heap_alloc_new w1 (.cells #[.int .i64 e, .int .i64 p, .pointer p1, .slice ao n cap] 48)
  revert hBW hgW
  generalize (w1.alloc (.cells #[.int .i64 e, .int .i64 p, .pointer p1, .slice ao n cap] 48)) = W
  intro hBW hgW
  obtain ⟨k0, k1, k2, k3⟩ := row4 hgW
  have hgl := lt_of_block hgW
  have hS0 : But (fun _ => False) W W.drew := But.drew _ _
  refine wpP_begin (But (fun _ => False) W) 5 (by kernel_rfl) ?_
  have fSA := hid (fun wS (h : (But (fun _ => False) W) wS) => (And.intro ((h.cell (p := ⟨w1.heap.size, 0, none⟩) hgl (fun h => h)).trans k0) ((h.cell (p := ⟨w1.heap.size, 1, none⟩) hgl (fun h => h)).trans k1)))
  refine wpP_take (k := 2) (v := ?vA2) rfl (by decide) (by kernel_rfl) ?qA2 rfl hS0 ?yA2 ?rA2
  case yA2 => intro wS h; obtain ⟨q0, q1⟩ := fSA.out wS h; clear h; go_simp; try rfl
  case qA2 => exact fun _ _ _ h => h
  dsimp only [Act.put]
  try simp only [puts]
  refine wpP_take (k := 3) (v := ?vA3) rfl (by decide) (by kernel_rfl) ?qA3 rfl hS0 ?yA3 ?rA3
  case yA3 => intro wS h; obtain ⟨q0, q1⟩ := fSA.out wS h; clear h; go_simp; try rfl
  case qA3 => exact fun _ _ _ h => h
  dsimp only [Act.put]
  try simp only [puts]
  refine wpP_take (k := 0) (v := ?vA0) rfl (by decide) (by kernel_rfl) ?qA0 rfl hS0 ?yA0 ?rA0
  case yA0 => intro wS h; obtain ⟨q0, q1⟩ := fSA.out wS h; clear h; go_simp; try rfl
  case qA0 => exact fun _ _ _ h => h
  dsimp only [Act.put]
  try simp only [puts]
  refine wpP_take (k := 1) (v := ?vA1) rfl (by decide) (by kernel_rfl) ?qA1 rfl hS0 ?yA1 ?rA1
  case yA1 => intro wS h; obtain ⟨q0, q1⟩ := fSA.out wS h; clear h; go_simp; try rfl
  case qA1 => exact fun _ _ _ h => h
  dsimp only [Act.put]
  try simp only [puts]
  try clear fSA
  refine wpP_step (k := 4) (o := ?oA4) ?hoA4 ?hlA4 ?hrA4 ?stA4
  case hoA4 => rfl
  case hlA4 => decide
  case hrA4 => kernel_rfl
  case' stA4 =>
  intro KS hKS
  go_simp
  refine hKS.out _ _ (fun _ => hS0) ?_
  clear hKS KS
  refine wpP_step (k := 5) (o := ?oA5) ?hoA5 ?hlA5 ?hrA5 ?stA5
  case hoA5 => rfl
  case hlA5 => decide
  case hrA5 => kernel_rfl
  case' stA5 =>
  intro KS hKS
  go_simp
  refine hKS.out _ _ (fun h => absurd h (by decide)) ?_
  clear hKS KS
  refine wpP_done rfl (by kernel_rfl) ?_
  go_wp2_with fail
  exact bodyPost_ret (v := .tuple #[.int .i64 e, .int .i64 p]) (by simp [results, Tryz.results8, go_sem]) rfl ⟨rfl, (hB1.trans hBW).trans hS0⟩
end Go.Proofs.YtmfbojnnoonidaaGreatDoor
namespace Go.Proofs.YtmfbojnnoonidaaGreatDoor
open Go Go.RowKit Sp
set_option linter.unusedSimpArgs false
set_option linter.unusedVariables false
attribute [local go_sem ↓] Go.wp_at_zero Go.wp_at_succ

theorem num_any (e : Int) (w : World) :
    Calls Tryz.prog 10 #[.int .i64 e] w fun en w' => en = .returned (.int .i64 e) ∧ w' = w := by
  go_enter Tryz.func10, Tryz.ntmps10
  go_wp2_with fail
  all_goals go_ret
  all_goals exact ⟨rfl, rfl⟩

set_option maxHeartbeats 1600000 in
set_option maxRecDepth 100000 in
theorem plays_check (a b c : Int) (s t u : ByteArray) (w : World) (hmax : s.size ≤ maxLen) :
    Calls Tryz.prog 7 #[.agg #[.int .i64 1, .int .i64 a, .int .i64 b, .int .i64 c, .string s, .string t, .string u]] w fun en w' => en = .returned (.bool true) ∧ But (fun _ => False) w w' := by
  obtain ⟨E, hE⟩ : ∃ E, checkP s = E := ⟨_, rfl⟩
  obtain ⟨e, p⟩ := E
  have H1 : Hid (∀ w, Calls Tryz.prog 8 #[.string s] w fun en w' => en = .returned (.tuple #[.int .i64 e, .int .i64 p]) ∧ But (fun _ => False) w w') := hid (fun w => by have := xcheck_any s w hmax; rw [hE] at this; exact this)
  have H2 : Hid (∀ w, Calls Tryz.prog 9 #[.string s] w fun en w' => en = .returned (.tuple #[.int .i64 e, .int .i64 p]) ∧ But (fun _ => False) w w') := hid (fun w => by have := check_any s w hmax; rw [hE] at this; exact this)
  clear hE
  go_enter Tryz.func7, Tryz.ntmps7
  go_wp2_with fail
  refine (H1.out _).mono ?_
  rintro en w1 ⟨rfl, hB1⟩
  have hg0 := heap_alloc_new w (.cells #[.int .i64 1, .int .i64 a, .int .i64 b, .int .i64 c, .string s, .string t, .string u] 26)
  have hBW : But (fun _ => False) w (w.alloc (.cells #[.int .i64 1, .int .i64 a, .int .i64 b, .int .i64 c, .string s, .string t, .string u] 26)) := But.alloc _ _ _
  have hg1 := (hB1.block _ (lt_of_block hg0) (fun h => h)).trans hg0
  have hBw := hBW.trans hB1
  clear hg0 hBW hB1
  have k4 : w1.cell? ⟨w.heap.size, 4, none⟩ = some (.string s) := by rw [cell_of_row w1 _ 4 _ _ (0, 0) hg1]; rfl
  have hgl := lt_of_block hg1
  go_wp2_with fail
  refine (H2.out _).mono ?_
  rintro en w2 ⟨rfl, hB2⟩
  have hB := hBw.trans hB2
  clear hB2 hBw
  go_wp2_with fail
  refine (num_any _ _).mono ?_
  rintro en w3 ⟨rfl, rfl⟩
  go_wp2_with fail
  all_goals go_ret
  all_goals exact ⟨rfl, hB⟩
end Go.Proofs.YtmfbojnnoonidaaGreatDoor
namespace Go.Proofs.YtmfbojnnoonidaaGreatDoor
open Go Go.RowKit Sp
set_option linter.unusedSimpArgs false
set_option linter.unusedVariables false
attribute [local go_sem ↓] Go.wp_at_zero Go.wp_at_succ

/-- One step of a script, at its place. -/
structure OpAt (w : World) (b o : Nat) (kd : Int) (s : ByteArray) : Prop where
  rest : ∃ (x y z : Int) (t u : ByteArray), w.cell? ⟨b, o, none⟩ = some (.int .i64 kd) ∧ w.cell? ⟨b, o + 1, none⟩ = some (.int .i64 x) ∧ w.cell? ⟨b, o + 2, none⟩ = some (.int .i64 y) ∧ w.cell? ⟨b, o + 3, none⟩ = some (.int .i64 z) ∧
    w.cell? ⟨b, o + 4, none⟩ = some (.string s) ∧ w.cell? ⟨b, o + 5, none⟩ = some (.string t) ∧ w.cell? ⟨b, o + 6, none⟩ = some (.string u)
  short : s.size ≤ maxLen
/-- A script, as it lies in memory. -/
def OpsAt (w : World) (ao : Option Addr) (n : Nat) : Prop :=
  n ≤ maxLen ∧ (0 < n → ∃ b o, ao = some ⟨b, o, none⟩ ∧ b < w.heap.size ∧ ∀ k, k < n → ∃ kd s, OpAt w b (o + k * 7) kd s)

set_option maxHeartbeats 1600000 in
set_option maxRecDepth 100000 in
theorem upto_check (ao : Option Addr) (n cap : Nat) (w : World) (hO : OpsAt w ao n) :
    Calls Tryz.prog 6 #[.slice ao n cap, .int .i64 1, .int .i64 1] w fun en w' => en = .returned (.int .i64 (-1)) ∧ But (fun _ => False) w w' := by
  go_enter Tryz.func6, Tryz.ntmps6
  go_wp2_with fail
  have hn : n ≤ 9223372036854775807 := hO.1
  go_loopg [7] n (fun mm is wr => ∃ (k : Nat), is = .int .i64 k ∧ k ≤ n ∧ k + mm ≤ n ∧ n ≤ k + mm ∧ But (fun _ => False) w wr)
  case atStart => exact ⟨0, rfl, by omega, by omega, by omega, But.refl _ _⟩
  case round =>
    obtain ⟨k, rfl, hk1, hk2, hk3, hBr⟩ := hrel
    clear hk2
    by_cases hlt : k < n
    · have hkn : (k : Int) < (n : Int) := by omega
      obtain ⟨b, o, rfl, hb, hA⟩ := hO.2 (by omega)
      obtain ⟨kd, s, ⟨x, y, z, t, u, q0, q1, q2, q3, q4, q5, q6⟩, hs⟩ := hA k hlt
      have hbr : b < wr.heap.size := Nat.lt_of_lt_of_le hb hBr.size
      rw [← hBr.cell (p := ⟨b, _, none⟩) hb (fun h => h)] at q0 q1 q2 q3 q4 q5 q6
      clear hA
      have hwr : IntKind.i64.wrap ((k : Int) + 1) = (k : Int) + 1 := (IntWalk.i64_left _).trans (IntWalk.wrap64_in _ ⟨by omega, by omega⟩)
      by_cases hmx : (k : Int) < 1152921504606846976
      · rcases Int.lt_trichotomy kd 1 with h1 | h1 | h1
        · have hB2 := hBr.trans (But.alloc _ wr (.cells #[.int .i64 kd, .int .i64 x, .int .i64 y, .int .i64 z, .string s, .string t, .string u] 26))
          have g1 : decide ((1 : Int) ≤ kd) = false := decide_eq_false (by omega)
          clear hO hlt hn h1 hb
          go_wp2_with fail
          go_roundg (n - (k + 1))
          case measure => omega
          case rel => exact ⟨k + 1, by simp, by omega, by omega, by omega, hB2⟩
        · subst h1
          go_wp2_with fail
          refine (plays_check x y z s t u _ hs).mono ?_
          rintro en w1 ⟨rfl, hB1⟩
          have hB2 := hBr.trans ((But.alloc _ _ _).trans hB1)
          clear hB1
          go_wp2_with fail
          go_roundg (n - (k + 1))
          case measure => omega
          case rel => exact ⟨k + 1, by simp, by omega, by omega, by omega, hB2⟩
        · have hB2 := hBr.trans (But.alloc _ wr (.cells #[.int .i64 kd, .int .i64 x, .int .i64 y, .int .i64 z, .string s, .string t, .string u] 26))
          have g1 : decide ((1 : Int) ≤ kd) = true := decide_eq_true (by omega)
          have g2 : decide (kd ≤ (1 : Int)) = false := decide_eq_false (by omega)
          clear hO hlt hn h1 hb
          go_wp2_with fail
          go_roundg (n - (k + 1))
          case measure => omega
          case rel => exact ⟨k + 1, by simp, by omega, by omega, by omega, hB2⟩
      · go_wp2_with fail
        exact bodyPost_ret (v := .int .i64 (-1)) (by simp [results, Tryz.results6, go_sem]) rfl ⟨rfl, hBr⟩
    · have hkn : ¬ (k : Int) < (n : Int) := by omega
      go_wp2_with fail
      exact bodyPost_ret (v := .int .i64 (-1)) (by simp [results, Tryz.results6, go_sem]) rfl ⟨rfl, hBr⟩

theorem checks_any (ao : Option Addr) (n cap : Nat) (w : World) (hO : OpsAt w ao n) :
    Calls Tryz.prog 3 #[.slice ao n cap] w fun en w' => en = .returned (.bool true) ∧ But (fun _ => False) w w' := by
  have HU := hid (upto_check ao n cap w hO)
  clear hO
  go_enter Tryz.func3, Tryz.ntmps3
  go_wp2_with fail
  refine HU.out.mono ?_
  rintro en w1 ⟨rfl, hB⟩
  go_wp2_with fail
  all_goals go_ret
  all_goals exact ⟨rfl, hB⟩
end Go.Proofs.YtmfbojnnoonidaaGreatDoor
