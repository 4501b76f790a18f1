import Derived.Test.YtpfkkmacakjmbaaGreatDoorP14
namespace Go.Proofs.YtpfkkmacakjmbaaGreatDoor
open Go Go.RowKit Sp
set_option linter.unusedSimpArgs false
set_option linter.unusedVariables false
attribute [local go_sem ↓] Go.wp_at_zero Go.wp_at_succ
/-- The tables of the bodies; the number of the first body that has none. -/
def tabsP (im : Img) : Nat → List Bod → Except Nat (List (List St))
 | _, [] => .ok []
 | i, b :: bs =>
  match leastT im b with
  | none => .error i
  | some t =>
   match tabsP im (i + 1) bs with
   | .error e => .error e
   | .ok ts => .ok (t :: ts)
theorem tabsP_err {im : Img} : ∀ {bs : List Bod} {i k : Nat} {ts : List (List St)} {b : Bod}, (bs.take k).map (leastT im) = ts.map some → bs[k]? = some b → leastT im b = none → tabsP im i bs = .error (i + k) := by
 intro bs
 induction bs with
 | nil => intro i k ts b _ h; simp at h
 | cons x bs ih =>
  intro i k ts b h1 h2 h3
  cases k with
  | zero => simp at h2; subst h2; simp [tabsP, h3]
  | succ k =>
   cases ts with
   | nil => simp at h1
   | cons t ts =>
    simp at h1 h2
    have := ih (i := i + 1) (k := k) (by rw [List.map_take]; exact h1.2) h2 h3
    simp only [tabsP, h1.1, this]
    congr 1
    omega
theorem tabsP_ok {im : Img} : ∀ {bs : List Bod} {i : Nat} {ts : List (List St)}, bs.map (leastT im) = ts.map some → tabsP im i bs = .ok ts := by
 intro bs
 induction bs with
 | nil => intro i ts h; simp at h; subst h; rfl
 | cons x bs ih =>
  intro i ts h
  cases ts with
  | nil => simp at h
  | cons t ts =>
   simp at h
   simp only [tabsP, h.1, ih (i := i + 1) h.2]
def tvCells (l : List (Nat × List St)) : List Value := l.map fun p => .slice (some ⟨p.1, 0, none⟩) p.2.length p.2.length
/-- A slice of tables, each in a block of its own. -/
def TabsAt (w : World) (base : Nat) (v : Value) (l : List (Nat × List St)) : Prop :=
 w.ownsRow base 45 1 v l.length (tvCells l) ∧ ∀ p ∈ l, TabAt w p.1 p.2 ∧ base ≤ p.1 ∧ v.ownBlock ≠ some p.1
def TablesPost (R : Except Nat (List (List St))) (w : World) (en : Ending) (w' : World) : Prop := match R with
 | .error k => en = .returned (.tuple #[.slice none 0 0, .int .i64 k, .bool false])
 | .ok ts => ∃ v l, l.map (·.2) = ts ∧ en = .returned (.tuple #[v, .int .i64 0, .bool true]) ∧ TabsAt w' w.heap.size v l
theorem info_tab : (Tryz.prog.info? 45).map (fun i => (i.zero, i.size, i.bytes)) = some (some (.slice none 0 0), 1, 24) := by kernel_rfl
theorem TabsAt.but {w w' : World} {base : Nat} {v : Value} {l : List (Nat × List St)} (h : TabsAt w base v l) (hb : But (fun _ => False) w w') : TabsAt w' base v l :=
 ⟨owns_but h.1 hb (fun _ _ h => h), fun p hp => ⟨(h.2 p hp).1.but hb (fun h => h), (h.2 p hp).2⟩⟩
set_option maxHeartbeats 1600000 in
set_option maxRecDepth 100000 in
theorem tables_any (bi : Nat) (im : Img) (w : World) (hI : ImgAt w bi im) (hW : WfI im) :
  Calls Tryz.prog 69 #[.pointer (some ⟨bi, 0, none⟩)] w fun en w' => But (fun _ => False) w w' ∧ TablesPost (tabsP im 0 im.bodies) w en w' := by
 obtain ⟨R, hRR⟩ : ∃ R, tabsP im 0 im.bodies = R := ⟨_, rfl⟩
 rw [hRR]
 have HRR := hid hRR
 clear hRR
 obtain ⟨i0, hi0, hz0, hz1, hz2⟩ := info_parts info_tab
 obtain ⟨v0, v1, v2, bl, hIm, hC, hS, hB, hl, hcd⟩ := hI
 have hI : ImgAt w bi im := ⟨v0, v1, v2, bl, hIm, hC, hS, hB, hl, hcd⟩
 obtain ⟨a2, cap2, rfl⟩ := owns_len hB
 have hll : bl.length ≤ 7 := by have := hW.nb; rw [← hl] at this; simpa using this
 have HL := hid hl
 clear hl
 go_enter Tryz.func69, Tryz.ntmps69
 go_wp2_with fail
 go_loopg [5, 6] bl.length (fun mm vs ks wr => ∃ (k : Nat) (ao : Option Addr) (cap : Nat) (l : List (Nat × List St)), vs = .slice ao k cap ∧ l.length = k ∧ ks = .int .i64 k ∧ k ≤ bl.length ∧ k + mm ≤ bl.length ∧ bl.length ≤ k + mm ∧ But (fun _ => False) w wr ∧ TabsAt wr w.heap.size (.slice ao k cap) l ∧ Hid ((im.bodies.take k).map (leastT im) = (l.map (·.2)).map some))
 case atStart => exact ⟨0, none, 0, [], rfl, rfl, rfl, by omega, by omega, by omega, But.refl _ _, ⟨owns_nil _ _ _ _, by simp⟩, rfl⟩
 case round =>
  obtain ⟨k, ao, cap, l, rfl, hlk, rfl, hk1, hk2, hk3, hBr, hTs, HA⟩ := hrel
  have HLK := hid hlk
  clear hlk hk2
  have d2 := (hIm.but hBr (fun h => h)).c2
  by_cases hlt : k < bl.length
  ·have hx := List.getElem?_eq_getElem hlt
   obtain ⟨g, rfl, hg1, hg2, hcell⟩ := owns_two (owns_but hB hBr (fun _ _ h => h)) (by omega)
   have q0 := hcell _ _ (bodCells_at0 hx)
   have q1 := hcell _ _ (bodCells_at1 hx)
   have q2 := hcell _ _ (bodCells_at2 hx)
   have q3 := hcell _ _ (bodCells_at3 hx)
   have q4 := hcell _ _ (bodCells_at4 hx)
   have hmem : bl[k] ∈ bl := List.getElem_mem hlt
   obtain ⟨hok, htr⟩ := hcd _ hmem
   have hwb : WfB im.classes im.sigs bl[k].1 := hW.bod _ (by rw [← HL.out]; exact List.mem_map_of_mem hmem)
   have hbk : im.bodies[k]? = some bl[k].1 := by rw [← HL.out, List.getElem?_map, hx]; rfl
   obtain ⟨X, hX⟩ : ∃ X, bl[k] = X := ⟨_, rfl⟩
   rw [hX] at q0 q1 q2 q3 q4 hok htr hwb hbk
   rw [htr] at q4
   obtain ⟨Xb, Xk, Xt⟩ := X
   simp only at q0 q1 q2 q3 q4 hok hwb hbk
   obtain ⟨ak, capk, rfl⟩ := owns_len hok
   have HBK := hid hbk
   clear hcell hx hX hmem htr hbk
   have hkn : (k : Int) < (bl.length : Int) := by omega
   go_wp2_with fail
   refine (least_any bi im Xb ak capk wr (hI.but hBr) hW hwb (owns_but hok hBr (fun _ _ h => h))).mono ?_
   rintro en w1 ⟨hB1, hp⟩
   have hTs1 := hTs.but hB1
   have hBw1 := hBr.trans hB1
   clear q0 q1 q2 q3 q4 d2
   generalize hu : leastT im Xb = U at hp
   cases U with
   | none =>
    have hp' : en = .returned (.tuple #[.slice none 0 0, .bool false]) := hp
    subst hp'
    have hres : Except.error k = R := by
     rw [← HRR.out]
     have := tabsP_err (i := 0) HA.out HBK.out hu
     rw [this]
     simp
    subst hres
    clear hu hp HA HBK
    go_wp2_with fail
    exact bodyPost_ret (v := .tuple #[.slice none 0 0, .int .i64 k, .bool false]) (by simp [results, Tryz.results69, go_sem]) rfl ⟨hBw1, rfl⟩
   | some t =>
    obtain ⟨gt, rfl, hta, hgt⟩ := hp
    have HU := hid hu
    clear hu
    have hgt' : w.heap.size ≤ gt := Nat.le_trans hBr.size hgt
    have ltt := hta.lt
    have hO1 : w1.ownsRow w.heap.size 45 1 (.slice ao k cap) k (tvCells l) := by have := hTs1.1; rw [HLK.out] at this; exact this
    have hsz := hBw1.size
    go_wp2_with (at_builtin; refine wpList_append_lies _ rfl _ _ _ rfl w.heap.size 45 i0 _ 1 24 (by kernel_rfl) hi0 hz0 hz1 hz2 rfl (by omega) _ k (tvCells l) rfl (hO1.alloc _) ⟨w1.heap.size, 0, none⟩ 1 1 [.slice (some ⟨gt, 0, none⟩) t.length t.length] rfl rfl (World.news_of_block (cs := #[.slice (some ⟨gt, 0, none⟩) t.length t.length]) (t := 45) (fr := (0, 0)) (heap_alloc_new w1 _)) (by simp [Value.oneCell']) (by omega) (by unfold maxLen; omega) (by omega) (by simp; omega) (w1.heap.size + 1) (by simp) ?_)
    intro gg cap3 w2 hown2 hgrow hat hlt2
    have hSW : But (fun k' => (Value.slice ao k cap).ownBlock = some k') w1 w2 := (But.alloc _ _ _).trans (but_grown hgrow)
    have hBw2 : But (fun _ => False) w w2 := hBw1.next hSW (fun k' hk' h => absurd (owns_ge hO1 k' h) (by omega))
    have hTs2 : TabsAt w2 w.heap.size (.slice (some ⟨gg, 0, none⟩) (k + 1) cap3) (l ++ [(gt, t)]) := by
     refine ⟨?_, ?_⟩
     ·rw [List.length_append, HLK.out, tvCells, List.map_append]
      exact hown2
     ·intro p hp
      have key : ∀ p1, p1 < w1.heap.size → (Value.slice ao k cap).ownBlock ≠ some p1 → (Value.slice (some ⟨gg, 0, none⟩) (k + 1) cap3).ownBlock ≠ some p1 := fun p1 h1 h2 h3 => by
       have h5 : gg = p1 := by simpa [Value.ownBlock] using h3
       rcases hat with h | h
       ·exact h2 (by rw [← h5]; exact h)
       ·omega
      rcases List.mem_append.1 hp with hp | hp
      ·obtain ⟨h1, h2, h3⟩ := hTs1.2 p hp
       exact ⟨h1.but hSW h3, h2, key _ h1.lt h3⟩
      ·simp at hp
       subst hp
       have h3 : (Value.slice ao k cap).ownBlock ≠ some gt := fun h => by have := owns_lt hTs.1 _ h; omega
       exact ⟨hta.but hSW h3, hgt', key _ hta.lt h3⟩
    have HA2 : Hid ((im.bodies.take (k + 1)).map (leastT im) = ((l ++ [(gt, t)]).map (·.2)).map some) := by
     show _ = _
     rw [List.take_add_one, HBK.out, List.map_append, HA.out]
     simp [HU.out]
    go_wp2_with fail
    go_roundg (bl.length - (k + 1))
    case measure => omega
    case rel => exact ⟨k + 1, _, _, l ++ [(gt, t)], rfl, by rw [List.length_append, HLK.out]; rfl, by simp, by omega, by omega, by omega, hBw2, hTs2, HA2⟩
  ·have hres : Except.ok (l.map (·.2)) = R := by
    rw [← HRR.out]
    symm
    apply tabsP_ok
    have h1 : im.bodies.take k = im.bodies := List.take_of_length_le (by rw [← HL.out]; simp; omega)
    have h2 := HA.out
    rw [h1] at h2
    exact h2
   clear HA HRR
   subst hres
   have hkn : ¬ (k : Int) < (bl.length : Int) := by omega
   go_wp2_with fail
   exact bodyPost_ret (v := .tuple #[.slice ao k cap, .int .i64 0, .bool true]) (by simp [results, Tryz.results69, go_sem]) rfl ⟨hBr, _, l, rfl, rfl, hTs⟩
end Go.Proofs.YtpfkkmacakjmbaaGreatDoor
namespace Go.Proofs.YtpfkkmacakjmbaaGreatDoor
open Go Go.RowKit Sp
set_option linter.unusedSimpArgs false
set_option linter.unusedVariables false
attribute [local go_sem ↓] Go.wp_at_zero Go.wp_at_succ
/-- A state as a text. -/
def oneW : St → List UInt8
 | none => [63, 44]
 | some (s, l) => s ++ [124] ++ l ++ [44]
def writtenT (t : List St) : List UInt8 := t.flatMap oneW ++ [59]
def shortT (t : List St) : Prop := t.length ≤ 100 ∧ ∀ (k : Nat) s l, t[k]? = some (some (s, l)) → s.length ≤ 100 ∧ l.length ≤ 5
theorem wfT.short {nc nl n : Nat} {t : List St} (h : wfT nc nl n t) (hn : n ≤ 100) (hl : nl ≤ 5) : shortT t :=
 ⟨by rw [h.1]; exact hn, fun k s l hk => by have := h.okS hn k s l hk; exact ⟨this.2.2.2, by rw [this.2.2.1]; exact hl⟩⟩
set_option maxHeartbeats 1600000 in
set_option maxRecDepth 100000 in
theorem written_any (gA : Nat) (t : List St) (w : World) (hA : TabAt w gA t) (ht : shortT t) :
  Calls Tryz.prog 70 #[.slice (some ⟨gA, 0, none⟩) t.length t.length] w fun en w' => en = .returned (.string ⟨(writtenT t).toArray⟩) ∧ But (fun _ => False) w w' := by
 have hl := ht.1
 go_enter Tryz.func70, Tryz.ntmps70
 go_wp2_with fail
 go_loopg [3, 4] t.length (fun mm ss ks wr => ∃ (k : Nat) (s : List UInt8), ss = .string ⟨s.toArray⟩ ∧ s.length ≤ 200 * k ∧ ks = .int .i64 k ∧ k ≤ t.length ∧ k + mm ≤ t.length ∧ t.length ≤ k + mm ∧ But (fun _ => False) w wr ∧ Hid ((t.take k).flatMap oneW = s))
 case atStart => exact ⟨0, [], rfl, by simp, rfl, by omega, by omega, by omega, But.refl _ _, rfl⟩
 case round =>
  obtain ⟨k, s, rfl, hsl, rfl, hk1, hk2, hk3, hBr, HA⟩ := hrel
  clear hk2
  have hTa := hA.but hBr (fun h => h)
  by_cases hlt : k < t.length
  ·have hkn : (k : Int) < (t.length : Int) := by omega
   obtain ⟨o, ho⟩ : ∃ o, t[k] = o := ⟨_, rfl⟩
   have hgl := List.getElem?_eq_getElem hlt
   rw [ho] at hgl
   have q0 := hTa.cell (k := 0) hgl (by omega)
   have q1 := hTa.cell (k := 1) hgl (by omega)
   have q2 := hTa.cell (k := 2) hgl (by omega)
   simp only [Nat.add_zero] at q0
   have alt := hTa.lt
   have HT : Hid ((t.take (k + 1)).flatMap oneW = s ++ oneW o) := by
    show _ = _
    rw [List.take_add_one, hgl, List.flatMap_append, HA.out]
    simp
   cases o with
   | none =>
    have q0' : wr.cell? ⟨gA, k * 3, none⟩ = some (.bool false) := q0
    clear q0 q1 q2 hgl ho HA
    have hsz : (⟨s.toArray⟩ : ByteArray).size + 2 ≤ 20000 + 2 := by show s.toArray.size + 2 ≤ _; simp; omega
    go_wp2_with fail
    go_roundg (t.length - (k + 1))
    case measure => omega
    case rel => exact ⟨k + 1, s ++ [63, 44], congrArg Value.string (bytes_append _ _), by simp; omega, by simp, by omega, by omega, by omega, hBr, HT.out⟩
   | some st =>
    obtain ⟨st, lo⟩ := st
    have hsh := ht.2 k st lo hgl
    have q0' : wr.cell? ⟨gA, k * 3, none⟩ = some (.bool true) := q0
    have q1' : wr.cell? ⟨gA, k * 3 + 1, none⟩ = some (.string ⟨st.toArray⟩) := q1
    have q2' : wr.cell? ⟨gA, k * 3 + 2, none⟩ = some (.string ⟨lo.toArray⟩) := q2
    clear q0 q1 q2 hgl ho HA
    go_wp2_with fail
    have n1 : ¬ 9223372036854775807 < s.length + st.length := by omega
    have n2 : ¬ 9223372036854775807 < s.length + st.length + 1 := by omega
    have n3 : ¬ 9223372036854775807 < s.length + st.length + 1 + lo.length := by omega
    have n4 : ¬ 9223372036854775807 < s.length + st.length + 1 + lo.length + 1 := by omega
    have hS0 : But (fun _ => False) wr wr.drew := But.drew _ _
    refine wpTx_begin (But (fun _ => False) wr) 15 (by kernel_rfl) ?_
    have fSA := hid (fun wS (h : (But (fun _ => False) wr) wS) => (And.intro ((h.cell (p := ⟨gA, k * 3 + 1, none⟩) alt (fun h => h)).trans q1') ((h.cell (p := ⟨gA, k * 3 + 2, none⟩) alt (fun h => h)).trans q2')))
    refine wpTx_take (v := ?vA0) rfl (by kernel_rfl) ?qA0 rfl hS0 ?yA0 ?rA0
    case yA0 => intro wS h; obtain ⟨q0, q1⟩ := fSA.out wS h; clear h; go_simp; try rfl
    case qA0 => exact fun _ _ _ h => h
    dsimp only [Act.put]
    try simp only [puts]
    refine wpTx_take (v := ?vA1) rfl (by kernel_rfl) ?qA1 rfl hS0 ?yA1 ?rA1
    case yA1 => intro wS h; obtain ⟨q0, q1⟩ := fSA.out wS h; clear h; go_simp; try rfl
    case qA1 => exact fun _ _ _ h => h
    dsimp only [Act.put]
    try simp only [puts]
    refine wpTx_take (v := ?vA2) rfl (by kernel_rfl) ?qA2 rfl hS0 ?yA2 ?rA2
    case yA2 => intro wS h; obtain ⟨q0, q1⟩ := fSA.out wS h; clear h; go_simp; try rfl
    case qA2 => exact fun _ _ _ h => h
    dsimp only [Act.put]
    try simp only [puts]
    refine wpTx_take (v := ?vA3) rfl (by kernel_rfl) ?qA3 rfl hS0 ?yA3 ?rA3
    case yA3 => intro wS h; obtain ⟨q0, q1⟩ := fSA.out wS h; clear h; go_simp; try rfl
    case qA3 => exact fun _ _ _ h => h
    dsimp only [Act.put]
    try simp only [puts]
    refine wpTx_take (v := ?vA4) rfl (by kernel_rfl) ?qA4 rfl hS0 ?yA4 ?rA4
    case yA4 => intro wS h; obtain ⟨q0, q1⟩ := fSA.out wS h; clear h; go_simp; try rfl
    case qA4 => exact fun _ _ _ h => h
    dsimp only [Act.put]
    try simp only [puts]
    refine wpTx_take (v := ?vA5) rfl (by kernel_rfl) ?qA5 rfl hS0 ?yA5 ?rA5
    case yA5 => intro wS h; obtain ⟨q0, q1⟩ := fSA.out wS h; clear h; go_simp; try rfl
    case qA5 => exact fun _ _ _ h => h
    dsimp only [Act.put]
    try simp only [puts]
    refine wpTx_take (v := ?vA6) rfl (by kernel_rfl) ?qA6 rfl hS0 ?yA6 ?rA6
    case yA6 => intro wS h; obtain ⟨q0, q1⟩ := fSA.out wS h; clear h; go_simp; try rfl
    case qA6 => exact fun _ _ _ h => h
    dsimp only [Act.put]
    try simp only [puts]
    refine wpTx_take (v := ?vA7) rfl (by kernel_rfl) ?qA7 rfl hS0 ?yA7 ?rA7
    case yA7 => intro wS h; obtain ⟨q0, q1⟩ := fSA.out wS h; clear h; go_simp; try rfl
    case qA7 => exact fun _ _ _ h => h
    dsimp only [Act.put]
    try simp only [puts]
    refine wpTx_take (v := ?vA8) rfl (by kernel_rfl) ?qA8 rfl hS0 ?yA8 ?rA8
    case yA8 => intro wS h; obtain ⟨q0, q1⟩ := fSA.out wS h; clear h; go_simp; try rfl
    case qA8 => exact fun _ _ _ h => h
    dsimp only [Act.put]
    try simp only [puts]
    refine wpTx_take (v := ?vA9) rfl (by kernel_rfl) ?qA9 rfl hS0 ?yA9 ?rA9
    case yA9 => intro wS h; obtain ⟨q0, q1⟩ := fSA.out wS h; clear h; go_simp; try rfl
    case qA9 => exact fun _ _ _ h => h
    dsimp only [Act.put]
    try simp only [puts]
    refine wpTx_take (v := ?vA10) rfl (by kernel_rfl) ?qA10 rfl hS0 ?yA10 ?rA10
    case yA10 => intro wS h; obtain ⟨q0, q1⟩ := fSA.out wS h; clear h; go_simp; try rfl
    case qA10 => exact fun _ _ _ h => h
    dsimp only [Act.put]
    try simp only [puts]
    refine wpTx_take (v := ?vA11) rfl (by kernel_rfl) ?qA11 rfl hS0 ?yA11 ?rA11
    case yA11 => intro wS h; obtain ⟨q0, q1⟩ := fSA.out wS h; clear h; go_simp; try rfl
    case qA11 => exact fun _ _ _ h => h
    dsimp only [Act.put]
    try simp only [puts]
    refine wpTx_take (v := ?vA12) rfl (by kernel_rfl) ?qA12 rfl hS0 ?yA12 ?rA12
    case yA12 => intro wS h; obtain ⟨q0, q1⟩ := fSA.out wS h; clear h; go_simp; try rfl
    case qA12 => exact fun _ _ _ h => h
    dsimp only [Act.put]
    try simp only [puts]
    refine wpTx_take (v := ?vA13) rfl (by kernel_rfl) ?qA13 rfl hS0 ?yA13 ?rA13
    case yA13 => intro wS h; obtain ⟨q0, q1⟩ := fSA.out wS h; clear h; go_simp; try rfl
    case qA13 => exact fun _ _ _ h => h
    dsimp only [Act.put]
    try simp only [puts]
    refine wpTx_take (v := ?vA14) rfl (by kernel_rfl) ?qA14 rfl hS0 ?yA14 ?rA14
    case yA14 => intro wS h; obtain ⟨q0, q1⟩ := fSA.out wS h; clear h; go_simp; try rfl
    case qA14 => exact fun _ _ _ h => h
    dsimp only [Act.put]
    try simp only [puts]
    try clear fSA
    refine wpTx_step (o := ?oA15) (rest := ?rsA15) ?hoA15 ?hrA15 ?stA15
    case hoA15 => rfl
    case hrA15 => kernel_rfl
    case' stA15 =>
    intro KS hKS
    go_simp
    refine hKS.out _ _ (fun h => absurd h (by decide)) ?_
    clear hKS KS
    refine wpTx_done rfl (by kernel_rfl) ?_
    go_wp2_with fail
    go_roundg (t.length - (k + 1))
    case measure => omega
    case rel => exact ⟨k + 1, s ++ (st ++ [124] ++ lo ++ [44]), by simp only [bytes_append]; apply congrArg; apply ByteArray.ext; simp, by simp; omega, by simp, by omega, by omega, by omega, hBr.trans hS0, HT.out⟩
  ·have hkn : ¬ (k : Int) < (t.length : Int) := by omega
   have hres : writtenT t = s ++ [59] := by rw [writtenT, ← HA.out, List.take_of_length_le (by omega)]
   have HRS := hid hres
   clear hres HA
   have n1 : ¬ 9223372036854775807 < s.length + 1 := by omega
   go_wp2_with fail
   exact bodyPost_ret (v := .string (⟨s.toArray⟩ ++ ⟨#[59]⟩)) (by simp [results, Tryz.results70, go_sem]) rfl ⟨by rw [HRS.out]; exact congrArg (fun x => Ending.returned (.string x)) (bytes_append _ _), hBr⟩
/-- What Check answers. -/
def checkP (s : ByteArray) : Nat × Nat :=
 match linkP s with
 | .error e => e
 | .ok im =>
  match tabsP im 0 im.bodies with
  | .error k => (4, k)
  | .ok _ => (0, 0)
/-- What Types answers. -/
def typesP (s : ByteArray) : List UInt8 × Nat :=
 match linkP s with
 | .error e => ([], e.1)
 | .ok im =>
  match tabsP im 0 im.bodies with
  | .error _ => ([], 4)
  | .ok ts => (ts.flatMap writtenT, 0)
theorem linkP_err {s : ByteArray} {e p : Nat} (h : linkP s = .error (e, p)) : 1 ≤ e ∧ e ≤ 3 := by
 unfold linkP at h
 split at h
 ·cases h; omega
 split at h
 ·cases h; omega
 ·split at h
  ·cases h; omega
  ·cases h
set_option maxHeartbeats 1600000 in
set_option maxRecDepth 100000 in
theorem check_any (s : ByteArray) (w : World) (hmax : s.size ≤ maxLen) :
  Calls Tryz.prog 46 #[.string s] w fun en w' => en = .returned (.tuple #[.int .i64 (checkP s).1, .int .i64 (checkP s).2]) ∧ But (fun _ => False) w w' := by
 obtain ⟨R, hRR⟩ : ∃ R, checkP s = R := ⟨_, rfl⟩
 rw [hRR]
 unfold checkP at hRR
 go_enter Tryz.func46, Tryz.ntmps46
 go_wp2_with fail
 refine (linked_any s w hmax).mono ?_
 rintro en w1 ⟨rfl, hB1, hp⟩
 cases hl : linkP s with
 | error ep =>
  obtain ⟨e, p⟩ := ep
  rw [hl] at hRR
  have := linkP_err hl
  simp only at hRR
  subst hRR
  have hne : ((e : Int) == 0) = false := by rw [beq_eq_false_iff_ne]; omega
  simp only [linkV]
  clear hl hp
  go_wp2_with fail
  exact bodyPost_ret (v := .tuple #[.int .i64 e, .int .i64 p]) (by simp [results, Tryz.results46, go_sem]) rfl ⟨rfl, hB1⟩
 | ok im =>
  rw [hl] at hRR hp
  simp only [linkV]
  have hp' : ImgAt w1 w.heap.size im ∧ WfI im := hp
  simp only at hRR
  clear hp hl
  go_wp2_with fail
  refine (tables_any w.heap.size im w1 hp'.1 hp'.2).mono ?_
  rintro en w2 ⟨hB2, hq⟩
  cases ht : tabsP im 0 im.bodies with
  | error k =>
   rw [ht] at hRR hq
   simp only at hRR
   subst hRR
   have hq' : en = .returned (.tuple #[.slice none 0 0, .int .i64 k, .bool false]) := hq
   subst hq'
   clear hq ht
   go_wp2_with fail
   exact bodyPost_ret (v := .tuple #[.int .i64 4, .int .i64 k]) (by simp [results, Tryz.results46, go_sem]) rfl ⟨rfl, hB1.trans hB2⟩
  | ok ts =>
   rw [ht] at hRR hq
   simp only at hRR
   subst hRR
   obtain ⟨v, l, hl, rfl, hts⟩ := hq
   clear ht hl
   go_wp2_with fail
   exact bodyPost_ret (v := .tuple #[.int .i64 0, .int .i64 0]) (by simp [results, Tryz.results46, go_sem]) rfl ⟨rfl, hB1.trans hB2⟩
end Go.Proofs.YtpfkkmacakjmbaaGreatDoor
namespace Go.Proofs.YtpfkkmacakjmbaaGreatDoor
open Go Go.RowKit Sp
set_option linter.unusedSimpArgs false
set_option linter.unusedVariables false
attribute [local go_sem ↓] Go.wp_at_zero Go.wp_at_succ
theorem tabsP_mem {im : Img} : ∀ {bs : List Bod} {i : Nat} {ts : List (List St)}, tabsP im i bs = .ok ts → ts.length = bs.length ∧ ∀ t ∈ ts, ∃ b ∈ bs, leastT im b = some t := by
 intro bs
 induction bs with
 | nil => intro i ts h; simp [tabsP] at h; subst h; simp
 | cons b bs ih =>
  intro i ts h
  simp only [tabsP] at h
  split at h
  ·cases h
  ·rename_i t ht
   split at h
   ·cases h
   ·rename_i ts' hts
    injection h with h
    subst h
    have := ih hts
    refine ⟨by simp [this.1], ?_⟩
    intro x hx
    simp only [List.mem_cons] at hx
    rcases hx with rfl | hx
    ·exact ⟨b, by simp, ht⟩
    ·obtain ⟨b', h1, h2⟩ := this.2 x hx
     exact ⟨b', by simp [h1], h2⟩
theorem flat_le {α : Type} {f : α → List UInt8} {m : Nat} : ∀ {t : List α}, (∀ o ∈ t, (f o).length ≤ m) → (t.flatMap f).length ≤ m * t.length := by
 intro t
 induction t with
 | nil => intro _; simp
 | cons x t ih =>
  intro h
  have h1 := h x (by simp)
  have h2 := ih (fun o ho => h o (by simp [ho]))
  simp only [List.flatMap_cons, List.length_append, List.length_cons, Nat.mul_add]
  omega
theorem writtenT_len {t : List St} (h : shortT t) : (writtenT t).length ≤ 20001 := by
 have : (t.flatMap oneW).length ≤ 200 * t.length := by
  apply flat_le
  intro o ho
  obtain ⟨k, hk⟩ := List.mem_iff_getElem?.1 ho
  cases o with
  | none => simp [oneW]
  | some p =>
   obtain ⟨s, l⟩ := p
   have := h.2 k s l hk
   simp [oneW]
   omega
 have h1 := h.1
 simp only [writtenT, List.length_append, List.length_singleton]
 omega
theorem tvCells_at {l : List (Nat × List St)} {j : Nat} {p : Nat × List St} (h : l[j]? = some p) : (tvCells l)[j]? = some (.slice (some ⟨p.1, 0, none⟩) p.2.length p.2.length) := by
 simp [tvCells, h]
set_option maxHeartbeats 1600000 in
set_option maxRecDepth 100000 in
theorem types_doc (s : ByteArray) (w : World) (hmax : s.size ≤ maxLen) :
  Calls Tryz.prog 47 #[.string s] w fun en w' => en = .returned (.tuple #[.string ⟨(typesP s).1.toArray⟩, .int .i64 (typesP s).2]) ∧ But (fun _ => False) w w' := by
 obtain ⟨R, hRR⟩ : ∃ R, typesP s = R := ⟨_, rfl⟩
 rw [hRR]
 unfold typesP at hRR
 go_enter Tryz.func47, Tryz.ntmps47
 go_wp2_with fail
 refine (linked_any s w hmax).mono ?_
 rintro en w1 ⟨rfl, hB1, hp⟩
 cases hl : linkP s with
 | error ep =>
  obtain ⟨e, p⟩ := ep
  rw [hl] at hRR
  have := linkP_err hl
  simp only at hRR
  subst hRR
  have hne : ((e : Int) == 0) = false := by rw [beq_eq_false_iff_ne]; omega
  simp only [linkV]
  clear hl hp
  go_wp2_with fail
  exact bodyPost_ret (v := .tuple #[.string ⟨#[]⟩, .int .i64 e]) (by simp [results, Tryz.results47, go_sem]) rfl ⟨rfl, hB1⟩
 | ok im =>
  rw [hl] at hRR hp
  simp only [linkV]
  have hp' : ImgAt w1 w.heap.size im ∧ WfI im := hp
  simp only at hRR
  clear hp hl
  go_wp2_with fail
  refine (tables_any w.heap.size im w1 hp'.1 hp'.2).mono ?_
  rintro en w2 ⟨hB2, hq⟩
  cases ht : tabsP im 0 im.bodies with
  | error k =>
   rw [ht] at hRR hq
   simp only at hRR
   subst hRR
   have hq' : en = .returned (.tuple #[.slice none 0 0, .int .i64 k, .bool false]) := hq
   subst hq'
   clear hq ht
   go_wp2_with fail
   exact bodyPost_ret (v := .tuple #[.string ⟨#[]⟩, .int .i64 4]) (by simp [results, Tryz.results47, go_sem]) rfl ⟨rfl, hB1.trans hB2⟩
  | ok ts =>
   rw [ht] at hRR hq
   simp only at hRR
   obtain ⟨v, l, hlt, rfl, hts⟩ := hq
   have hm := tabsP_mem ht
   have hsh : ∀ p ∈ l, shortT p.2 := fun p hp => by
    obtain ⟨b, hb1, hb2⟩ := hm.2 p.2 (by rw [← hlt]; exact List.mem_map_of_mem hp)
    have hwb := hp'.2.bod b hb1
    exact (leastT_wf hp'.2 hwb hb2).short hwb.len.2 hwb.loc.1
   have hll : l.length ≤ 7 := by
    have := hm.1
    have := hp'.2.nb
    have : l.length = ts.length := by rw [← hlt]; simp
    omega
   have HRR : Hid (((l.map (·.2)).flatMap writtenT, 0) = R) := by show _ = _; rw [hlt]; exact hRR
   clear hRR ht hm hlt
   obtain ⟨ao, cap, rfl⟩ := owns_len hts.1
   go_wp2_with fail
   go_loopg [10, 11] l.length (fun mm ss ks wr => ∃ (k : Nat) (s : List UInt8), ss = .string ⟨s.toArray⟩ ∧ s.length ≤ 20001 * k ∧ ks = .int .i64 k ∧ k ≤ l.length ∧ k + mm ≤ l.length ∧ l.length ≤ k + mm ∧ But (fun _ => False) w2 wr ∧ Hid (((l.take k).map (·.2)).flatMap writtenT = s))
   case atStart => exact ⟨0, [], rfl, by simp, rfl, by omega, by omega, by omega, But.refl _ _, rfl⟩
   case round =>
    obtain ⟨k, s, rfl, hsl, rfl, hk1, hk2, hk3, hBr, HA⟩ := hrel
    clear hk2
    by_cases hlt : k < l.length
    ·have hkn : (k : Int) < (l.length : Int) := by omega
     have hgl := List.getElem?_eq_getElem hlt
     obtain ⟨p, hpp⟩ : ∃ p, l[k] = p := ⟨_, rfl⟩
     have hmem : l[k] ∈ l := List.getElem_mem hlt
     rw [hpp] at hgl hmem
     obtain ⟨gp, tp⟩ := p
     obtain ⟨g, hao, hg1, hg2, hcell⟩ := owns_two (owns_but hts.1 hBr (fun _ _ h => h)) (by omega)
     subst hao
     have q0 := hcell _ _ (tvCells_at hgl)
     have hTp := (hts.2 _ hmem).1.but hBr (fun h => h)
     have hsp := hsh _ hmem
     have hwl := writtenT_len hsp
     have HT : Hid (((l.take (k + 1)).map (·.2)).flatMap writtenT = s ++ writtenT tp) := by
      show _ = _
      rw [List.take_add_one, hgl, List.map_append, List.flatMap_append, HA.out]
      simp
     clear hcell hgl hpp HA
     go_wp2_with fail
     refine (written_any gp tp wr hTp hsp).mono ?_
     rintro en w3 ⟨rfl, hB3⟩
     revert HT hwl
     generalize writtenT tp = wt
     intro hwl HT
     have n1 : ¬ 9223372036854775807 < s.length + wt.length := by omega
     clear q0
     go_wp2_with fail
     go_roundg (l.length - (k + 1))
     case measure => omega
     case rel => exact ⟨k + 1, s ++ wt, congrArg Value.string (bytes_append _ _), by simp; omega, by simp, by omega, by omega, by omega, hBr.trans hB3, HT.out⟩
    ·have hkn : ¬ (k : Int) < (l.length : Int) := by omega
     have hres : (s, 0) = R := by rw [← HRR.out, ← HA.out, List.take_of_length_le (by omega)]
     clear HA HRR
     subst hres
     go_wp2_with fail
     exact bodyPost_ret (v := .tuple #[.string ⟨s.toArray⟩, .int .i64 0]) (by simp [results, Tryz.results47, go_sem]) rfl ⟨rfl, (hB1.trans hB2).trans hBr⟩
end Go.Proofs.YtpfkkmacakjmbaaGreatDoor
