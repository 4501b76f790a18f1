import Derived.Test.YtpfkkmacakjmbaaGreatDoorP24
import Derived.Test.YtpfkkmacakjmbaaGreatDoorP22
import Derived.Test.YtpfkkmacakjmbaaGreatDoorP01
import Derived.Test.YtpfkkmacakjmbaaGreatDoorP02
set_option maxRecDepth 100000
set_option maxHeartbeats 6400000
namespace Go.Proofs.YtpfkkmacakjmbaaGreatDoor
open Go Go.RowKit Sp
set_option linter.unusedSimpArgs false
set_option linter.unusedVariables false
def treeB (s : ByteArray) (cs : List Cls) (ns nl i : Nat) (bad : Bool) : Except Nat (List Ins × Nat) := if bad = true then .error i else treeP s cs ns nl i
theorem tree_fin {s : ByteArray} {cs : List Cls} {ns nl i : Nat} {bad : Bool} {j : Nat} {bad' : Bool} {Q : List Ins → Prop} (h : (bad' = false ∧ ∃ is, nodesB s cs ns nl i bad = .ok (is, j) ∧ Q is) ∨ (bad' = true ∧ nodesB s cs ns nl i bad = .error j)) :
  ((tkP s 46 j bad').2 = false ∧ ∃ is, treeB s cs ns nl i bad = .ok (is, (tkP s 46 j bad').1) ∧ Q is) ∨ ((tkP s 46 j bad').2 = true ∧ treeB s cs ns nl i bad = .error (tkP s 46 j bad').1) := by
 unfold nodesB at h
 unfold treeB
 cases bad with
 | true =>
  simp only [if_true] at h ⊢
  rcases h with ⟨_, is, h, _⟩ | ⟨rfl, h⟩
  ·cases h
  ·cases h
   rw [tkP_no (Or.inl rfl)]
   exact Or.inr ⟨rfl, rfl⟩
 | false =>
  simp only [Bool.false_eq_true, if_false] at h ⊢
  unfold treeP
  rcases h with ⟨rfl, is, h, hq⟩ | ⟨rfl, h⟩
  ·rw [h]
   simp only
   by_cases hp : pk s j = 46
   ·rw [tkP_ok hp, if_pos (by rw [hp]; rfl)]
    exact Or.inl ⟨rfl, is, rfl, hq⟩
   ·rw [tkP_no (Or.inr hp), if_neg (fun h => hp ((u8n (by decide)).1 h))]
    exact Or.inr ⟨rfl, rfl⟩
  ·rw [h, tkP_no (Or.inl rfl)]
   exact Or.inr ⟨rfl, rfl⟩
structure BdN (w : World) (base : Nat) (gs : List Sig) (X : XBod) (b : Bod) : Prop where
 cls : X.cls = (toXB gs b).cls
 meth : X.meth = (toXB gs b).meth
 ans : X.ans = (toXB gs b).ans
 loc : X.locals = b.locals
 its : ItsN w base X.items b.code
def BdsN (w : World) (base : Nat) (gs : List Sig) (bs : List XBod) (BS : List Bod) : Prop := bs.length = BS.length ∧ ∀ (k : Nat) X b, bs[k]? = some X → BS[k]? = some b → BdN w base gs X b
theorem BdsN.nil (w : World) (base : Nat) (gs : List Sig) : BdsN w base gs [] [] := ⟨rfl, fun k X b h => by simp at h⟩
theorem BdsN.snoc {w : World} {base : Nat} {gs : List Sig} {bs : List XBod} {BS : List Bod} {X : XBod} {b : Bod} (h : BdsN w base gs bs BS) (hx : BdN w base gs X b) : BdsN w base gs (bs ++ [X]) (BS ++ [b]) := by
 refine ⟨by simp [h.1], fun k Y c hY hc => ?_⟩
 rcases Nat.lt_or_ge k bs.length with hk | hk
 ·rw [List.getElem?_append_left hk] at hY
  rw [List.getElem?_append_left (by rw [← h.1]; exact hk)] at hc
  exact h.2 k Y c hY hc
 ·rw [List.getElem?_append_right hk] at hY
  rw [List.getElem?_append_right (by rw [← h.1]; exact hk), ← h.1] at hc
  cases hd : k - bs.length with
  | zero => rw [hd] at hY hc; simp at hY hc; subst hY hc; exact hx
  | succ d => rw [hd] at hY; simp at hY
theorem BdsN.heads {w : World} {base : Nat} {gs : List Sig} {bs : List XBod} {BS : List Bod} (h : BdsN w base gs bs BS) : bs.map hdOf = (BS.map (toXB gs)).map hdOf := by
 apply List.ext_getElem?
 intro k
 simp only [List.getElem?_map]
 rcases Nat.lt_or_ge k bs.length with hk | hk
 ·have hk2 : k < BS.length := by rw [← h.1]; exact hk
  have h1 := h.2 k _ _ (List.getElem?_eq_getElem hk) (List.getElem?_eq_getElem hk2)
  rw [List.getElem?_eq_getElem hk, List.getElem?_eq_getElem hk2]
  simp [hdOf, h1.cls, h1.meth]
 ·rw [List.getElem?_eq_none hk, List.getElem?_eq_none (by rw [← h.1]; exact hk)]
  rfl
theorem BdsN.but {F : Nat → Prop} {w w' : World} {base : Nat} {gs : List Sig} {bs : List XBod} {BS : List Bod} (h : BdsN w base gs bs BS) (hb : But F w w') (hf : ∀ g cur, w.heap[g]? = some (.cells cur 3) → base ≤ g → ¬ F g) : BdsN w' base gs bs BS :=
 ⟨h.1, fun k X b hX hB => by
  have h1 := h.2 k X b hX hB
  exact ⟨h1.cls, h1.meth, h1.ans, h1.loc, h1.its.len, fun q y x hy hx => by
   obtain ⟨e1, e2, e3, e4, e5⟩ := h1.its.at' q y x hy hx
   exact ⟨e1, e2, e3, e4, owns_off e5 hb hf⟩⟩⟩
theorem BdsN.mono {w : World} {base base' : Nat} {gs : List Sig} {bs : List XBod} {BS : List Bod} (h : BdsN w base gs bs BS) (hb : base' ≤ base) : BdsN w base' gs bs BS :=
 ⟨h.1, fun k X b hX hB => by
  have h1 := h.2 k X b hX hB
  exact ⟨h1.cls, h1.meth, h1.ans, h1.loc, h1.its.mono hb⟩⟩
def BodN (Gd : Prop) (s : ByteArray) (cs : List Cls) (gs : List Sig) (R : Except Nat (List Bod × Nat)) (w : World) (base mm : Nat) (bs : List XBod) (j : Nat) (bad : Bool) : Prop :=
 (bad = false ∧ Gd ∧ ∃ BS, BdsN w base gs bs BS ∧ (∀ b ∈ BS, SideB b) ∧ BS.length + mm = 6 ∧ bodS s cs gs mm BS j = R) ∨ (bad = true ∧ R = .error j)
section
variable {Gd : Prop} {s : ByteArray} {cs : List Cls} {gs : List Sig} {R : Except Nat (List Bod × Nat)} {w : World} {base : Nat}
theorem bodS_step {k : Nat} {BS : List Bod} {i : Nat} (h : (pk s i).toNat ≠ 59) : bodS s cs gs (k + 1) BS i = match headP s cs.length gs BS i with
  | .error j => .error j
  | .ok ((x, m, t), p) =>
   match treeP s cs gs.length (t.length + 2) p with
   | .error q => .error q
   | .ok (is, q) => bodS s cs gs k (BS ++ [⟨x, m, UInt8.ofNat (65 + x) :: argOf gs m :: t, is⟩]) q := by
 unfold headP
 rw [bodS, if_neg h]
 cases letP s cs.length i with
 | error j => rfl
 | ok y =>
  obtain ⟨x, j⟩ := y
  simp only
  cases digP s gs.length j with
  | error l => rfl
  | ok z =>
   obtain ⟨m, l⟩ := z
   simp only
   split
   ·rfl
   ·cases tys s cs.length 58 3 [] l with
    | error p => rfl
    | ok t =>
     obtain ⟨t, p⟩ := t
     simp only
     cases treeP s cs gs.length (t.length + 2) p <;> rfl
theorem BodN.but {F : Nat → Prop} {w' : World} {mm : Nat} {bs : List XBod} {j : Nat} {bad : Bool} (h : BodN Gd s cs gs R w base mm bs j bad) (hb : But F w w') (hf : ∀ g cur, w.heap[g]? = some (.cells cur 3) → base ≤ g → ¬ F g) : BodN Gd s cs gs R w' base mm bs j bad := by
 rcases h with ⟨h1, h2, BS, h3, h4⟩ | h
 ·exact Or.inl ⟨h1, h2, BS, h3.but hb hf, h4⟩
 ·exact Or.inr h
theorem BodN.fin {mm : Nat} {bs : List XBod} {j : Nat} {bad : Bool} (h : BodN Gd s cs gs R w base mm bs j bad) (hx : ¬ bs.length < 6 ∨ (!bad && !decide (pk s j = 59)) = false) :
  ((tkP s 59 j bad).2 = false ∧ Gd ∧ ∃ BS, R = .ok (BS, (tkP s 59 j bad).1) ∧ BdsN w base gs bs BS ∧ ∀ b ∈ BS, SideB b) ∨ ((tkP s 59 j bad).2 = true ∧ R = .error (tkP s 59 j bad).1) := by
 rcases h with ⟨rfl, hG, BS, h1, h2, h3, h4⟩ | ⟨rfl, h2⟩
 ·by_cases hp : pk s j = 59
  ·left
   rw [tkP_ok hp]
   refine ⟨rfl, hG, BS, ?_, h1, h2⟩
   rw [← h4]
   cases mm <;> simp [bodS, hp]
  ·right
   rw [tkP_no (Or.inr hp)]
   refine ⟨rfl, ?_⟩
   have hm : mm = 0 := by
    rcases hx with h | h
    ·rw [h1.1] at h; omega
    ·simp [hp] at h
   subst hm
   rw [← h4]
   have : (pk s j).toNat ≠ 59 := fun h => hp ((u8n (by decide)).1 h)
   simp [bodS, this]
 ·right
  rw [tkP_no (Or.inl rfl)]
  exact ⟨rfl, h2⟩
theorem BodN.next {mm : Nat} {bs : List XBod} {j : Nat} (h : BodN Gd s cs gs R w base mm bs j false) (hnc : cs.length ≤ 4) (hl : bs.length < 6) (hp : pk s j ≠ 59) :
  Gd ∧ ∃ BS, BdsN w base gs bs BS ∧ (∀ b ∈ BS, SideB b) ∧ BS.length ≤ 6 ∧ ∀ c m r l j1 bad1, ((bad1 = false ∧ ∃ x t, headP s cs.length gs BS j = .ok ((x, m, t), j1) ∧ c = UInt8.ofNat (65 + x) ∧ x < cs.length ∧ m < gs.length ∧ r = (methX gs m).ret ∧ l = c :: (methX gs m).arg :: t) ∨ (bad1 = true ∧ headP s cs.length gs BS j = .error j1)) →
   ∀ its w' j2 bad2, BdsN w' base gs bs BS → ((bad2 = false ∧ ∃ is, treeB s cs gs.length l.length j1 bad1 = .ok (is, j2) ∧ ItsN w' base its is) ∨ (bad2 = true ∧ treeB s cs gs.length l.length j1 bad1 = .error j2)) →
   ∃ m', m' < mm ∧ BodN Gd s cs gs R w' base m' (bs ++ [⟨c, m, r, l, its⟩]) j2 bad2 := by
 rcases h with ⟨_, hG, BS, h1, h2, h3, h4⟩ | ⟨h, _⟩
 ·have hlb : BS.length < 6 := by rw [h1.1] at hl; exact hl
  refine ⟨hG, BS, h1, h2, by omega, ?_⟩
  intro c m r l j1 bad1 hh its w' j2 bad2 hw' hc
  obtain ⟨f, rfl⟩ : ∃ f, mm = f + 1 := ⟨mm - 1, by omega⟩
  have hne : (pk s j).toNat ≠ 59 := fun h => hp ((u8n (by decide)).1 h)
  rw [bodS_step hne] at h4
  rcases hh with ⟨rfl, x, t, e1, e2, e3, e4, e5, e6⟩ | ⟨rfl, e1⟩
  ·rw [e1] at h4
   simp only at h4
   unfold treeB at hc
   simp only [Bool.false_eq_true, if_false] at hc
   rw [show l.length = t.length + 2 from by rw [e6]; rfl] at hc
   rcases hc with ⟨rfl, is, c1, c2⟩ | ⟨rfl, c1⟩
   ·rw [c1] at h4
    have hx0 : ¬ ((x : Int) < 0) := by omega
    refine ⟨f, by omega, Or.inl ⟨rfl, hG, BS ++ [⟨x, m, UInt8.ofNat (65 + x) :: argOf gs m :: t, is⟩], hw'.snoc ⟨?_, ?_, ?_, ?_, c2⟩, ?_, by simp; omega, h4⟩⟩
    ·simp [toXB, hx0, e2]
    ·simp [toXB]
    ·simp [toXB, hx0, e5]
    ·simp [e6, e2, methX_arg e4]
    ·intro b hb
     rcases List.mem_append.1 hb with hb | hb
     ·exact h2 b hb
     ·simp at hb
      subst hb
      exact ⟨by simp, by simp; omega, by simp⟩
   ·rw [c1] at h4
    exact ⟨0, by omega, Or.inr ⟨rfl, h4.symm⟩⟩
  ·rw [e1] at h4
   simp only at h4
   unfold treeB at hc
   simp only [if_true] at hc
   rcases hc with ⟨_, is, c1, _⟩ | ⟨rfl, c1⟩
   ·cases c1
   ·cases c1
    exact ⟨0, by omega, Or.inr ⟨rfl, h4.symm⟩⟩
 ·cases h
end
structure TextN (w : World) (b : Nat) (im : Img) : Prop where
 cls : TxC w b (im.classes.map toX)
 met : TxM w b im.sigs
 bod : ∃ bs, TxB w b bs ∧ BdsN w 0 im.sigs bs im.bodies
theorem readN_fin {s : ByteArray} {SC : List Cls} {n : Nat} {ms : List Sig} {cs : List XCls} {bs : List XBod} {l : List UInt8} {its : List XIt} {w : World} {base : Nat} {j0 j1 j2 j3 j4 : Nat} {b0 b1 b2 b3 b4 : Bool} {R : Except Nat (List Bod × Nat)}
  (hcls : (b0 = false ∧ ∃ SC', clsP s 4 [] 0 = .ok (SC', j0) ∧ SC' = SC ∧ cs = SC.map toX ∧ WfC SC) ∨ (b0 = true ∧ clsP s 4 [] 0 = .error j0)) (hn : SC.length = n)
  (hsig : (b1 = false ∧ sigB s n j0 b0 = .ok (ms, j1)) ∨ (b1 = true ∧ sigB s n j0 b0 = .error j1))
  (hR : (if b1 = true then .error j1 else bodS s SC ms 6 [] j1) = R)
  (hbod : (b2 = false ∧ (b1 = false) ∧ ∃ BS, R = .ok (BS, j2) ∧ BdsN w base ms bs BS ∧ ∀ b ∈ BS, SideB b) ∨ (b2 = true ∧ R = .error j2))
  (hmain : (b3 = false ∧ tysB s n 58 3 j2 b2 = .ok (l, j3)) ∨ (b3 = true ∧ tysB s n 58 3 j2 b2 = .error j3))
  (hcode : (b4 = false ∧ ∃ is, treeB s SC ms.length l.length j3 b3 = .ok (is, j4) ∧ ItsN w base its is) ∨ (b4 = true ∧ treeB s SC ms.length l.length j3 b3 = .error j4)) :
  ((b4 || decide (j4 < s.size)) = true ∧ readS s = .error j4) ∨ ((b4 || decide (j4 < s.size)) = false ∧ ∃ im, readS s = .ok im ∧ im.classes = SC ∧ cs = SC.map toX ∧ im.sigs = ms ∧ BdsN w base ms (bs ++ [⟨45, 0, 105, l, its⟩]) im.bodies) := by
 unfold readS
 rcases hcls with ⟨rfl, SC', hc, rfl, hcs, hwf⟩ | ⟨rfl, hc⟩
 ·rw [hc]
  simp only
  unfold sigB at hsig
  simp only [Bool.false_eq_true, if_false] at hsig
  rw [hn]
  rcases hsig with ⟨rfl, hsg⟩ | ⟨rfl, hsg⟩
  ·rw [hsg]
   simp only
   simp only [Bool.false_eq_true, if_false] at hR
   rw [hR]
   rcases hbod with ⟨rfl, _, BS, hb, hbs, _⟩ | ⟨rfl, hb⟩
   ·rw [hb]
    simp only
    unfold tysB at hmain
    simp only [Bool.false_eq_true, if_false] at hmain
    rcases hmain with ⟨rfl, hm⟩ | ⟨rfl, hm⟩
    ·rw [hm]
     simp only
     unfold treeB at hcode
     simp only [Bool.false_eq_true, if_false] at hcode
     rcases hcode with ⟨rfl, is, hcd, hX⟩ | ⟨rfl, hcd⟩
     ·rw [hcd]
      simp only
      by_cases hlt : j4 < s.size
      ·left
       rw [if_pos hlt]
       exact ⟨by simp [hlt], rfl⟩
      ·right
       rw [if_neg hlt]
       refine ⟨by simp [hlt], _, rfl, rfl, hcs, rfl, ?_⟩
       exact hbs.snoc ⟨by simp [toXB], by simp [toXB], by simp [toXB], rfl, hX⟩
     ·rw [hcd]
      exact Or.inl ⟨rfl, rfl⟩
    ·rw [hm]
     unfold treeB at hcode
     simp only [if_true] at hcode
     rcases hcode with ⟨_, is, hcd, _⟩ | ⟨rfl, hcd⟩
     ·cases hcd
     ·cases hcd
      exact Or.inl ⟨rfl, rfl⟩
   ·rw [hb]
    unfold tysB at hmain
    simp only [if_true] at hmain
    rcases hmain with ⟨_, hm⟩ | ⟨rfl, hm⟩
    ·cases hm
    ·cases hm
     unfold treeB at hcode
     simp only [if_true] at hcode
     rcases hcode with ⟨_, is, hcd, _⟩ | ⟨rfl, hcd⟩
     ·cases hcd
     ·cases hcd
      exact Or.inl ⟨rfl, rfl⟩
  ·rw [hsg]
   simp only [if_true] at hR
   subst hR
   rcases hbod with ⟨_, h, _⟩ | ⟨rfl, hb⟩
   ·cases h
   ·cases hb
    unfold tysB at hmain
    simp only [if_true] at hmain
    rcases hmain with ⟨_, hm⟩ | ⟨rfl, hm⟩
    ·cases hm
    ·cases hm
     unfold treeB at hcode
     simp only [if_true] at hcode
     rcases hcode with ⟨_, is, hcd, _⟩ | ⟨rfl, hcd⟩
     ·cases hcd
     ·cases hcd
      exact Or.inl ⟨rfl, rfl⟩
 ·rw [hc]
  unfold sigB at hsig
  simp only [if_true] at hsig
  rcases hsig with ⟨_, h⟩ | ⟨rfl, hsg⟩
  ·cases h
  ·cases hsg
   simp only [if_true] at hR
   subst hR
   rcases hbod with ⟨_, h, _⟩ | ⟨rfl, hb⟩
   ·cases h
   ·cases hb
    unfold tysB at hmain
    simp only [if_true] at hmain
    rcases hmain with ⟨_, hm⟩ | ⟨rfl, hm⟩
    ·cases hm
    ·cases hm
     unfold treeB at hcode
     simp only [if_true] at hcode
     rcases hcode with ⟨_, is, hcd, _⟩ | ⟨rfl, hcd⟩
     ·cases hcd
     ·cases hcd
      exact Or.inl ⟨rfl, rfl⟩
end Go.Proofs.YtpfkkmacakjmbaaGreatDoor
namespace Go.Proofs.YtpfkkmacakjmbaaGreatDoor
open Go Go.RowKit Sp
set_option linter.unusedSimpArgs false
set_option linter.unusedVariables false
attribute [local go_sem ↓] Go.wp_at_zero Go.wp_at_succ
def ReadN (s : ByteArray) (SC : List Cls) (ms : List Sig) (cs : List XCls) (w : World) (base : Nat) (bs : List XBod) (j : Nat) (bad : Bool) : Prop :=
 ((bad || decide (j < s.size)) = true ∧ readS s = .error j) ∨ ((bad || decide (j < s.size)) = false ∧ ∃ im, readS s = .ok im ∧ im.classes = SC ∧ cs = SC.map toX ∧ im.sigs = ms ∧ BdsN w base ms bs im.bodies)
theorem xreadN_any (s : ByteArray) (w : World) (hs : s.size ≤ 2000) :
  Calls Tryz.prog 90 #[.string s] w fun en w' => But (fun _ => False) w w' ∧ ∃ g p, en = .returned (.tuple #[.pointer (some ⟨g, 0, none⟩), .int .i64 p]) ∧ w.heap.size ≤ g ∧
   ((∃ j, readS s = .error j ∧ p = (j : Int) ∧ w'.heap[g]? = some (.cells #[.slice none 0 0, .slice none 0 0, .slice none 0 0] 109)) ∨ (p = -1 ∧ ∃ im, readS s = .ok im ∧ TextN w' g im)) := by
 go_enter Tryz.func90, Tryz.ntmps90
 go_wp2_with fail
 refine (xnew_any s w).mono ?_
 rintro en w0 ⟨rfl, hB0, hz0, hR0⟩
 have hbb : w.heap.size < w.heap.size + 1 := by omega
 go_wp2_with fail
 refine (xreadClasses_any w.heap.size (w.heap.size + 1) s _ _ w0 hs hR0 hbb (by omega)).mono ?_
 rintro en w1 ⟨rfl, hB1, v0, cs, j0, b0, hR1, hC1, hcl, hT1⟩
 obtain ⟨a0, cap0, hv0⟩ := hC1.len
 subst hv0
 have hz1 := hB1.size
 have hBF1 : But (fun k => k = w.heap.size ∨ w.heap.size + 1 ≤ k) w w1 := (hB0.mono (fun _ _ h => h.elim)).trans hB1
 clear hB0 hB1 hR0
 go_wp2_with fail
 refine (xreadMethods_any w.heap.size (w.heap.size + 1) s j0 b0 a0 cs.length cap0 _ w1 hs hcl hR1 hbb (by omega)).mono ?_
 rintro en w2 ⟨rfl, hB2, v1, ms, j1, b1, hR2, hM2, hml, hT2⟩
 obtain ⟨a1, cap1, hv1⟩ := owns_len hM2
 subst hv1
 have hC2 := hC1.but hB2 (fun g e cur _ _ hg h => by omega)
 have hz2 := hB2.size
 have hBF2 : But (fun k => k = w.heap.size ∨ w.heap.size + 1 ≤ k) w w2 := hBF1.next hB2 (fun _ _ h => Or.inl h)
 clear hB2 hR1 hC1 hBF1
 -- the classes, if there are any
 obtain ⟨SC, hSn, hcls⟩ : ∃ SC : List Cls, SC.length = cs.length ∧ ((b0 = false ∧ ∃ SC', clsP s 4 [] 0 = .ok (SC', j0) ∧ SC' = SC ∧ cs = SC.map toX ∧ WfC SC) ∨ (b0 = true ∧ clsP s 4 [] 0 = .error j0)) := by
  rcases hT1 with ⟨h1, SC, h2, h3, h4⟩ | h
  ·exact ⟨SC, by rw [h3, List.length_map], Or.inl ⟨h1, SC, h2, rfl, h3, h4⟩⟩
  ·exact ⟨List.replicate cs.length ⟨-1, []⟩, by simp, Or.inr h⟩
 have hgood : b1 = false → cs = SC.map toX ∧ WfC SC := by
  intro h
  rcases hT2 with ⟨_, h2⟩ | ⟨h2, _⟩
  ·rcases hcls with ⟨_, _, _, _, h3⟩ | ⟨h3, _⟩
   ·exact h3
   ·rw [h3] at h2; simp [sigB] at h2
  ·rw [h] at h2; cases h2
 obtain ⟨R, hRR⟩ : ∃ R, (if b1 = true then .error j1 else bodS s SC ms 6 [] j1) = R := ⟨_, rfl⟩
 have hstart : BodN (b1 = false) s SC ms R w2 (w.heap.size + 1) 6 [] j1 b1 := by
  cases b1 with
  | true => exact Or.inr ⟨rfl, hRR.symm⟩
  | false => exact Or.inl ⟨rfl, rfl, [], BdsN.nil _ _ _, by simp, rfl, hRR⟩
 have HST := hid hstart
 have HGD := hid hgood
 have HFIN := hid (fun wz bs l X j2 j3 j4 b2 b3 b4 => readN_fin (its := X) (w := wz) (base := w.heap.size + 1) (bs := bs) (l := l) (j2 := j2) (j3 := j3) (j4 := j4) (b2 := b2) (b3 := b3) (b4 := b4) hcls hSn hT2 hRR)
 have HSN := hid hSn
 rw [← hSn] at hR2 hC2 hcl
 clear hstart hgood hT1 hT2 hcls hRR hSn
 go_wp2_with fail
 go_loopg [] 7 (fun mm wr => ∃ (a2 : Option Addr) (cap2 j : Nat) (bad' mn : Bool) (bs : List XBod) (x0 x1 x2 x3 x4 : Value), w.heap.size + 1 ≤ wr.heap.size ∧ But (fun k => k = w.heap.size ∨ w.heap.size + 1 ≤ k) w wr ∧ XrB wr w.heap.size s j bad' (.slice a0 SC.length cap0) (.slice a1 ms.length cap1) ⟨.slice a2 bs.length cap2, x0, x1, x2, x3, x4, mn⟩ ∧ TcV wr (w.heap.size + 1) (.slice a0 SC.length cap0) cs ∧ TmV wr (w.heap.size + 1) (.slice a1 ms.length cap1) ms ∧ TbV wr (w.heap.size + 1) (.slice a2 bs.length cap2) bs ∧ Hid ((mn = false ∧ bs.length ≤ 6 ∧ ∃ m1, mm = m1 + 1 ∧ BodN (b1 = false) s SC ms R wr (w.heap.size + 1) m1 bs j bad') ∨ (mn = true ∧ ReadN s SC ms cs wr (w.heap.size + 1) bs j bad')))
 case atStart => exact ⟨none, 0, j1, b1, false, [], _, _, _, _, _, by omega, hBF2, hR2, hC2, hM2, ⟨[], owns_nil _ _ _ _, rfl, by simp⟩, hid (Or.inl ⟨rfl, by simp, 6, rfl, HST.out⟩)⟩
 case round =>
  obtain ⟨a2, cap2, j, bad', mn, bs, x0, x1, x2, x3, x4, hzr, hBr, hRr, hCr, hMr, hTr, HBC⟩ := hrel
  by_cases hstop : mn = true ∨ bad' = true
  ·have hfin : ReadN s SC ms cs wr (w.heap.size + 1) bs j bad' := by
    rcases HBC.out with ⟨h1, _, m1, _, hb⟩ | ⟨_, h⟩
    ·have hbt : bad' = true := by
      rcases hstop with h | h
      ·rw [h1] at h; cases h
      ·exact h
     subst hbt
     rcases hb with ⟨h, _⟩ | ⟨_, h⟩
     ·cases h
     ·have := HFIN.out wr bs [] [] j j j true true true (Or.inr ⟨rfl, h⟩) (Or.inr ⟨rfl, by simp [tysB]⟩) (Or.inr ⟨rfl, by simp [treeB]⟩)
      rcases this with ⟨_, h⟩ | ⟨h, _⟩
      ·exact Or.inl ⟨by simp, h⟩
      ·simp at h
    ·exact h
   have HF := hid hfin
   have HNB := hid (xnextBody_stop w.heap.size s j bad' _ _ _ wr hRr hstop)
   clear hfin HBC HFIN HST HGD
   go_wp2_with fail
   refine HNB.out.mono ?_
   rintro en w3 ⟨rfl, k, rfl⟩
   clear HNB hstop
   go_wp2_with fail
   refine (xresult_any w.heap.size s j bad' _ _ _ (wr.drewN k) (hRr.drewN k)).mono ?_
   rintro en w4 ⟨hB4, hcs⟩
   have hBF4 : But (fun _ => False) w w4 := ((hBr.next (But.drewN (fun _ => False) wr k) (fun _ _ h => h.elim)).next hB4 (fun _ _ h => h.elim)).mono (fun k hk h => by omega)
   have hz4 : w.heap.size ≤ (wr.drewN k).heap.size := by show w.heap.size ≤ wr.heap.size; omega
   have hBk : But (fun _ => False) wr w4 := (But.drewN _ _ _).trans hB4
   unfold ResQ at hcs
   rcases hcs with ⟨hb, g, hg, rfl, hgg⟩ | ⟨hb, rfl⟩
   ·have HRD : Hid (readS s = .error j) := by
     rcases HF.out with ⟨_, h⟩ | ⟨h, _⟩
     ·exact hid h
     ·rw [hb] at h; cases h
    clear HF
    go_wp2_with fail
    exact bodyPost_ret (v := .tuple #[.pointer (some ⟨g, 0, none⟩), .int .i64 j]) (by simp [results, Tryz.results90, go_sem]) rfl ⟨hBF4, g, j, rfl, by omega, Or.inl ⟨j, HRD.out, rfl, hgg⟩⟩
   ·have hbl8 := hRr.lt
    have HRD : Hid (∃ im, readS s = .ok im ∧ TextN w4 w.heap.size im) := by
     rcases HF.out with ⟨h, _⟩ | ⟨_, im, hrd, him1, him2, him3, him4⟩
     ·rw [hb] at h; cases h
     ·have hC4 := hCr.but hBk (fun _ _ _ _ _ _ h => h)
      have hM4 := hMr.but hBk (fun _ _ _ _ _ _ h => h)
      have hT4 := hTr.but hBk (fun _ _ _ _ _ _ h => h)
      have hR4 := hRr.but hBk (fun h => h)
      refine hid ⟨im, hrd, ?_, ?_, ?_⟩
      ·rw [him1, ← him2]; exact hC4.tx hR4.c0 hR4.lt
      ·rw [him3]; exact hM4.tx hR4.c1 hR4.lt
      ·exact ⟨bs, hT4.tx hR4.c2 hR4.lt, (him3.symm ▸ him4.but hBk (fun _ _ _ _ h => h)).mono (Nat.zero_le _)⟩
    clear HF
    go_wp2_with fail
    exact bodyPost_ret (v := .tuple #[.pointer (some ⟨w.heap.size, 0, none⟩), .int .i64 (-1)]) (by simp [results, Tryz.results90, go_sem]) rfl ⟨hBF4, w.heap.size, -1, rfl, Nat.le_refl _, Or.inr ⟨rfl, HRD.out⟩⟩
  ·have hmn : mn = false := by cases mn; rfl; exact absurd (Or.inl rfl) hstop
   have hbf : bad' = false := by cases bad'; rfl; exact absurd (Or.inr rfl) hstop
   subst hmn hbf
   obtain ⟨_, hbl, m1, hmm, hB1⟩ := HBC.out.resolve_right (fun h => by cases h.1)
   have HB1 := hid hB1
   clear hB1
   clear hstop HBC HST
   by_cases hgo : bs.length < 6 ∧ pk s j ≠ 59
   ·obtain ⟨hl6, hne⟩ := hgo
    obtain ⟨hG, BS, hBS, hsd, hB6, hnx⟩ := HB1.out.next hcl hl6 hne
    obtain ⟨hcsx, hwf⟩ := HGD.out hG
    have HNX := hid hnx
    have HCX := hid hcsx
    have HWF := hid hwf
    have HNB := hid (xnextBody_head w.heap.size (w.heap.size + 1) s j a0 a2 SC.length cap0 bs.length cap2 _ x0 x1 x2 x3 x4 wr ms BS bs hBS.heads hcl hml hB6 (fun b hb => Or.inr (hsd b hb)) hs hRr hMr hTr hbb hl6 hne)
    have HBS := hid hBS
    clear hne hnx hBS hsd hcsx hwf HB1
    go_wp2_with fail
    refine HNB.out.mono ?_
    rintro en w4 ⟨hB4, rfl, HQ4⟩
    obtain ⟨c, m, r, al, capl, lo, j4, bad4, hR4, hL4, hl4, hT4⟩ := HQ4
    clear HNB
    have hC4 := hCr.but hB4 (fun g e cur _ _ hg h => by omega)
    have hM4 := hMr.but hB4 (fun g e cur _ _ hg h => by omega)
    have hTb4 := hTr.but hB4 (fun g e cur _ _ hg h => by omega)
    have hBF4 : But (fun k => k = w.heap.size ∨ w.heap.size + 1 ≤ k) w w4 := hBr.next hB4 (fun _ _ h => Or.inl h)
    have hz4 := hB4.size
    have hL4' : BtB w4 (w.heap.size + 1) (.slice al lo.length capl) lo := World.ownsRow.mono hL4 (by omega)
    have HN4 := hid (HNX.out c m r lo j4 bad4 hT4)
    clear hT4 HNX
    have HIN := hid (xnodes_any w.heap.size (w.heap.size + 1) s j4 bad4 SC a0 a1 al ms.length lo.length cap0 cap1 capl _ w4 (Or.inr ⟨HWF.out, by rw [← HCX.out]; exact hC4⟩) hcl hml (by omega) hs hR4 rfl hbb)
    go_wp2_with fail
    refine HIN.out.mono ?_
    rintro en w5 ⟨hB5, HQ5⟩
    obtain ⟨ai, capi, items, j5, bad5, rfl, hR5, hI5, hil, hc5⟩ := HQ5
    have HF5 := hid (tree_fin hc5)
    have hC5 := hC4.but hB5 (fun g e cur _ _ hg h => by omega)
    have hM5 := hM4.but hB5 (fun g e cur _ _ hg h => by omega)
    have hTb5 := hTb4.but hB5 (fun g e cur _ _ hg h => by omega)
    have hL5 := hL4'.but hB5 (fun g hg h => by have := owns_ge hL4' g hg; omega)
    have hz5 := hB5.size
    clear hc5 HIN
    have HEN := hid (xendBody_any w.heap.size (w.heap.size + 1) w4.heap.size s j5 bad5 false _ _ _ a2 cap2 bs ⟨c, m, r, lo, items⟩ al ai capl capi w5 (by omega) (by show items.length ≤ 100; omega) hs hR5 hTb5 hL5 hI5 hbb (by omega) (by omega))
    go_wp2_with fail
    refine HEN.out.mono ?_
    rintro en w6 ⟨rfl, hB6', a6, cap6, vi6, hR6, hTb6⟩
    clear HEN
    have hItw := (fun (is : List Ins) (h : ItsN w5 w4.heap.size items is) => (⟨h.len, fun k y x hy hx => by
      obtain ⟨z1, z2, z3, z4, z5⟩ := h.at' k y x hy hx
      exact ⟨z1, z2, z3, z4, owns_off (World.ownsRow.mono z5 (by omega)) hB6' (fun g cur hh hg h => by
       rcases h with h | h
       ·omega
       ·exact hTb5.apart hh (by decide) h)⟩⟩ : ItsN w6 (w.heap.size + 1) items is))
    have hBS5 := (HBS.out.but hB4 (fun g cur _ hg h => by omega)).but hB5 (fun g cur _ hg h => by omega)
    obtain ⟨m', hm', hC'⟩ := HN4.out items w6 (tkP s 46 j5 bad5).1 (tkP s 46 j5 bad5).2 (hBS5.but hB6' (fun g cur hh hg h => by
     rcases h with h | h
     ·omega
     ·exact hTb5.apart hh (by decide) h)) (by
     rcases HF5.out with ⟨h1, is, h2, h3⟩ | h
     ·exact Or.inl ⟨h1, is, h2, hItw is h3⟩
     ·exact Or.inr h)
    have HC' := hid hC'
    have hge := hTb5.ge
    have hC6 := hC5.but hB6' (fun g e cur hh he hg h => by
     rcases h with h | h
     ·omega
     ·exact hTb5.apart hh (by rcases he with he | he <;> (rw [he]; decide)) h)
    have hM6 := hM5.but hB6' (fun g e cur hh he hg h => by
     rcases h with h | h
     ·omega
     ·exact hTb5.apart hh (by rw [he]; decide) h)
    have hBF6 : But (fun k => k = w.heap.size ∨ w.heap.size + 1 ≤ k) w w6 := (hBF4.next hB5 (fun _ _ h => Or.inl h)).next hB6' (fun k hk h => by
     rcases h with h | h
     ·exact Or.inl h
     ·exact Or.inr (hge k h))
    have hz6 := hB6'.size
    clear hC' HN4 HF5
    go_wp2_with fail
    go_roundg (m' + 1)
    case measure => omega
    case rel => exact ⟨a6, cap6, _, _, false, bs ++ [⟨c, m, r, lo, items⟩], _, _, _, _, _, by omega, hBF6, hR6, hC6, hM6, hTb6, hid (Or.inl ⟨rfl, by simp; omega, m', rfl, HC'.out⟩)⟩
   ·have hexit : ¬ bs.length < 6 ∨ pk s j = 59 := by
     by_cases h6 : bs.length < 6
     ·right
      by_cases hp : pk s j = 59
      ·exact hp
      ·exact absurd ⟨h6, hp⟩ hgo
     ·exact Or.inl h6
    have HBF := hid (HB1.out.fin (hexit.imp id (fun h => by simp [h])))
    have HNB := hid (xnextBody_main w.heap.size s j a0 a2 SC.length cap0 bs.length cap2 _ x0 x1 x2 x3 x4 wr hcl hs hRr hexit)
    clear hexit hgo HB1
    obtain ⟨TK, hTK⟩ : ∃ TK, tkP s 59 j false = TK := ⟨_, rfl⟩
    rw [hTK] at HBF HNB
    obtain ⟨j2, b2⟩ := TK
    dsimp only at HBF HNB
    have HF2 := hid (fun wz l X j3 j4 b3 b4 hbz => HFIN.out wz bs l X j2 j3 j4 b2 b3 b4 hbz)
    have HG2 : Hid (b2 = true ∨ b1 = false) := by
     rcases HBF.out with ⟨_, h, _⟩ | ⟨h, _⟩
     ·exact hid (Or.inr h)
     ·exact hid (Or.inl h)
    clear hTK HFIN
    go_wp2_with fail
    refine HNB.out.mono ?_
    rintro en w4 ⟨hB4, rfl, HQ4⟩
    obtain ⟨al, capl, lo, j4, bad4, hR4, hL4, hl4, hT4⟩ := HQ4
    clear HNB
    have hC4 := hCr.but hB4 (fun g e cur _ _ hg h => by omega)
    have hM4 := hMr.but hB4 (fun g e cur _ _ hg h => by omega)
    have hTb4 := hTr.but hB4 (fun g e cur _ _ hg h => by omega)
    have hBF4 : But (fun k => k = w.heap.size ∨ w.heap.size + 1 ≤ k) w w4 := hBr.next hB4 (fun _ _ h => Or.inl h)
    have hz4 := hB4.size
    have hL4' : BtB w4 (w.heap.size + 1) (.slice al lo.length capl) lo := World.ownsRow.mono hL4 (by omega)
    have hT4' := hT4
    rw [HSN.out] at hT4'
    have HF3 := hid (fun wz X j5 b5 hbz => HF2.out wz lo X j4 j5 bad4 b5 hbz hT4')
    have hG3 : bad4 = true ∨ (WfC SC ∧ TcV w4 (w.heap.size + 1) (.slice a0 SC.length cap0) (SC.map toX)) := by
     rcases HG2.out with h | h
     ·left
      rcases hT4 with ⟨_, h2⟩ | ⟨h2, _⟩
      ·rw [h] at h2; simp [tysB] at h2
      ·exact h2
     ·obtain ⟨h1, h2⟩ := HGD.out h
      exact Or.inr ⟨h2, by rw [← h1]; exact hC4⟩
    have HIN := hid (xnodes_any w.heap.size (w.heap.size + 1) s j4 bad4 SC a0 a1 al ms.length lo.length cap0 cap1 capl _ w4 hG3 hcl hml (by omega) hs hR4 rfl hbb)
    clear hT4 hT4' HF2 HG2 hG3
    go_wp2_with fail
    refine HIN.out.mono ?_
    rintro en w5 ⟨hB5, HQ5⟩
    obtain ⟨ai, capi, items, j5, bad5, rfl, hR5, hI5, hil, hc5⟩ := HQ5
    have HF5 := hid (tree_fin hc5)
    have hC5 := hC4.but hB5 (fun g e cur _ _ hg h => by omega)
    have hM5 := hM4.but hB5 (fun g e cur _ _ hg h => by omega)
    have hTb5 := hTb4.but hB5 (fun g e cur _ _ hg h => by omega)
    have hL5 := hL4'.but hB5 (fun g hg h => by have := owns_ge hL4' g hg; omega)
    have hz5 := hB5.size
    clear hc5 HIN
    have HEN := hid (xendBody_any w.heap.size (w.heap.size + 1) w4.heap.size s j5 bad5 true _ _ _ a2 cap2 bs ⟨45, 0, 105, lo, items⟩ al ai capl capi w5 (by omega) (by show items.length ≤ 100; omega) hs hR5 hTb5 hL5 hI5 hbb (by omega) (by omega))
    go_wp2_with fail
    refine HEN.out.mono ?_
    rintro en w6 ⟨rfl, hB6', a6, cap6, vi6, hR6, hTb6⟩
    clear HEN
    have HF6 : Hid (ReadN s SC ms cs w6 (w.heap.size + 1) (bs ++ [⟨45, 0, 105, lo, items⟩]) (tkP s 46 j5 bad5).1 (tkP s 46 j5 bad5).2) := by
     have hItw := (fun (is : List Ins) (h : ItsN w5 w4.heap.size items is) => (⟨h.len, fun k y x hy hx => by
      obtain ⟨z1, z2, z3, z4, z5⟩ := h.at' k y x hy hx
      exact ⟨z1, z2, z3, z4, owns_off (World.ownsRow.mono z5 (by omega)) hB6' (fun g cur hh hg h => by
       rcases h with h | h
       ·omega
       ·exact hTb5.apart hh (by decide) h)⟩⟩ : ItsN w6 (w.heap.size + 1) items is))
     refine hid (HF3.out w6 items _ _ ?_ ?_)
     ·rcases HBF.out with ⟨h1, h2, BS, h3, h4, h5⟩ | h
      ·refine Or.inl ⟨h1, h2, BS, h3, ?_, h5⟩
       exact ((h4.but hB4 (fun g cur _ hg h => by omega)).but hB5 (fun g cur _ hg h => by omega)).but hB6' (fun g cur hh hg h => by
     rcases h with h | h
     ·omega
     ·exact hTb5.apart hh (by decide) h)
      ·exact Or.inr h
     ·rcases HF5.out with ⟨h1, is, h2, h3⟩ | h
      ·exact Or.inl ⟨h1, is, h2, hItw is h3⟩
      ·exact Or.inr h
    have hge := hTb5.ge
    have hC6 := hC5.but hB6' (fun g e cur hh he hg h => by
     rcases h with h | h
     ·omega
     ·exact hTb5.apart hh (by rcases he with he | he <;> (rw [he]; decide)) h)
    have hM6 := hM5.but hB6' (fun g e cur hh he hg h => by
     rcases h with h | h
     ·omega
     ·exact hTb5.apart hh (by rw [he]; decide) h)
    have hBF6 : But (fun k => k = w.heap.size ∨ w.heap.size + 1 ≤ k) w w6 := (hBF4.next hB5 (fun _ _ h => Or.inl h)).next hB6' (fun k hk h => by
     rcases h with h | h
     ·exact Or.inl h
     ·exact Or.inr (hge k h))
    have hz6 := hB6'.size
    clear HF3 HF5
    go_wp2_with fail
    go_roundg 0
    case measure => omega
    case rel => exact ⟨a6, cap6, _, _, true, bs ++ [⟨45, 0, 105, lo, items⟩], _, _, _, _, _, by omega, hBF6, hR6, hC6, hM6, hTb6, hid (Or.inr ⟨rfl, HF6.out⟩)⟩
end Go.Proofs.YtpfkkmacakjmbaaGreatDoor
namespace Go.Proofs.YtpfkkmacakjmbaaGreatDoor
open Go Go.RowKit Sp
set_option linter.unusedSimpArgs false
set_option linter.unusedVariables false
theorem find_same : ∀ {its : List XIt} {is : List Ins} {p : XIt → Bool} {q : Ins → Bool}, its.length = is.length → (∀ (k : Nat) x y, its[k]? = some x → is[k]? = some y → p x = q y ∧ x.place = y.pos) → (its.find? p).map (·.place) = (is.find? q).map (·.pos) := by
 intro its
 induction its with
 | nil => intro is p q hl _; cases is with | nil => rfl | cons y is => simp at hl
 | cons x its ih =>
  intro is p q hl h
  cases is with
  | nil => simp at hl
  | cons y is =>
   obtain ⟨h1, h2⟩ := h 0 x y rfl rfl
   rw [List.find?_cons, List.find?_cons, h1]
   cases q y with
   | true => simp [h2]
   | false => exact ih (by simpa using hl) (fun k a b ha hb => h (k + 1) a b (by simpa using ha) (by simpa using hb))
theorem findSome_same {α β γ : Type} : ∀ {bs : List α} {BS : List β} {f : α → Option γ} {g : β → Option γ}, bs.length = BS.length → (∀ (k : Nat) x y, bs[k]? = some x → BS[k]? = some y → f x = g y) → bs.findSome? f = BS.findSome? g := by
 intro bs
 induction bs with
 | nil => intro BS f g hl _; cases BS with | nil => rfl | cons y BS => simp at hl
 | cons x bs ih =>
  intro BS f g hl h
  cases BS with
  | nil => simp at hl
  | cons y BS =>
   rw [List.findSome?_cons, List.findSome?_cons, h 0 x y rfl rfl, ih (by simpa using hl) (fun k a b ha hb => h (k + 1) a b (by simpa using ha) (by simpa using hb))]
theorem bodyF_heads {cs : List XCls} {xs ys : List XBod} (h : xs.map hdOf = ys.map hdOf) (m : Nat) : ∀ (f : Nat) (c : UInt8), bodyF cs xs m f c = bodyF cs ys m f c := by
 intro f
 induction f with
 | zero => intro c; rfl
 | succ f ih =>
  intro c
  simp only [bodyF, heads_len h, ownF_heads h, ih]
theorem SideOfN {cs : List Cls} {gs : List Sig} {b : Bod} (h : WfBS cs gs b) (hn : cs.length ≤ 4) : (b.cls = -1) ∨ SideB b := by
 rcases h.cls with ⟨h1, _⟩ | ⟨h1, h2, h3, h4⟩
 ·exact Or.inl h1
 ·exact Or.inr ⟨h1, by omega, h3⟩
theorem toXN_place (y : Ins) : (toXN y).place = y.pos := by unfold toXN; split <;> rfl
theorem brokN {cs : List Cls} {gs : List Sig} {BS : List Bod} {bs : List XBod} {y : Ins} {x : XIt} {nl n n' : Nat} (hw : WfC cs) (hn : cs.length ≤ 4) (hB : ∀ b ∈ BS, (b.cls = -1) ∨ SideB b) (hy : WfN cs gs.length nl y) (hh : bs.map hdOf = (BS.map (toXB gs)).map hdOf)
  (h1 : x.op = (toXN y).op) (h2 : x.cls = (toXN y).cls) (h3 : x.num = (toXN y).num) : brokX (cs.map toX) bs n x = broken cs BS n' y := by
 have hop := hy.op
 have hne : ∀ v : Nat, nodeLetters.contains v = false → y.op.toNat ≠ v := fun v hv h => by rw [h, hv] at hop; cases hop
 have e106 := hne 106 (by decide)
 have e102 := hne 102 (by decide)
 unfold brokX broken
 rw [h1, h2, h3]
 by_cases hd : isDigit y.op = true
 ·have hr := digit_range hd
  have e1 : toXN y = ⟨y.pos, 107, 45, y.b, none, 0, 0⟩ := by unfold toXN; rw [if_pos hd]
  rw [e1]
  have h99 : ¬ y.op.toNat = 99 := by omega
  simp [e106, e102, h99]
 ·have e1 : toXN y = toXI y := by unfold toXN; rw [if_neg hd]
  rw [e1]
  have e2 : (toXI y).op = y.op := rfl
  have e3 : (toXI y).num = y.b := rfl
  rw [e2, e3, if_neg (by omega)]
  by_cases h9 : y.op.toNat = 99
  ·rw [if_pos h9]
   have ha := hy.cls (by omega)
   have e4 : (toXI y).cls = UInt8.ofNat (65 + y.a) := by
    unfold toXI
    rw [if_pos (by omega)]
   rw [e4, List.length_map, bodyF_heads hh, bodyF_findF hw hn hB y.b cs.length 5 y.a ha ha (by omega)]
   simp [h9]
  ·rw [if_neg h9]
   simp [h9, e106, e102]
theorem xlinkN_any (b : Nat) (im : Img) (w : World) (hW : WfIS im) (hT : TextN w b im) :
  Calls Tryz.prog 104 #[.pointer (some ⟨b, 0, none⟩)] w fun e w' => e = .returned (.int .i64 (placeI (im.bodies.findSome? (fun b => unl im.classes im.bodies b.code)))) ∧ But (fun _ => False) w w' := by
 obtain ⟨bs, hTb, hBd⟩ := hT.bod
 have hsame : (bs.findSome? fun x => unlX (im.classes.map toX) bs x.items) = im.bodies.findSome? (fun b => unl im.classes im.bodies b.code) := by
  refine findSome_same hBd.1 (fun k X B hX hB => ?_)
  have h1 := hBd.2 k X B hX hB
  have hwb := hW.bod B (List.mem_of_getElem? hB)
  unfold unlX unl
  refine find_same h1.its.len (fun q x y hx hy => ?_)
  obtain ⟨e1, e2, e3, e4, _⟩ := h1.its.at' q y x hy hx
  exact ⟨brokN hW.cls hW.nc (fun b hb => SideOfN (hW.bod b hb) hW.nc) (hwb.code y (List.mem_of_getElem? hy)) hBd.heads e2 e3 e4, by rw [e1, toXN_place]⟩
 rw [← hsame]
 refine xbrokenLink_any b (im.classes.map toX) bs w (by rw [List.length_map]; have := hW.nc; omega) (by rw [hBd.1]; have := hW.nb; omega) ?_ hT.cls hTb
 intro x hx
 obtain ⟨k, hk, rfl⟩ := List.getElem_of_mem hx
 have hk2 : k < im.bodies.length := by rw [← hBd.1]; exact hk
 have h1 := hBd.2 k _ _ (List.getElem?_eq_getElem hk) (List.getElem?_eq_getElem hk2)
 have := (hW.bod _ (List.getElem_mem hk2)).len
 rw [h1.its.len]
 omega
end Go.Proofs.YtpfkkmacakjmbaaGreatDoor
