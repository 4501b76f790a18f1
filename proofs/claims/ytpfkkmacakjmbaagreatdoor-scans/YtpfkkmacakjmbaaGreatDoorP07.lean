import Derived.Test.YtpfkkmacakjmbaaGreatDoorP06
import Derived.Test.YtpfkkmacakjmbaaGreatDoorP02
set_option maxRecDepth 100000
set_option maxHeartbeats 6400000
namespace Go.Proofs.YtpfkkmacakjmbaaGreatDoor
open Go Go.RowKit Sp
set_option linter.unusedSimpArgs false
set_option linter.unusedVariables false
theorem any_take_succ (l : List UInt8) (k : Nat) (p : UInt8 → Bool) (h : k < l.length) : (l.take (k + 1)).any p = ((l.take k).any p || p l[k]) := by
 rw [List.take_succ_eq_append_getElem h, List.any_append]; simp
theorem bget (s : ByteArray) (k : Nat) (h : k < s.size) (h' : k < s.data.toList.length) : s.data.toList[k] = s[k] := Array.getElem_toList (xs := s.data) (i := k) h
theorem blen (s : ByteArray) : s.data.toList.length = s.size := Array.length_toList
theorem among_any (s : ByteArray) (c : Nat) (w : World) (hs : s.size ≤ 2000) :
  Calls Tryz.prog 186 #[.int .u8 c, .string s] w fun en w' => en = .returned (.bool (s.data.toList.any fun x => x.toNat == c)) ∧ w' = w := by
 obtain ⟨bb, hbb⟩ : ∃ bb, (s.data.toList.any fun x => x.toNat == c) = bb := ⟨_, rfl⟩
 rw [hbb]
 have HB : Hid ((s.data.toList.any fun x => x.toNat == c) = bb) := hbb
 clear hbb
 go_enter Tryz.func186, Tryz.ntmps186
 go_wp2
 go_loop [5] (fun t => ∃ k : Nat, k ≤ s.size ∧ t = .int .i64 k ∧ Hid ((s.data.toList.take k).any (fun x => x.toNat == c) = false)) (fun t => s.size - (intOf t).toNat)
 case atStart => exact ⟨0, Nat.zero_le _, rfl, by show _ = _; simp⟩
 case round =>
  obtain ⟨k, hk, rfl, HA⟩ := hrel
  by_cases hlt : k < s.size
  ·by_cases he : s[k].toNat = c
   ·have hb : ((s[k].toNat : Int) == (c : Int)) = true := by rw [beq_iff_eq]; omega
    have hfin : bb = true := by
     rw [← HB.out, List.any_eq_true]
     exact ⟨s[k], by rw [← bget s k hlt (by rw [blen]; exact hlt)]; exact List.getElem_mem _, by simp [he]⟩
    subst hfin
    clear he
    go_wp2
    go_ret
    exact ⟨rfl, rfl⟩
   ·have hb : ((s[k].toNat : Int) == (c : Int)) = false := by rw [beq_eq_false_iff_ne]; omega
    have HN : Hid ((s.data.toList.take (k + 1)).any (fun x => x.toNat == c) = false) := by
     show _ = _
     rw [any_take_succ _ _ _ (by rw [blen]; exact hlt), HA.out, bget s k hlt]; simp [he]
    clear he
    go_wp2
    go_round
    case rel => exact ⟨k + 1, by omega, by go_num, HN⟩
    case measure => simp [intOf]; omega
  ·have hfin : bb = false := by
    have := HA.out
    rw [List.take_of_length_le (by rw [blen]; omega)] at this
    rw [← HB.out, this]
   subst hfin
   go_wp2
   go_ret
   exact ⟨rfl, rfl⟩
theorem Heads.but {F : Nat → Prop} {w w' : World} {base top bi : Nat} {cs : List Cls} {gs : List Sig} {v2 : Value} (h : Heads w base top bi cs gs v2) (hb : But F w w') (hbi : ¬ F bi) (hF : ∀ k, F k → k < base ∨ top ≤ k) : Heads w' base top bi cs gs v2 := by
 obtain ⟨h1, h2, h3, v0, v1, hI, hO, hO', ht⟩ := h
 exact ⟨h1, h2, h3, v0, v1, hI.but hb hbi, owns_but hO hb (fun g hg h => by have := owns_ge hO g hg; have := hF g h; have := ht g (Or.inl hg); omega), owns_but hO' hb (fun g hg h => by have := owns_ge hO' g hg; have := hF g h; have := ht g (Or.inr hg); omega), ht⟩
section
variable (b : Nat) (s : ByteArray) (i : Nat) (src : Bool) (bi : Nat) (vt : Value) (w : World)
end
theorem ownI_some {bs : List Bod} {x m : Int} {k : Nat} (hk : k < bs.length) (h : bs[k].cls = x ∧ bs[k].meth = m) (hno : ∀ j (hj : j < bs.length), j < k → ¬ (bs[j].cls = x ∧ bs[j].meth = m)) : ownI bs x m = k := by
 have : ownB bs x m = some k := by
  unfold ownB
  rw [List.findIdx?_eq_some_iff_getElem]
  refine ⟨hk, by simp [h.1, h.2], fun j hj => ?_⟩
  have := hno j (by omega) hj
  simpa using this
 simp [ownI, this]
theorem ownI_none {bs : List Bod} {x m : Int} (hno : ∀ j (hj : j < bs.length), ¬ (bs[j].cls = x ∧ bs[j].meth = m)) : ownI bs x m = -1 := by
 have : ownB bs x m = none := by
  unfold ownB
  rw [List.findIdx?_eq_none_iff]
  intro b hb
  obtain ⟨j, hj, rfl⟩ := List.getElem_of_mem hb
  simpa using hno j hj
 simp [ownI, this]
theorem own_any (base bi : Nat) (v0 v1 v2 : Value) (l : List (Bod × Value × Value)) (x m : Int) (w : World) (hl : l.length ≤ 100) (hI : ImB w bi v0 v1 v2) (hO : w.ownsRow base 52 5 v2 l.length (bodCells l)) :
  Calls Tryz.prog 132 #[.pointer (some ⟨bi, 0, none⟩), .int .i64 x, .int .i64 m] w fun en w' => en = .returned (.int .i64 (ownI (l.map (·.1)) x m)) ∧ w' = w := by
 obtain ⟨R, hRR⟩ : ∃ R, ownI (l.map (·.1)) x m = R := ⟨_, rfl⟩
 rw [hRR]
 have HRR : Hid (ownI (l.map (·.1)) x m = R) := hRR
 clear hRR
 obtain ⟨ao, cap, rfl⟩ := owns_len hO
 have d2 := hI.c2
 go_enter Tryz.func132, Tryz.ntmps132
 go_wp2
 go_loop [7] (fun t => ∃ k : Nat, k ≤ l.length ∧ t = .int .i64 k ∧ Hid (∀ j (hj : j < l.length), j < k → ¬ (l[j].1.cls = x ∧ l[j].1.meth = m))) (fun t => l.length - (intOf t).toNat)
 case atStart => exact ⟨0, Nat.zero_le _, rfl, fun j hj h => absurd h (by omega)⟩
 case round =>
  obtain ⟨k, hk, rfl, HA⟩ := hrel
  by_cases hlt : k < l.length
  ·have hgl := List.getElem?_eq_getElem hlt
   obtain ⟨g, rfl, hg1, hg2, hcell⟩ := owns_two hO (by omega)
   have hc0 := hcell _ _ (bodCells_at0 hgl)
   have hc1 := hcell _ _ (bodCells_at1 hgl)
   clear hcell
   have hlt' : (k : Int) < (l.length : Int) := by omega
   clear hgl
   by_cases h1 : l[k].1.cls = x
   ·by_cases h2 : l[k].1.meth = m
    ·have hres : R = k := by
      rw [← HRR.out]
      refine ownI_some (by simpa using hlt) (by simp [h1, h2]) (fun j hj hjk => ?_)
      have := HA.out j (by simpa using hj) hjk
      simpa using this
     subst hres
     have b1 : (l[k].1.cls == x) = true := by simpa using h1
     have b2 : (l[k].1.meth == m) = true := by simpa using h2
     clear h1 h2
     go_wp2
     go_ret
     exact ⟨rfl, rfl⟩
    ·have b1 : (l[k].1.cls == x) = true := by simpa using h1
     have b2 : (l[k].1.meth == m) = false := by simpa using h2
     have HN : Hid (∀ j (hj : j < l.length), j < k + 1 → ¬ (l[j].1.cls = x ∧ l[j].1.meth = m)) := by
      intro j hj hjk
      rcases Nat.lt_or_ge j k with h | h
      ·exact HA.out j hj h
      ·have : j = k := by omega
       subst this
       exact fun h => h2 h.2
     clear h1 h2
     go_wp2
     go_round
     case rel => exact ⟨k + 1, by omega, by go_num, HN⟩
     case measure => simp [intOf]; omega
   ·have b1 : (l[k].1.cls == x) = false := by simpa using h1
    have HN : Hid (∀ j (hj : j < l.length), j < k + 1 → ¬ (l[j].1.cls = x ∧ l[j].1.meth = m)) := by
     intro j hj hjk
     rcases Nat.lt_or_ge j k with h | h
     ·exact HA.out j hj h
     ·have : j = k := by omega
      subst this
      exact fun h => h1 h.1
    clear h1
    go_wp2
    go_round
    case rel => exact ⟨k + 1, by omega, by go_num, HN⟩
    case measure => simp [intOf]; omega
  ·have hres : R = -1 := by
    rw [← HRR.out]
    refine ownI_none (fun j hj => ?_)
    have := HA.out j (by simpa using hj) (by simp at hj; omega)
    simpa using this
   subst hres
   go_wp2
   go_ret
   exact ⟨rfl, rfl⟩
end Go.Proofs.YtpfkkmacakjmbaaGreatDoor
namespace Go.Proofs.YtpfkkmacakjmbaaGreatDoor
open Go Go.RowKit Sp
set_option linter.unusedSimpArgs false
set_option linter.unusedVariables false
attribute [local go_sem ↓] Go.wp_at_zero Go.wp_at_succ
theorem info_bod : (Tryz.prog.info? 52).map (fun i => (i.zero, i.size, i.bytes)) = some (some (.agg #[.int .i64 0, .int .i64 0, .string ⟨#[]⟩, .slice none 0 0, .slice none 0 0]), 5, 80) := by kernel_rfl
structure Bods (w : World) (top : Nat) (v2 : Value) (l : List (Bod × Value × Value)) : Prop where
 own : w.ownsRow top 52 5 v2 l.length (bodCells l)
 code : ∀ x ∈ l, w.ownsRow top 144 4 x.2.1 x.1.code.length (insCells x.1.code) ∧ x.2.2 = .slice none 0 0 ∧ (∀ g, x.2.1.ownBlock = some g → v2.ownBlock ≠ some g)
theorem Bods.but {F : Nat → Prop} {w w' : World} {top : Nat} {v2 : Value} {l : List (Bod × Value × Value)} (h : Bods w top v2 l) (hb : But F w w') (hF : ∀ k, F k → k < top) : Bods w' top v2 l :=
 ⟨owns_but h.own hb (fun g hg hf => by have := owns_ge h.own g hg; have := hF g hf; omega), fun x hx => ⟨owns_but (h.code x hx).1 hb (fun g hg hf => by have := owns_ge (h.code x hx).1 g hg; have := hF g hf; omega), (h.code x hx).2⟩⟩
section
variable (b : Nat) (s : ByteArray) (i : Nat) (bi : Nat) (vc vt : Value) (w : World)
end
end Go.Proofs.YtpfkkmacakjmbaaGreatDoor
namespace Go.Proofs.YtpfkkmacakjmbaaGreatDoor
open Go Go.RowKit Sp
set_option linter.unusedSimpArgs false
set_option linter.unusedVariables false
theorem conv2i (a d : Int) (c e : UInt8) (ha : a = c.toNat) (hd : d = e.toNat) (w : World) : (convert 112 9 (.slice (some ⟨w.heap.size, 0, none⟩) 2 2)).run Tryz.prog (w.alloc (.cells #[.int .u8 a, .int .u8 d] 5)) = .ok (.string ⟨#[c, e]⟩) (w.alloc (.cells #[.int .u8 a, .int .u8 d] 5)) := by
 subst ha hd
 exact conv2 c e w
theorem digP_ok {s : ByteArray} {n i d j : Nat} (h : digP s n i = .ok (d, j)) : j = i + 1 ∧ d < n ∧ i < s.size := by
 unfold digP at h
 split at h
 ·rename_i hd
  cases h
  have h1 := isDig_iff.1 hd
  exact ⟨rfl, by omega, pk_lt (by omega)⟩
 ·cases h
theorem ownI_isSome (bs : List Bod) (x m : Int) : (ownB bs x m).isSome = decide (0 ≤ ownI bs x m) := by
 unfold ownI
 cases ownB bs x m with
 | none => rfl
 | some k => simp
section
variable (b : Nat) (s : ByteArray) (i : Nat) (bi : Nat) (vc vt : Value) (w : World)
end
theorem owns_down {w : World} {base base' e size n : Nat} {v : Value} {xs : List Value} (h : w.ownsRow base e size v n xs) (hb : base' ≤ base) : w.ownsRow base' e size v n xs := by
 refine ⟨h.1, ?_⟩
 rcases h.2 with h2 | ⟨g, cap, cur, h1, h2, h3⟩
 ·exact Or.inl h2
 ·exact Or.inr ⟨g, cap, cur, h1, by omega, h3⟩
def ImgAt (w : World) (bi : Nat) (im : Img) : Prop :=
 ∃ v0 v1 v2 l, ImB w bi v0 v1 v2 ∧ w.ownsRow 0 203 2 v0 im.classes.length (clsCells im.classes) ∧ w.ownsRow 0 129 2 v1 im.sigs.length (sigCells im.sigs) ∧
  w.ownsRow 0 52 5 v2 l.length (bodCells l) ∧ l.map (·.1) = im.bodies ∧
  ∀ x ∈ l, w.ownsRow 0 144 4 x.2.1 x.1.code.length (insCells x.1.code) ∧ x.2.2 = .slice none 0 0
theorem ImgAt.but {w w' : World} {bi : Nat} {im : Img} (h : ImgAt w bi im) (hb : But (fun _ => False) w w') : ImgAt w' bi im := by
 obtain ⟨v0, v1, v2, l, hI, h0, h1, h2, hl, hc⟩ := h
 exact ⟨v0, v1, v2, l, hI.but hb (fun h => h), owns_but h0 hb (fun _ _ h => h), owns_but h1 hb (fun _ _ h => h), owns_but h2 hb (fun _ _ h => h), hl, fun x hx => ⟨owns_but (hc x hx).1 hb (fun _ _ h => h), (hc x hx).2⟩⟩
def readI (R : Except Nat Img) : Int := match R with
 | .ok _ => -1
 | .error j => j
section
variable (s : ByteArray) (w : World)
end
def ImgH (w : World) (bi : Nat) (im : Img) : Prop :=
 ∃ v0 v1 v2 l, ImB w bi v0 v1 v2 ∧ w.ownsRow 0 203 2 v0 im.classes.length (clsCells im.classes) ∧ w.ownsRow 0 129 2 v1 im.sigs.length (sigCells im.sigs) ∧
  w.ownsRow 0 52 5 v2 l.length (bodCells l) ∧ l.map (·.1) = im.bodies
theorem ImgAt.hds {w : World} {bi : Nat} {im : Img} (h : ImgAt w bi im) : ImgH w bi im := by
 obtain ⟨v0, v1, v2, l, hI, h0, h1, h2, hl, _⟩ := h
 exact ⟨v0, v1, v2, l, hI, h0, h1, h2, hl⟩
theorem find_any (bi : Nat) (im : Img) (x m : Int) (w : World) (hI : ImgH w bi im) (hw : WfC im.classes) (hn : im.classes.length ≤ 4) (hbl : im.bodies.length ≤ 7) (hx0 : -1 ≤ x) (hx : x < im.classes.length) :
  Calls Tryz.prog 81 #[.pointer (some ⟨bi, 0, none⟩), .int .i64 x, .int .i64 m] w fun en w' => en = .returned (.int .i64 (findF im.classes im.bodies m 5 x)) ∧ w' = w := by
 obtain ⟨R, hRR⟩ : ∃ R, findF im.classes im.bodies m 5 x = R := ⟨_, rfl⟩
 rw [hRR]
 have HRR : Hid (findF im.classes im.bodies m 5 x = R) := hRR
 clear hRR
 obtain ⟨v0, v1, v2, l, hIm, hC, hS, hB, hl⟩ := hI
 obtain ⟨cs, gs, bs⟩ := im
 simp only at *
 subst hl
 have hll : l.length ≤ 100 := by simp at hbl; omega
 obtain ⟨a0, cap0, rfl⟩ := owns_len hC
 have d0 := hIm.c0
 go_enter Tryz.func81, Tryz.ntmps81
 go_wp2_with fail
 go_loopg [1, 7] 5 (fun mm xs ks wr => ∃ (xv : Int) (kn : Nat), xs = .int .i64 xv ∧ ks = .int .i64 kn ∧ kn ≤ 5 ∧ 5 ≤ kn + mm ∧ kn + mm ≤ 5 ∧ wr = w ∧ -1 ≤ xv ∧ xv < cs.length ∧ Hid (findF cs (l.map (·.1)) m mm xv = R))
 case atStart => exact ⟨x, 0, rfl, rfl, by omega, by omega, by omega, rfl, hx0, hx, HRR⟩
 case round =>
  obtain ⟨xv, kn, rfl, rfl, hk5, hkm1, hkm2, hwr, hx0', hx', HF⟩ := hrel
  subst hwr
  by_cases hxn : 0 ≤ xv
  ·cases gk with
   | zero =>
    have hres : R = -1 := by rw [← HF.out]; rfl
    subst hres
    have hk4 : ¬ (kn : Int) ≤ 4 := by omega
    go_wp2_with fail
    go_ret
    exact ⟨rfl, rfl⟩
   | succ f =>
    have hk4 : (kn : Int) ≤ 4 := by omega
    go_wp2_with fail
    refine (own_any 0 bi _ _ _ l xv m _ hll hIm hB).mono ?_
    rintro en wx ⟨rfl, hwx⟩
    rw [hwx]
    clear hwx wx
    have hstep : R = if 0 ≤ ownI (l.map (·.1)) xv m then ownI (l.map (·.1)) xv m else findF cs (l.map (·.1)) m f (parOf cs xv) := by
     rw [← HF.out, findF, if_neg (by omega)]
    have HST : Hid (R = if 0 ≤ ownI (l.map (·.1)) xv m then ownI (l.map (·.1)) xv m else findF cs (l.map (·.1)) m f (parOf cs xv)) := hstep
    clear hstep
    obtain ⟨oi, hoi⟩ : ∃ oi, ownI (l.map (·.1)) xv m = oi := ⟨_, rfl⟩
    rw [hoi] at HST ⊢
    clear hoi
    by_cases ho : 0 ≤ oi
    ·have hres : R = oi := by rw [HST.out, if_pos ho]
     subst hres
     go_wp2_with fail
     go_ret
     exact ⟨rfl, rfl⟩
    ·have HN : Hid (findF cs (l.map (·.1)) m f (parOf cs xv) = R) := by show _ = _; rw [HST.out, if_neg ho]
     obtain ⟨n, hnx⟩ := Int.eq_ofNat_of_zero_le hxn
     have hnl : n < cs.length := by omega
     have hgl := List.getElem?_eq_getElem hnl
     obtain ⟨g, rfl, hg1, hg2, hcell⟩ := owns_two hC (by omega)
     have hc0 := hcell _ _ (clsCells_at0 hgl)
     have hpr := parOf_range hw hx' hxn
     have hpo : parOf cs xv = cs[n].par := by unfold parOf; rw [hnx, Int.toNat_natCast, hgl]; rfl
     rw [hpo] at HN hpr
     have hc0' : wr.cell? ⟨g, xv.toNat * 2, none⟩ = some (.int .i64 cs[n].par) := by rw [hnx, Int.toNat_natCast]; exact hc0
     obtain ⟨pp, hpp⟩ : ∃ pp, cs[n].par = pp := ⟨_, rfl⟩
     rw [hpp] at HN hpr hc0'
     clear hcell hc0 hgl hpo hpp hnx
     go_wp2_with fail
     go_roundg f
     case measure => omega
     case rel => exact ⟨pp, kn + 1, rfl, by simp, by omega, by omega, by omega, rfl, hpr.1, hpr.2, HN⟩
  ·have hres : R = -1 := by
    rw [← HF.out]
    cases gk with
    | zero => rfl
    | succ f => rw [findF, if_pos (by omega)]
   subst hres
   by_cases hk4 : (kn : Int) ≤ 4
   ·go_wp2_with fail
    go_ret
    exact ⟨rfl, rfl⟩
   ·go_wp2_with fail
    go_ret
    exact ⟨rfl, rfl⟩
def optI (o : Option Nat) : Int := match o with
 | some p => p
 | none => -1
theorem unl_at {cs : List Cls} {bs : List Bod} {c : List Ins} {k : Nat} (hk : k < c.length) (h : broken cs bs c.length c[k] = true) (hno : ∀ j (hj : j < c.length), j < k → broken cs bs c.length c[j] = false) : unl cs bs c = some c[k].pos := by
 unfold unl
 have : c.find? (broken cs bs c.length) = some c[k] := by
  rw [List.find?_eq_some_iff_getElem]
  exact ⟨h, k, hk, rfl, fun j hj => by rw [hno j (by omega) hj]; rfl⟩
 rw [this]
 rfl
theorem unl_none {cs : List Cls} {bs : List Bod} {c : List Ins} (hno : ∀ j (hj : j < c.length), broken cs bs c.length c[j] = false) : unl cs bs c = none := by
 unfold unl
 have : c.find? (broken cs bs c.length) = none := by
  rw [List.find?_eq_none]
  intro x hx
  obtain ⟨j, hj, rfl⟩ := List.getElem_of_mem hx
  rw [hno j hj]; decide
 rw [this]
 rfl
def linkV (R : Except (Nat × Nat) Img) (bi : Nat) : Value := match R with
 | .error (e, p) => .tuple #[.pointer none, .int .i64 e, .int .i64 p]
 | .ok _ => .tuple #[.pointer (some ⟨bi, 0, none⟩), .int .i64 0, .int .i64 0]
theorem findSome_at {α : Type} {f : α → Option Nat} : ∀ {l : List α} {k : Nat} {p : Nat} (hk : k < l.length), f l[k] = some p → (∀ j (hj : j < l.length), j < k → f l[j] = none) → l.findSome? f = some p := by
 intro l
 induction l with
 | nil => intro k p hk; simp at hk
 | cons x l ih =>
  intro k p hk h hno
  cases k with
  | zero => simp at h; simp [List.findSome?_cons, h]
  | succ k =>
   have h0 := hno 0 (by simp) (by omega)
   simp at h0 h
   rw [List.findSome?_cons, h0]
   exact ih (by simpa using hk) h (fun j hj hjk => by
    have := hno (j + 1) (by simpa using hj) (by omega)
    rwa [List.getElem_cons_succ] at this)
def ClsAt (w : World) (bi : Nat) (cs : List Cls) : Prop :=
 ∃ v0 v1 v2, ImB w bi v0 v1 v2 ∧ w.ownsRow 0 203 2 v0 cs.length (clsCells cs)
theorem ImgAt.cls {w : World} {bi : Nat} {im : Img} (h : ImgAt w bi im) : ClsAt w bi im.classes := by
 obtain ⟨v0, v1, v2, l, hI, h0, _⟩ := h
 exact ⟨v0, v1, v2, hI, h0⟩
theorem ClsAt.but {w w' : World} {bi : Nat} {cs : List Cls} (h : ClsAt w bi cs) (hb : But (fun _ => False) w w') : ClsAt w' bi cs := by
 obtain ⟨v0, v1, v2, hI, h0⟩ := h
 exact ⟨v0, v1, v2, hI.but hb (fun h => h), owns_but h0 hb (fun _ _ h => h)⟩
theorem ClsAt.par {w : World} {bi : Nat} {cs : List Cls} (h : ClsAt w bi cs) (hw : WfC cs) {x : Int} (h0 : 0 ≤ x) (hx : x < cs.length) :
  ∃ (g n cap : Nat) (p : Int), w.cell? ⟨bi, 0, none⟩ = some (.slice (some ⟨g, 0, none⟩) n cap) ∧ x < (n : Int) ∧ w.cell? ⟨g, x.toNat * 2, none⟩ = some (.int .i64 p) ∧ parOf cs x = p ∧ -1 ≤ p ∧ p < cs.length := by
 obtain ⟨v0, v1, v2, hI, hO⟩ := h
 obtain ⟨a0, cap0, rfl⟩ := owns_len hO
 obtain ⟨n, rfl⟩ := Int.eq_ofNat_of_zero_le h0
 have hnl : n < cs.length := by omega
 have hgl := List.getElem?_eq_getElem hnl
 obtain ⟨g, rfl, hg1, hg2, hcell⟩ := owns_two hO (by omega)
 have hpr := parOf_range hw hx h0
 have hpo : parOf cs (n : Int) = cs[n].par := by unfold parOf; rw [Int.toNat_natCast, hgl]; rfl
 refine ⟨g, cs.length, cap0, cs[n].par, hI.c0, by omega, ?_, hpo, ?_, ?_⟩
 ·rw [Int.toNat_natCast]; exact hcell _ _ (clsCells_at0 hgl)
 ·rw [← hpo]; exact hpr.1
 ·rw [← hpo]; exact hpr.2
theorem under_any (bi : Nat) (cs : List Cls) (x y : Int) (w : World) (hI : ClsAt w bi cs) (hw : WfC cs) (hx0 : -1 ≤ x) (hx : x < cs.length) :
  Calls Tryz.prog 122 #[.pointer (some ⟨bi, 0, none⟩), .int .i64 x, .int .i64 y] w fun en w' => en = .returned (.bool (under cs 5 x y)) ∧ w' = w := by
 obtain ⟨R, hRR⟩ : ∃ R, under cs 5 x y = R := ⟨_, rfl⟩
 rw [hRR]
 have HRR : Hid (under cs 5 x y = R) := hRR
 clear hRR
 go_enter Tryz.func122, Tryz.ntmps122
 go_wp2_with fail
 go_loopg [1, 7] 5 (fun mm xs ks wr => ∃ (xv : Int) (kn : Nat), xs = .int .i64 xv ∧ ks = .int .i64 kn ∧ kn ≤ 5 ∧ 5 ≤ kn + mm ∧ kn + mm ≤ 5 ∧ wr = w ∧ -1 ≤ xv ∧ xv < cs.length ∧ Hid (under cs mm xv y = R))
 case atStart => exact ⟨x, 0, rfl, rfl, by omega, by omega, by omega, rfl, hx0, hx, HRR⟩
 case round =>
  obtain ⟨xv, kn, rfl, rfl, hk5, hkm1, hkm2, hwr, hx0', hx', HF⟩ := hrel
  subst hwr
  by_cases hxn : 0 ≤ xv
  ·cases gk with
   | zero =>
    have hres : R = false := by rw [← HF.out]; rfl
    subst hres
    have hk4 : ¬ (kn : Int) ≤ 4 := by omega
    go_wp2_with fail
    go_ret
    exact ⟨rfl, rfl⟩
   | succ f =>
    have hk4 : (kn : Int) ≤ 4 := by omega
    by_cases hxy : xv = y
    ·have hres : R = true := by rw [← HF.out, under, if_neg (by omega), if_pos hxy]
     subst hres
     have hb : (xv == y) = true := by simpa using hxy
     clear hxy HF
     go_wp2_with fail
     go_ret
     exact ⟨rfl, rfl⟩
    ·have HN : Hid (under cs f (parOf cs xv) y = R) := by show _ = _; rw [← HF.out, under, if_neg (by omega), if_neg hxy]
     have hb : (xv == y) = false := by simpa using hxy
     obtain ⟨g, n, cap, p, d0, hn, hc, hpo, hp1, hp2⟩ := hI.par hw hxn hx'
     rw [hpo] at HN
     clear hpo hxy HF
     go_wp2_with fail
     go_roundg f
     case measure => omega
     case rel => exact ⟨p, kn + 1, rfl, by simp, by omega, by omega, by omega, rfl, hp1, hp2, HN⟩
  ·have hres : R = false := by
    rw [← HF.out]
    cases gk with
    | zero => rfl
    | succ f => rw [under, if_pos (by omega)]
   subst hres
   by_cases hk4 : (kn : Int) ≤ 4
   ·go_wp2_with fail
    go_ret
    exact ⟨rfl, rfl⟩
   ·go_wp2_with fail
    go_ret
    exact ⟨rfl, rfl⟩
theorem isClass_any (c : UInt8) (w : World) : Calls Tryz.prog 82 #[.int .u8 c.toNat] w fun en w' => en = .returned (.bool (isC c)) ∧ w' = w := by
 obtain ⟨n, hn⟩ : ∃ n : Nat, c.toNat = n := ⟨_, rfl⟩
 have hb : isC c = (decide (65 ≤ (n : Int)) && decide ((n : Int) ≤ 68)) := by
  unfold isC; rw [hn]; rw [Bool.eq_iff_iff]; simp; omega
 rw [hn, hb]
 clear hb hn
 by_cases h : (65 : Int) ≤ (n : Int)
 ·by_cases h2 : (n : Int) ≤ 68
  ·go_enter Tryz.func82, Tryz.ntmps82
   go_wp2
   go_ret
   exact ⟨by simp [h, h2], rfl⟩
  ·go_enter Tryz.func82, Tryz.ntmps82
   go_wp2
   go_ret
   exact ⟨by simp [h, h2], rfl⟩
 ·go_enter Tryz.func82, Tryz.ntmps82
  go_wp2
  go_ret
  exact ⟨by simp; omega, rfl⟩
theorem isRef_any (c : UInt8) (w : World) : Calls Tryz.prog 119 #[.int .u8 c.toNat] w fun en w' => en = .returned (.bool (isR c)) ∧ w' = w := by
 obtain ⟨r, hr⟩ : ∃ r, isC c = r := ⟨_, rfl⟩
 by_cases h : c.toNat = 122
 ·have hb : ((c.toNat : Int) == 122) = true := by rw [beq_iff_eq]; omega
  have hres : isR c = true := by simp [isR, h]
  rw [hres]
  clear h hres hr
  go_enter Tryz.func119, Tryz.ntmps119
  go_wp2_with fail
  go_ret
  exact ⟨rfl, rfl⟩
 ·have hb : ((c.toNat : Int) == 122) = false := by rw [beq_eq_false_iff_ne]; omega
  have hres : isR c = r := by simp [isR, h, hr]
  rw [hres]
  have HR : Hid (isC c = r) := hr
  clear h hres hr
  go_enter Tryz.func119, Tryz.ntmps119
  go_wp2_with fail
  refine (isClass_any c _).mono ?_
  rw [HR.out]
  rintro en wx ⟨rfl, hwx⟩
  rw [hwx]
  clear hwx wx
  go_wp2_with fail
  go_ret
  exact ⟨rfl, rfl⟩
theorem sub_any (bi : Nat) (cs : List Cls) (a b : UInt8) (w : World) (hI : ClsAt w bi cs) (hw : WfC cs) (hn : cs.length ≤ 4) (ha : okT cs.length a = true) :
  Calls Tryz.prog 73 #[.pointer (some ⟨bi, 0, none⟩), .int .u8 a.toNat, .int .u8 b.toNat] w fun en w' => en = .returned (.bool (subT cs a b)) ∧ w' = w := by
 obtain ⟨R, hRR⟩ : ∃ R, subT cs a b = R := ⟨_, rfl⟩
 rw [hRR]
 unfold subT at hRR
 have hao := okT_iff.1 ha
 by_cases h1 : a.toNat = b.toNat
 ·rw [if_pos (Or.inl h1)] at hRR
  subst hRR
  have hb : ((a.toNat : Int) == (b.toNat : Int)) = true := by rw [beq_iff_eq]; omega
  clear h1 hao
  go_enter Tryz.func73, Tryz.ntmps73
  go_wp2_with fail
  go_ret
  exact ⟨rfl, rfl⟩
 have hb1 : ((a.toNat : Int) == (b.toNat : Int)) = false := by rw [beq_eq_false_iff_ne]; omega
 by_cases h2 : b.toNat = 45
 ·rw [if_pos (Or.inr h2)] at hRR
  subst hRR
  have hb : ((b.toNat : Int) == 45) = true := by rw [beq_iff_eq]; omega
  clear h1 h2 hao
  go_enter Tryz.func73, Tryz.ntmps73
  go_wp2_with fail
  go_ret
  exact ⟨rfl, rfl⟩
 have hb2 : ((b.toNat : Int) == 45) = false := by rw [beq_eq_false_iff_ne]; omega
 rw [if_neg (by omega)] at hRR
 clear h1 h2
 cases hcb : isC b with
 | false =>
  rw [if_pos hcb] at hRR
  subst hRR
  go_enter Tryz.func73, Tryz.ntmps73
  go_wp2_with (go_at_call 82; refine (isClass_any b _).mono ?_; rw [hcb]; rintro en wx ⟨rfl, hwx⟩; rw [hwx]; clear hwx wx)
  go_ret
  exact ⟨rfl, rfl⟩
 | true =>
  rw [if_neg (by rw [hcb]; decide)] at hRR
  by_cases h3 : a.toNat = 122
  ·rw [if_pos h3] at hRR
   subst hRR
   have hb3 : ((a.toNat : Int) == 122) = true := by rw [beq_iff_eq]; omega
   clear h3 hao
   go_enter Tryz.func73, Tryz.ntmps73
   go_wp2_with (go_at_call 82; refine (isClass_any b _).mono ?_; rw [hcb]; rintro en wx ⟨rfl, hwx⟩; rw [hwx]; clear hwx wx)
   go_ret
   exact ⟨rfl, rfl⟩
  ·rw [if_neg h3] at hRR
   have hb3 : ((a.toNat : Int) == 122) = false := by rw [beq_eq_false_iff_ne]; omega
   clear h3
   cases hca : isC a with
   | false =>
    rw [if_pos hca] at hRR
    subst hRR
    clear hao
    go_enter Tryz.func73, Tryz.ntmps73
    go_wp2_with fail
    refine (isClass_any b _).mono ?_
    rw [hcb]
    rintro en wx ⟨rfl, hwx⟩
    rw [hwx]
    clear hwx wx
    go_wp2_with fail
    refine (isClass_any a _).mono ?_
    rw [hca]
    rintro en wx ⟨rfl, hwx⟩
    rw [hwx]
    clear hwx wx
    go_wp2_with fail
    go_ret
    exact ⟨rfl, rfl⟩
   | true =>
    rw [if_neg (by rw [hca]; decide)] at hRR
    have hA := isC_iff.1 hca
    have hB := isC_iff.1 hcb
    have ha1 : (65 : Int) ≤ (a.toNat : Int) := by omega
    have ha2 : (a.toNat : Int) ≤ 68 := by omega
    have hb4 : (65 : Int) ≤ (b.toNat : Int) := by omega
    have hb5 : (b.toNat : Int) ≤ 68 := by omega
    have hal : (a.toNat : Int) - 65 < cs.length := by omega
    have HR : Hid (under cs 5 ((a.toNat : Int) - 65) ((b.toNat : Int) - 65) = R) := hRR
    have HCA : Hid (isC a = true) := hca
    have HCB : Hid (isC b = true) := hcb
    clear hao hA hB hRR hca hcb
    go_enter Tryz.func73, Tryz.ntmps73
    go_wp2_with fail
    refine (isClass_any b _).mono ?_
    rw [HCB.out]
    rintro en wx ⟨rfl, hwx⟩
    rw [hwx]
    clear hwx wx
    go_wp2_with fail
    refine (isClass_any a _).mono ?_
    rw [HCA.out]
    rintro en wx ⟨rfl, hwx⟩
    rw [hwx]
    clear hwx wx
    go_wp2_with fail
    refine (under_any bi cs _ _ _ hI hw (by omega) hal).mono ?_
    rw [HR.out]
    rintro en wx ⟨rfl, hwx⟩
    rw [hwx]
    clear hwx wx
    go_wp2_with fail
    go_ret
    exact ⟨rfl, rfl⟩
theorem join_any (bi : Nat) (cs : List Cls) (a b : UInt8) (w : World) (hI : ClsAt w bi cs) (hw : WfC cs) (hn : cs.length ≤ 4) (ha : okT cs.length a = true) (hb : okT cs.length b = true) :
  Calls Tryz.prog 120 #[.pointer (some ⟨bi, 0, none⟩), .int .u8 a.toNat, .int .u8 b.toNat] w fun en w' => en = .returned (.int .u8 (joinT cs a b).toNat) ∧ w' = w := by
 obtain ⟨R, hRR⟩ : ∃ R, joinT cs a b = R := ⟨_, rfl⟩
 rw [hRR]
 unfold joinT at hRR
 cases h1 : subT cs a b with
 | true =>
  rw [if_pos h1] at hRR
  subst hRR
  have H1 : Hid (subT cs a b = true) := h1
  clear h1
  go_enter Tryz.func120, Tryz.ntmps120
  go_wp2_with fail
  refine (sub_any bi cs a b _ hI hw hn ha).mono ?_
  rw [H1.out]
  rintro en wx ⟨rfl, hwx⟩
  rw [hwx]
  clear hwx wx
  go_wp2_with fail
  go_ret
  exact ⟨rfl, rfl⟩
 | false =>
 rw [if_neg (by rw [h1]; decide)] at hRR
 have H1 : Hid (subT cs a b = false) := h1
 clear h1
 go_enter Tryz.func120, Tryz.ntmps120
 go_wp2_with fail
 refine (sub_any bi cs a b _ hI hw hn ha).mono ?_
 rw [H1.out]
 rintro en wx ⟨rfl, hwx⟩
 rw [hwx]
 clear hwx wx
 go_wp2_with fail
 refine (sub_any bi cs b a _ hI hw hn hb).mono ?_
 cases h2 : subT cs b a with
 | true =>
  rw [if_pos h2] at hRR
  subst hRR
  clear h2
  rintro en wx ⟨rfl, hwx⟩
  rw [hwx]
  clear hwx wx
  go_wp2_with fail
  go_ret
  exact ⟨rfl, rfl⟩
 | false =>
 rw [if_neg (by rw [h2]; decide)] at hRR
 clear h2
 rintro en wx ⟨rfl, hwx⟩
 rw [hwx]
 clear hwx wx
 go_wp2_with fail
 refine (isClass_any a _).mono ?_
 cases hca : isC a with
 | false =>
  rw [if_pos (Or.inl hca)] at hRR
  subst hRR
  clear hca
  rintro en wx ⟨rfl, hwx⟩
  rw [hwx]
  clear hwx wx
  go_wp2_with fail
  go_ret
  exact ⟨rfl, rfl⟩
 | true =>
 rintro en wx ⟨rfl, hwx⟩
 rw [hwx]
 clear hwx wx
 go_wp2_with fail
 refine (isClass_any b _).mono ?_
 cases hcb : isC b with
 | false =>
  rw [if_pos (Or.inr hcb)] at hRR
  subst hRR
  clear hcb hca
  rintro en wx ⟨rfl, hwx⟩
  rw [hwx]
  clear hwx wx
  go_wp2_with fail
  go_ret
  exact ⟨rfl, rfl⟩
 | true =>
 rw [if_neg (by rw [hca, hcb]; decide)] at hRR
 rintro en wx ⟨rfl, hwx⟩
 rw [hwx]
 clear hwx wx
 have hao := okT_iff.1 ha
 have hbo := okT_iff.1 hb
 have hA := isC_iff.1 hca
 have hB := isC_iff.1 hcb
 have ha1 : (65 : Int) ≤ (a.toNat : Int) := by omega
 have ha2 : (a.toNat : Int) ≤ 68 := by omega
 have hb1 : (65 : Int) ≤ (b.toNat : Int) := by omega
 have hb2 : (b.toNat : Int) ≤ 68 := by omega
 have hal : (a.toNat : Int) - 65 < cs.length := by omega
 have hbl : (b.toNat : Int) - 65 < cs.length := by omega
 obtain ⟨g, n, cap, p, d0, hn', hc, hpo, hp1, hp2⟩ := hI.par hw (x := (a.toNat : Int) - 65) (by omega) hal
 rw [hpo] at hRR
 have HRR : Hid (joinF cs ((b.toNat : Int) - 65) 5 p = R) := hRR
 rw [show ((a.toNat : Int) - 65).toNat = a.toNat - 65 from by omega] at hc
 clear hao hbo hA hB hca hcb hRR hpo
 go_wp2_with fail
 go_loopg [9, 10] 5 (fun mm xs ks wr => ∃ (xv : Int) (kn : Nat), xs = .int .i64 xv ∧ ks = .int .i64 kn ∧ kn ≤ 5 ∧ 5 ≤ kn + mm ∧ kn + mm ≤ 5 ∧ wr = w ∧ -1 ≤ xv ∧ xv < cs.length ∧ Hid (joinF cs ((b.toNat : Int) - 65) mm xv = R))
 case atStart => exact ⟨p, 0, rfl, rfl, by omega, by omega, by omega, rfl, hp1, hp2, HRR⟩
 case round =>
  obtain ⟨xv, kn, rfl, rfl, hk5, hkm1, hkm2, hwr, hx0', hx', HF⟩ := hrel
  subst hwr
  clear d0 hc hn'
  by_cases hxn : 0 ≤ xv
  ·cases gk with
   | zero =>
    have hres : R = 45 := by rw [← HF.out]; rfl
    subst hres
    have hk4 : ¬ (kn : Int) ≤ 4 := by omega
    go_wp2_with fail
    go_ret
    exact ⟨rfl, rfl⟩
   | succ f =>
    have hk4 : (kn : Int) ≤ 4 := by omega
    go_wp2_with fail
    refine (under_any bi cs _ _ _ hI hw (by omega) hbl).mono ?_
    cases hu : under cs 5 ((b.toNat : Int) - 65) xv with
    | true =>
     have hres : R = UInt8.ofNat (65 + xv.toNat) := by rw [← HF.out, joinF, if_neg (by omega), if_pos hu]
     have hrn : (R.toNat : Int) = 65 + xv := by rw [hres, UInt8.toNat_ofNat']; omega
     have HRN : Hid ((R.toNat : Int) = 65 + xv) := hrn
     clear hu hres hrn
     rintro en wx ⟨rfl, hwx⟩
     rw [hwx]
     clear hwx wx
     go_wp2_with fail
     go_ret
     exact ⟨ret_int (by rw [HRN.out]), rfl⟩
    | false =>
     obtain ⟨g, n, cap, p', d0, hn', hc, hpo, hq1, hq2⟩ := hI.par hw hxn hx'
     have HN : Hid (joinF cs ((b.toNat : Int) - 65) f p' = R) := by show _ = _; rw [← HF.out, joinF, if_neg (by omega), if_neg (by rw [hu]; decide), hpo]
     clear hu hpo HF
     rintro en wx ⟨rfl, hwx⟩
     rw [hwx]
     clear hwx wx
     go_wp2_with fail
     go_roundg f
     case measure => omega
     case rel => exact ⟨p', kn + 1, rfl, by simp, by omega, by omega, by omega, rfl, hq1, hq2, HN⟩
  ·have hres : R = 45 := by
    rw [← HF.out]
    cases gk with
    | zero => rfl
    | succ f => rw [joinF, if_pos (by omega)]
   subst hres
   by_cases hk4 : (kn : Int) ≤ 4
   ·go_wp2_with fail
    go_ret
    exact ⟨rfl, rfl⟩
   ·go_wp2_with fail
    go_ret
    exact ⟨rfl, rfl⟩
end Go.Proofs.YtpfkkmacakjmbaaGreatDoor
namespace Go.Proofs.YtpfkkmacakjmbaaGreatDoor
open Go Go.RowKit Sp
set_option linter.unusedSimpArgs false
set_option linter.unusedVariables false
attribute [local go_sem ↓] Go.wp_at_zero Go.wp_at_succ
theorem lget (l : List UInt8) (k : Nat) (h : k < l.length) (h' : k < (⟨l.toArray⟩ : ByteArray).size) : (⟨l.toArray⟩ : ByteArray)[k] = l[k] := rfl
theorem getD_lt (l : List UInt8) (k : Nat) (h : k < l.length) : l.getD k 0 = l[k] := by simp [List.getD, h]
theorem fits_any (bi : Nat) (cs : List Cls) (st wa : List UInt8) (w : World) (hI : ClsAt w bi cs) (hw : WfC cs) (hn : cs.length ≤ 4) (hst : ∀ c ∈ st, okT cs.length c = true) (hl1 : st.length ≤ 100000) (hl2 : wa.length ≤ 100) :
  Calls Tryz.prog 83 #[.pointer (some ⟨bi, 0, none⟩), .string ⟨st.toArray⟩, .string ⟨wa.toArray⟩] w fun en w' => en = .returned (.bool (fitsT cs st wa)) ∧ But (fun _ => False) w w' := by
 obtain ⟨R, hRR⟩ : ∃ R, fitsT cs st wa = R := ⟨_, rfl⟩
 rw [hRR]
 have HRR : Hid (fitsT cs st wa = R) := hRR
 clear hRR
 by_cases hlen : (st.length : Int) - (wa.length : Int) < 0
 ·have hres : R = false := by rw [← HRR.out]; exact fitsT_false (by omega)
  subst hres
  go_enter Tryz.func83, Tryz.ntmps83
  go_wp2_with fail
  go_ret
  exact ⟨rfl, But.refl _ _⟩
 go_enter Tryz.func83, Tryz.ntmps83
 go_wp2_with fail
 go_loopg [8] wa.length (fun mm ks wr => ∃ (k : Nat), ks = .int .i64 k ∧ k ≤ wa.length ∧ k + mm ≤ wa.length ∧ wa.length ≤ k + mm ∧ But (fun _ => False) w wr ∧ Hid (∀ j, j < k → subT cs (st.getD (st.length - wa.length + j) 0) (wa.getD j 0) = true))
 case atStart => exact ⟨0, rfl, by omega, by omega, by omega, But.refl _ _, fun j h => absurd h (by omega)⟩
 case round =>
  obtain ⟨k, rfl, hk1, hk2, hk3, hBr, HA⟩ := hrel
  by_cases hlt : k < wa.length
  ·have hkn : (k : Int) < (wa.length : Int) := by omega
   have hi1 : (0 : Int) ≤ (st.length : Int) - (wa.length : Int) + (k : Int) := by omega
   have hi2 : (st.length : Int) - (wa.length : Int) + (k : Int) < (st.length : Int) := by omega
   have hin : st.length - wa.length + k < st.length := by omega
   have hwrp := wrapI ((st.length : Int) - (wa.length : Int) + (k : Int)) (by omega) (by omega)
   go_wp2_with fail
   refine wpTx_begin (But (fun _ => False) wr) 10 (by kernel_rfl) ?_
   have hS0 : But (fun _ => False) wr wr.drew := But.drew _ _
   iterate 9 (refine wpTx_take (v := ?_) rfl (by kernel_rfl) (fun _ _ _ h => h) rfl hS0 ?_ ?_; rotate_left; (focus (intro wS h; clear h; go_simp; try rfl)); dsimp only [Act.put]; try simp only [puts])
   clear hwrp
   refine wpTx_step rfl (by kernel_rfl) ?_
   intro KS hKS
   go_simp
   have ha : ∀ h, (⟨st.toArray⟩ : ByteArray)[((st.length : Int) - (wa.length : Int) + (k : Int)).toNat]'h = st.getD (st.length - wa.length + k) 0 := fun h => by
    have hidx : ((st.length : Int) - (wa.length : Int) + (k : Int)).toNat = st.length - wa.length + k := by omega
    rw [getD_lt st _ hin]
    simp only [hidx]
    exact lget st _ hin _
   have hb : ∀ h, (⟨wa.toArray⟩ : ByteArray)[k]'h = wa.getD k 0 := fun h => by
    rw [getD_lt wa _ hlt]
    exact lget wa _ hlt _
   simp only [ha, hb]
   have hak : okT cs.length (st.getD (st.length - wa.length + k) 0) = true := by rw [getD_lt st _ hin]; exact hst _ (List.getElem_mem _)
   have HNX : Hid (∀ q, subT cs (st.getD (st.length - wa.length + k) 0) (wa.getD k 0) = q → (q = false → R = false) ∧ (q = true → ∀ j, j < k + 1 → subT cs (st.getD (st.length - wa.length + j) 0) (wa.getD j 0) = true)) := fun q hq => by
    refine ⟨fun h => by subst h; rw [← HRR.out]; exact fitsT_no hlt hq, fun h j hj => ?_⟩
    rcases Nat.lt_or_ge j k with h' | h'
    ·exact HA.out j h'
    ·have : j = k := by omega
     subst this
     rw [hq, h]
   clear ha hb hin
   generalize st.getD (st.length - wa.length + k) 0 = A at *
   generalize wa.getD k 0 = B at *
   refine (sub_any bi cs A B _ ((hI.but hBr).but hS0) hw hn hak).mono ?_
   rintro en wx ⟨rfl, hwx⟩
   rw [hwx]
   clear hwx wx
   refine hKS.out _ _ (fun _ => hS0) ?_
   clear hKS KS
   refine wpTx_step rfl (by kernel_rfl) ?_
   intro KS hKS
   go_simp
   refine hKS.out _ _ (fun h => absurd h (by decide)) ?_
   clear hKS KS
   refine wpTx_done rfl (by kernel_rfl) ?_
   have HX := HNX.out _ rfl
   cases hq : subT cs A B with
   | false =>
    have hres : R = false := HX.1 hq
    subst hres
    clear HX hq
    go_wp2_with fail
    go_ret
    exact ⟨rfl, hBr.trans hS0⟩
   | true =>
    have HY : Hid (∀ j, j < k + 1 → subT cs (st.getD (st.length - wa.length + j) 0) (wa.getD j 0) = true) := HX.2 hq
    clear HX hq
    go_wp2_with fail
    go_roundg (wa.length - (k + 1))
    case measure => omega
    case rel => exact ⟨k + 1, by simp, by omega, by omega, by omega, hBr.trans hS0, HY⟩
  ·have hres : R = true := by rw [← HRR.out]; exact fitsT_yes (by omega) (fun j hj => HA.out j (by omega))
   subst hres
   go_wp2_with fail
   go_ret
   exact ⟨rfl, hBr⟩
end Go.Proofs.YtpfkkmacakjmbaaGreatDoor
