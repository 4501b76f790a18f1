import Derived.Test.YtpfkkmacakjmbaaGreatDoorP02
set_option maxRecDepth 100000
set_option maxHeartbeats 6400000
namespace Go.Proofs.YtpfkkmacakjmbaaGreatDoor.Sp
def WfF (cs : List Cls) : Prop := ∀ (j : Nat) (c : Cls), cs[j]? = some c → 0 ≤ c.par → fieldsOf cs c.par.toNat <+: c.fields
theorem fieldsOf_app {cs ds : List Cls} {k : Nat} (h : k < cs.length) : fieldsOf (cs ++ ds) k = fieldsOf cs k := by
 simp [fieldsOf, List.getElem?_append_left h]
theorem clsP_fld {s : ByteArray} : ∀ {k : Nat} {cs : List Cls} {i : Nat} {r : List Cls} {j : Nat}, WfC cs → WfF cs → clsP s k cs i = .ok (r, j) → WfF r := by
 intro k
 induction k with
 | zero =>
  intro cs i r j hw hf h
  unfold clsP at h
  split at h
  ·cases h; exact hf
  ·cases h
 | succ k ih =>
  intro cs i r j hw hf h
  unfold clsP at h
  split at h
  ·cases h; exact hf
  ·split at h
   ·cases h
   ·rename_i p l hp
    split at h
    ·cases h
    ·rename_i own m ho
     refine ih (wf_snoc hw hp ho) ?_ h
     intro j c hj hc
     rcases Nat.lt_or_ge j cs.length with hl | hl
     ·rw [List.getElem?_append_left hl] at hj
      have h1 := hw j c hj
      rw [fieldsOf_app (by omega)]
      exact hf j c hj hc
     ·rw [List.getElem?_append_right hl] at hj
      cases hk : j - cs.length with
      | succ q => rw [hk] at hj; simp at hj
      | zero =>
       rw [hk] at hj
       simp at hj
       subst hj
       simp only at hc ⊢
       have h1 := (parP_ok hp).2
       have h2 : p.toNat < cs.length := by
        rcases h1 with h1 | ⟨_, h1, h2⟩
        ·omega
        ·simp [isLet] at h1; omega
       rw [fieldsOf_app h2, inh, if_neg (by omega)]
       exact List.prefix_append _ _
theorem fields_under {cs : List Cls} (hw : WfC cs) (hf : WfF cs) : ∀ (k : Nat) {x y : Int}, x ≤ k → k ≤ 4 → x < cs.length → under cs 5 x y = true → fieldsOf cs y.toNat <+: fieldsOf cs x.toNat := by
 intro k
 induction k with
 | zero =>
  intro x y hx hk hl h
  have := U_le hw 0 hx hk h
  have : x = y := by omega
  subst this
  exact List.prefix_refl _
 | succ k ih =>
  intro x y hx hk hl h
  have h0 := U_le hw (k + 1) hx hk h
  rcases (U_step hw (by omega) (by omega)).1 h with h1 | h1
  ·subst h1; exact List.prefix_refl _
  ·have hp := parOf_lt hw (p := x) (by omega)
   have hpp : 0 ≤ parOf cs x := by
    rcases Int.lt_or_le (parOf cs x) 0 with h' | h'
    ·rw [U_neg hw h'] at h1; cases h1
    ·exact h'
   refine (ih (by omega) (by omega) (by omega) h1).trans ?_
   obtain ⟨c, hc⟩ : ∃ c, cs[x.toNat]? = some c := ⟨_, List.getElem?_eq_getElem (by omega)⟩
   have e1 : parOf cs x = c.par := by simp [parOf, hc]
   have e2 : fieldsOf cs x.toNat = c.fields := by simp [fieldsOf, hc]
   rw [e1, e2]
   exact hf _ _ hc (by omega)
def WfL (gs : List Sig) (b : Bod) : Prop := 0 ≤ b.cls → ∃ t, b.locals = UInt8.ofNat (65 + b.cls.toNat) :: argT gs b.meth.toNat :: t
theorem bodS_loc {s : ByteArray} {cs : List Cls} {gs : List Sig} : ∀ {k : Nat} {bs : List Bod} {i : Nat} {r : List Bod} {j : Nat}, (∀ b ∈ bs, WfL gs b ∧ 0 ≤ b.cls) → bodS s cs gs k bs i = .ok (r, j) → ∀ b ∈ r, WfL gs b ∧ 0 ≤ b.cls := by
 intro k
 induction k with
 | zero =>
  intro bs i r j hw h
  unfold bodS at h
  split at h
  ·cases h; exact hw
  ·cases h
 | succ k ih =>
  intro bs i r j hw h
  unfold bodS at h
  split at h
  ·cases h; exact hw
  ·split at h
   ·cases h
   ·split at h
    ·cases h
    ·split at h
     ·cases h
     ·split at h
      ·cases h
      ·split at h
       ·cases h
       ·refine ih (fun b hb => ?_) h
        rcases List.mem_append.1 hb with hb | hb
        ·exact hw b hb
        ·rw [List.mem_singleton] at hb
         subst hb
         exact ⟨fun _ => ⟨_, rfl⟩, by simp⟩
structure WfE (im : Img) : Prop where
 fld : WfF im.classes
 loc : ∀ b ∈ im.bodies, WfL im.sigs b
 main : ∃ bs m, im.bodies = bs ++ [m] ∧ m.cls = -1 ∧ ∀ b ∈ bs, 0 ≤ b.cls
theorem readS_wfE {s : ByteArray} {im : Img} (h : readS s = .ok im) : WfE im := by
 unfold readS at h
 split at h
 ·cases h
 ·rename_i cs l1 h1
  split at h
  ·cases h
  ·rename_i gs l2 h2
   split at h
   ·cases h
   ·rename_i bs l3 h3
    split at h
    ·cases h
    ·rename_i t l4 h4
     split at h
     ·cases h
     ·rename_i is l5 h5
      split at h
      ·cases h
      ·cases h
       have hb := bodS_loc (fun b hb => by simp at hb) h3
       refine ⟨clsP_fld (fun j c h => by simp at h) (fun j c h => by simp at h) h1, fun b hbm => ?_, ⟨bs, _, rfl, rfl, fun b hb' => (hb b hb').2⟩⟩
       simp at hbm
       rcases hbm with hbm | rfl
       ·exact (hb b hbm).1
       ·exact fun h => absurd h (by simp)
theorem linkS_wfE {s : ByteArray} {im : Img} (h : linkS s = .ok im) : WfE im ∧ (∀ b ∈ im.bodies, ∀ x ∈ b.code, x.op.toNat = 99 → 0 ≤ findF im.classes im.bodies x.b 5 x.a) := by
 unfold linkS at h
 split at h
 ·cases h
 ·split at h
  ·cases h
  ·rename_i im' hr
   split at h
   ·cases h
   ·rename_i hn
    cases h
    refine ⟨readS_wfE hr, fun b hb x hx ho => ?_⟩
    rw [List.findSome?_eq_none_iff] at hn
    have h1 := hn b hb
    unfold unl at h1
    rw [Option.map_eq_none_iff, List.find?_eq_none] at h1
    have h2 := h1 x hx
    simp [broken, ho] at h2
    exact h2
end Go.Proofs.YtpfkkmacakjmbaaGreatDoor.Sp
