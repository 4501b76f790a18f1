import Derived.Test.YtpfkkmacakjmbaaGreatDoorP05
import Derived.Test.YtpfkkmacakjmbaaGreatDoorP43
set_option maxRecDepth 100000
set_option maxHeartbeats 6400000
namespace Go.Proofs.YtpfkkmacakjmbaaGreatDoor
open Go Go.RowKit Sp Go.ChangeShapes Go.WideShapes Go.ChangeAt
set_option linter.unusedSimpArgs false
set_option linter.unusedVariables false
/-- What the walk gives, for every script and every world. -/
theorem evals_contract (H : Type) (enc : TypeId × Value → H) (W : World) (base : Nat) (args : Array Value) (ds gs : List (DataW H)) (before : List MemPlace) (htab : TabW W)
  (hval : ∀ (j : Nat) t v, Tryz.f11.params[j]? = some t → args[j]? = some v → Value.okWide Tryz.prog W .any base t v)
  (hW : DataW.Whole enc Tryz.prog Tryz.f11.params.toList Rows.evalsSpec.vars false W args.toList ds gs before) :
  Calls Tryz.prog 11 args W fun e W' => ∃ v, e = .returned v ∧ Rows.evalsSpec.post enc Tryz.prog Tryz.f11 false true false false W args v W' := by
 have hW' := hW
 obtain ⟨p, q, hA0, hV, rfl, hfz, hnd⟩ := hW
 have hA : DataW.TrodAll enc Tryz.prog W 0 (fun _ => true) true Tryz.f11.params.toList args.toList ds p := hA0
 rw [Tryz.params11] at hA hval
 obtain ⟨v0, vs0, d0, ds0, p0, q0, hargs, rfl, rfl, h0, r0⟩ := trodAll_cons hA
 obtain ⟨rfl, rfl, rfl⟩ := trodAll_nil r0
 obtain rfl : args = #[v0] := by cases args; simp_all
 obtain ⟨rfl, rfl⟩ := trodVars_none hV
 clear hA0
 obtain ⟨a, len, cap, rfl⟩ := okWide_slice Tryz.underlying22 (hval 0 22 v0 rfl rfl)
 obtain ⟨ao, n, cap', hv, hO⟩ := ops_of_trod h0 rfl
 cases hv
 simp only [List.append_nil] at hW'
 refine (evals_all a len cap W htab hO).mono fun e W' ⟨he, hB⟩ => ?_
 subst he
 have hbelow : Below W.heap.size W W' := hB.toBelow (Nat.le_refl _) (fun _ h => h.elim)
 refine ⟨_, rfl, [d0], [], p0, [], p0, [], hW', ?_, ?_, rfl, hbelow.frame _, fun h => by cases h⟩
 ·exact trodAll_cons_mk (shut_bool Tryz.underlying4 true) trodAll_mk0
 ·have := Below.trod rowLaid (by kernel_rfl) (of_decide_eq_true (by kernel_rfl)) h0 hbelow (fun x hx => hW'.lt x hx)
  have h2 := trodAll_cons_mk this (trodAll_mk0 (enc := enc) (P := Tryz.prog) (w := W') (base := 0) (spare := fun b => decide (b < W.heap.size)) (held := true))
  rw [List.append_nil] at h2
  exact h2
theorem evals_met (os : Os) : laidMet Tryz.prog Rows.evalsRow.laid (({ World.holding Tryz.prog os ⟨#[], #[], []⟩ with heap := (((World.holding Tryz.prog os ⟨#[], #[], []⟩).heap.modify 0 (fillWith Rows.laid_internal_strconv_uint64pow10)).modify 1 (fillWith Rows.laid_math_bits_deBruijn32tab)).modify 2 (fillWith Rows.laid_math_bits_deBruijn64tab) } : World).forCall (fun _ _ => 0) ⟨#[], #[.slice none 0 0], []⟩).memory :=
 laidMet_of_run' 8 (by kernel_rfl) (by kernel_rfl)
theorem evals_reads (os : Os) {H : Type} (enc : TypeId × Value → H) : ∃ places, DataW.whole enc Tryz.prog (({ World.holding Tryz.prog os ⟨#[], #[], []⟩ with heap := (((World.holding Tryz.prog os ⟨#[], #[], []⟩).heap.modify 0 (fillWith Rows.laid_internal_strconv_uint64pow10)).modify 1 (fillWith Rows.laid_math_bits_deBruijn32tab)).modify 2 (fillWith Rows.laid_math_bits_deBruijn64tab) } : World).forCall (fun _ _ => 0) ⟨#[], #[.slice none 0 0], []⟩).memory Tryz.f11.params.toList Rows.evalsSpec.vars false #[Value.slice none 0 0].toList 8 = some ([.nil], [], places) :=
 ⟨[], by kernel_rfl⟩
theorem evals_lifted (os : Os) (started : os.Started) (H : Type) (enc : TypeId × Value → H) (F : Stop.Interp) :
  ReturnsInHanded {} Tryz.checked os 11 .any ((OpenSpec.ofChange Rows.evalsSpec).preRow enc Tryz.prog Tryz.f11 Rows.evalsRow.domain false Rows.evalsRow.laid) (((OpenSpec.ofChange Rows.evalsSpec).at F).post enc Tryz.prog Tryz.f11 false true false false) := by
 obtain ⟨places, hx⟩ := evals_reads os enc
 refine returnsInHanded_of_row (C := Tryz.checked) (s := OpenSpec.ofChange Rows.evalsSpec) rowOwn started (by kernel_rfl) Tryz.func11
  (witness_row_at (enc := enc) (C := Tryz.checked) false ({ World.holding Tryz.prog os ⟨#[], #[], []⟩ with heap := (((World.holding Tryz.prog os ⟨#[], #[], []⟩).heap.modify 0 (fillWith Rows.laid_internal_strconv_uint64pow10)).modify 1 (fillWith Rows.laid_math_bits_deBruijn32tab)).modify 2 (fillWith Rows.laid_math_bits_deBruijn64tab) } : World) #[.slice none 0 0] rfl (by kernel_rfl) (by kernel_rfl) (by kernel_rfl)
   (OpenSpec.preRow_of_cond 8 hx (by kernel_rfl) (fun k hk => by cases hk) (by kernel_rfl) (evals_met os))) ?_
 intro W base args ds gs before hval hW _ _ _ hL _ _
 exact evals_contract H enc W base args ds gs before (tabW_of_laid hL) hval hW
theorem evals_named : Tryz.pinned.checked.prog.funcNamed Rows.evalsRow.func = some 11 := by kernel_rfl
theorem evals_inst : Tryz.f11.isInstance Tryz.pinned.checked.prog Rows.evalsRow.origin Rows.evalsRow.targs := of_decide_eq_true (by kernel_rfl)
theorem evals_wrap : Tryz.f11.isWrapper Tryz.pinned.checked.prog Rows.evalsRow.wrapper Rows.evalsRow.mainSum := by
 unfold Func.isWrapper; first | (rw [if_pos (by decide +kernel)]; kernel_rfl) | (rw [if_neg (by decide +kernel)]; exact ⟨rfl, rfl⟩)
theorem evals_said : Rows.EvalsSaid :=
 OpenClaim.holds_of_cond 11 Tryz.f11 rfl rfl rfl rfl rfl rfl rfl ⟨rfl, rfl, rfl, rfl, rfl⟩ rfl rfl rfl rfl rfl evals_named Tryz.func11 evals_closed evals_inst evals_wrap
  (fun os started H enc _ F => by rw [OpenClaim.pre_eq_preRow]; exact evals_lifted os started H enc F)
theorem evals_plain (f : FuncId) (fn : Func) (hf : Tryz.pinned.checked.prog.funcNamed Rows.evalsRow.func = some f) (hfn : Tryz.pinned.checked.prog.funcs[f]? = some fn) :
  false = Tryz.pinned.checked.prog.looks [] ∧ ∀ (j : Nat) t, fn.params[j]? = some t → Tryz.pinned.checked.prog.wantsStandIn t = false := by
 obtain rfl : f = 11 := Option.some.inj (evals_named.symm.trans hf) |>.symm
 obtain rfl : fn = Tryz.f11 := (Option.some.inj (Tryz.func11.symm.trans hfn)).symm
 refine ⟨by kernel_rfl, fun j t ht => ?_⟩
 rw [Tryz.params11] at ht
 obtain rfl : t = 22 := by simpa using Array.mem_of_getElem? ht
 exact (show Tryz.prog.wantsStandIn 22 = false by kernel_rfl)
theorem evals_card : Rows.EvalsCardSaid :=
 Claim7.holds_tied_plain_at .later [] _ _ _ _ evals_said (fun _ h => by cases h) (by kernel_rfl) (fun _ h => by cases h) evals_row_tie rfl ⟨rfl, rfl⟩ (by kernel_rfl) rfl evals_plain (by kernel_rfl)
end Go.Proofs.YtpfkkmacakjmbaaGreatDoor
