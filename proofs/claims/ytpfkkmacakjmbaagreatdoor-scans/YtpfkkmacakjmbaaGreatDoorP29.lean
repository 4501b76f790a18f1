import Derived.Test.YtpfkkmacakjmbaaGreatDoorP04
import Derived.Test.YtpfkkmacakjmbaaGreatDoorP28
set_option maxRecDepth 100000
set_option maxHeartbeats 6400000
namespace Go.Proofs.YtpfkkmacakjmbaaGreatDoor
open Go Go.RowKit Sp Go.ChangeShapes Go.WideShapes Go.ChangeAt
set_option linter.unusedSimpArgs false
set_option linter.unusedVariables false
/-- What the walk gives, for every script and every world. -/
theorem scans_contract (H : Type) (enc : TypeId × Value → H) (W : World) (base : Nat) (args : Array Value) (ds gs : List (DataW H)) (before : List MemPlace)
  (hval : ∀ (j : Nat) t v, Tryz.f10.params[j]? = some t → args[j]? = some v → Value.okWide Tryz.prog W .any base t v)
  (hW : DataW.Whole enc Tryz.prog Tryz.f10.params.toList Rows.scansSpec.vars false W args.toList ds gs before) :
  Calls Tryz.prog 10 args W fun e W' => ∃ v, e = .returned v ∧ Rows.scansSpec.post enc Tryz.prog Tryz.f10 false true false false W args v W' := by
 have hW' := hW
 obtain ⟨p, q, hA0, hV, rfl, hfz, hnd⟩ := hW
 have hA : DataW.TrodAll enc Tryz.prog W 0 (fun _ => true) true Tryz.f10.params.toList args.toList ds p := hA0
 rw [Tryz.params10] at hA hval
 obtain ⟨v0, vs0, d0, ds0, p0, q0, hargs, rfl, rfl, h0, r0⟩ := trodAll_cons hA
 obtain ⟨rfl, rfl, rfl⟩ := trodAll_nil r0
 obtain rfl : args = #[v0] := by cases args; simp_all
 obtain ⟨rfl, rfl⟩ := trodVars_none hV
 clear hA0
 obtain ⟨a, len, cap, rfl⟩ := okWide_slice Tryz.underlying22 (hval 0 22 v0 rfl rfl)
 obtain ⟨ao, n, cap', hv, hO⟩ := ops_of_trod h0 rfl
 cases hv
 simp only [List.append_nil] at hW'
 refine (scans_all a len cap W hO).mono fun e W' ⟨he, hB⟩ => ?_
 subst he
 have hbelow : Below W.heap.size W W' := hB.toBelow (Nat.le_refl _) (fun _ h => h.elim)
 refine ⟨_, rfl, [d0], [], p0, [], p0, [], hW', ?_, ?_, rfl, hbelow.frame _, fun h => by cases h⟩
 ·exact trodAll_cons_mk (shut_bool Tryz.underlying4 true) trodAll_mk0
 ·have := Below.trod rowLaid (by kernel_rfl) (of_decide_eq_true (by kernel_rfl)) h0 hbelow (fun x hx => hW'.lt x hx)
  have h2 := trodAll_cons_mk this (trodAll_mk0 (enc := enc) (P := Tryz.prog) (w := W') (base := 0) (spare := fun b => decide (b < W.heap.size)) (held := true))
  rw [List.append_nil] at h2
  exact h2
theorem scans_met (os : Os) : laidMet Tryz.prog Rows.scansRow.laid (({ World.holding Tryz.prog os ⟨#[], #[], []⟩ with heap := (((World.holding Tryz.prog os ⟨#[], #[], []⟩).heap.modify 0 (fillWith Rows.laid_internal_strconv_uint64pow10)).modify 1 (fillWith Rows.laid_math_bits_deBruijn32tab)).modify 2 (fillWith Rows.laid_math_bits_deBruijn64tab) } : World).forCall (fun _ _ => 0) ⟨#[], #[.slice none 0 0], []⟩).memory :=
 laidMet_of_run' 8 (by kernel_rfl) (by kernel_rfl)
theorem scans_reads (os : Os) {H : Type} (enc : TypeId × Value → H) : ∃ places, DataW.whole enc Tryz.prog (({ World.holding Tryz.prog os ⟨#[], #[], []⟩ with heap := (((World.holding Tryz.prog os ⟨#[], #[], []⟩).heap.modify 0 (fillWith Rows.laid_internal_strconv_uint64pow10)).modify 1 (fillWith Rows.laid_math_bits_deBruijn32tab)).modify 2 (fillWith Rows.laid_math_bits_deBruijn64tab) } : World).forCall (fun _ _ => 0) ⟨#[], #[.slice none 0 0], []⟩).memory Tryz.f10.params.toList Rows.scansSpec.vars false #[Value.slice none 0 0].toList 8 = some ([.nil], [], places) :=
 ⟨[], by kernel_rfl⟩
theorem scans_lifted (os : Os) (started : os.Started) (H : Type) (enc : TypeId × Value → H) (F : Stop.Interp) :
  ReturnsInHanded {} Tryz.checked os 10 .any ((OpenSpec.ofChange Rows.scansSpec).preRow enc Tryz.prog Tryz.f10 Rows.scansRow.domain false Rows.scansRow.laid) (((OpenSpec.ofChange Rows.scansSpec).at F).post enc Tryz.prog Tryz.f10 false true false false) := by
 obtain ⟨places, hx⟩ := scans_reads os enc
 refine returnsInHanded_of_row (C := Tryz.checked) (s := OpenSpec.ofChange Rows.scansSpec) rowOwn started (by kernel_rfl) Tryz.func10
  (witness_row_at (enc := enc) (C := Tryz.checked) false ({ World.holding Tryz.prog os ⟨#[], #[], []⟩ with heap := (((World.holding Tryz.prog os ⟨#[], #[], []⟩).heap.modify 0 (fillWith Rows.laid_internal_strconv_uint64pow10)).modify 1 (fillWith Rows.laid_math_bits_deBruijn32tab)).modify 2 (fillWith Rows.laid_math_bits_deBruijn64tab) } : World) #[.slice none 0 0] rfl (by kernel_rfl) (by kernel_rfl) (by kernel_rfl)
   (OpenSpec.preRow_of_cond 8 hx (by kernel_rfl) (fun k hk => by cases hk) (by kernel_rfl) (scans_met os))) ?_
 intro W base args ds gs before hval hW _ _ _ hL _ _
 exact scans_contract H enc W base args ds gs before hval hW
theorem scans_named : Tryz.pinned.checked.prog.funcNamed Rows.scansRow.func = some 10 := by kernel_rfl
theorem scans_inst : Tryz.f10.isInstance Tryz.pinned.checked.prog Rows.scansRow.origin Rows.scansRow.targs := of_decide_eq_true (by kernel_rfl)
theorem scans_wrap : Tryz.f10.isWrapper Tryz.pinned.checked.prog Rows.scansRow.wrapper Rows.scansRow.mainSum := by
 unfold Func.isWrapper; first | (rw [if_pos (by decide +kernel)]; kernel_rfl) | (rw [if_neg (by decide +kernel)]; exact ⟨rfl, rfl⟩)
theorem scans_said : Rows.ScansSaid :=
 OpenClaim.holds_of_cond 10 Tryz.f10 rfl rfl rfl rfl rfl rfl rfl ⟨rfl, rfl, rfl, rfl, rfl⟩ rfl rfl rfl rfl rfl scans_named Tryz.func10 scans_closed scans_inst scans_wrap
  (fun os started H enc _ F => by rw [OpenClaim.pre_eq_preRow]; exact scans_lifted os started H enc F)
theorem scans_plain (f : FuncId) (fn : Func) (hf : Tryz.pinned.checked.prog.funcNamed Rows.scansRow.func = some f) (hfn : Tryz.pinned.checked.prog.funcs[f]? = some fn) :
  false = Tryz.pinned.checked.prog.looks [] ∧ ∀ (j : Nat) t, fn.params[j]? = some t → Tryz.pinned.checked.prog.wantsStandIn t = false := by
 obtain rfl : f = 10 := Option.some.inj (scans_named.symm.trans hf) |>.symm
 obtain rfl : fn = Tryz.f10 := (Option.some.inj (Tryz.func10.symm.trans hfn)).symm
 refine ⟨by kernel_rfl, fun j t ht => ?_⟩
 rw [Tryz.params10] at ht
 obtain rfl : t = 22 := by simpa using Array.mem_of_getElem? ht
 exact (show Tryz.prog.wantsStandIn 22 = false by kernel_rfl)
theorem scans_card : Rows.ScansCardSaid :=
 Claim7.holds_tied_plain_at .later [] _ _ _ _ scans_said (fun _ h => by cases h) (by kernel_rfl) (fun _ h => by cases h) scans_row_tie rfl ⟨rfl, rfl⟩ (by kernel_rfl) rfl scans_plain (by kernel_rfl)
end Go.Proofs.YtpfkkmacakjmbaaGreatDoor
