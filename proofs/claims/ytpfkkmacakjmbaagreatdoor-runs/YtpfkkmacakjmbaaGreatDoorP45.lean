import Derived.Test.YtpfkkmacakjmbaaGreatDoorP04
import Derived.Test.YtpfkkmacakjmbaaGreatDoorP44
set_option maxRecDepth 100000
set_option maxHeartbeats 6400000
set_option linter.unusedSimpArgs false
set_option linter.unusedVariables false
namespace Go.Proofs.YtpfkkmacakjmbaaGreatDoor
section
open Go Go.RowKit Sp Go.ChangeShapes Go.WideShapes Go.ChangeAt
/--What the walk gives,for every script and every world. -/
theorem oF (H:Type) (enc:TypeId×Value→H) (W:World) (base:Nat) (args:Array Value) (ds gs:List (DataW H)) (before:List MemPlace) (htab:gv W)
  (hval: ∀(j:Nat) t v,Tryz.f8.params[j]?=some t→args[j]?=some v→Value.okWide Tryz.prog W .any base t v)
  (hW:DataW.Whole enc Tryz.prog Tryz.f8.params.toList Rows.runsSpec.vars false W args.toList ds gs before):
  Calls Tryz.prog 8 args W fun e W'=> ∃v,e= .returned v∧Rows.runsSpec.post enc Tryz.prog Tryz.f8 false true false false W args v W':=by
 have a1:=hW;obtain⟨p,q,a2,hV,rfl,a5,a6⟩:=hW;have hA:DataW.TrodAll enc Tryz.prog W 0 (fun _=>true) true Tryz.f8.params.toList args.toList ds p:=a2;rw[Tryz.params8]at hA hval;obtain⟨v0,a7,d0,a4,p0,q0,a3,rfl,rfl,h0,r0⟩:=trodAll_cons hA;obtain⟨rfl,rfl,rfl⟩:=trodAll_nil r0;obtain rfl:args=#[v0]:=by cases args;simp_all
 obtain⟨rfl,rfl⟩:=trodVars_none hV;clear a2;obtain⟨a,len,cap,rfl⟩:=okWide_slice Tryz.underlying22 (hval 0 22 v0 rfl rfl);obtain⟨ao,n,cap',hv,hO⟩:=qz h0 rfl
 cases hv
 simp only[List.append_nil]at a1;refine(xG a len cap W htab hO).mono fun e W' ⟨he,hB⟩=> ?_
 subst he;have a0:Below W.heap.size W W':=hB.toBelow (Nat.le_refl _) (fun _ h=>h.elim);refine⟨_,rfl,[d0],[],p0,[],p0,[],a1,?_,?_,rfl,a0.frame _,fun h=>by cases h⟩
 ·exact trodAll_cons_mk (shut_bool Tryz.underlying4 true) trodAll_mk0
 ·have:=Below.trod xQ (by kernel_rfl) (of_decide_eq_true (by kernel_rfl)) h0 a0 (fun x hx=>a1.lt x hx);have h2:=trodAll_cons_mk this (trodAll_mk0 (enc:=enc) (P:=Tryz.prog) (w:=W') (base:=0) (spare:=fun b=>decide (b<W.heap.size)) (held:=true));rw[List.append_nil]at h2;exact h2
theorem xH (os:Os):laidMet Tryz.prog Rows.runsRow.laid (({World.holding Tryz.prog os ⟨#[],#[],[]⟩with heap:=(((World.holding Tryz.prog os ⟨#[],#[],[]⟩).heap.modify 0 (eT Rows.laid_internal_strconv_uint64pow10)).modify 1 (eT Rows.laid_math_bits_deBruijn32tab)).modify 2 (eT Rows.laid_math_bits_deBruijn64tab)}:World).forCall (fun _ _=>0) ⟨#[],#[.slice none 0 0],[]⟩).memory:=
 laidMet_of_run' 8 (by kernel_rfl) (by kernel_rfl)
theorem tA (os:Os) {H:Type} (enc:TypeId×Value→H): ∃places,DataW.whole enc Tryz.prog (({World.holding Tryz.prog os ⟨#[],#[],[]⟩with heap:=(((World.holding Tryz.prog os ⟨#[],#[],[]⟩).heap.modify 0 (eT Rows.laid_internal_strconv_uint64pow10)).modify 1 (eT Rows.laid_math_bits_deBruijn32tab)).modify 2 (eT Rows.laid_math_bits_deBruijn64tab)}:World).forCall (fun _ _=>0) ⟨#[],#[.slice none 0 0],[]⟩).memory Tryz.f8.params.toList Rows.runsSpec.vars false #[Value.slice none 0 0].toList 8=some ([.nil],[],places):=
 ⟨[],by kernel_rfl⟩
theorem so (os:Os) (started:os.Started) (H:Type) (enc:TypeId×Value→H) (F:Stop.Interp):
  ReturnsInHanded {} Tryz.checked os 8 .any ((OpenSpec.ofChange Rows.runsSpec).preRow enc Tryz.prog Tryz.f8 Rows.runsRow.domain false Rows.runsRow.laid) (((OpenSpec.ofChange Rows.runsSpec).at F).post enc Tryz.prog Tryz.f8 false true false false):=by
 obtain⟨places,hx⟩:=tA os enc
 refine returnsInHanded_of_row (C:=Tryz.checked) (s:=OpenSpec.ofChange Rows.runsSpec) yP started (by kernel_rfl) Tryz.func8
  (witness_row_at (enc:=enc) (C:=Tryz.checked) false ({World.holding Tryz.prog os ⟨#[],#[],[]⟩with heap:=(((World.holding Tryz.prog os ⟨#[],#[],[]⟩).heap.modify 0 (eT Rows.laid_internal_strconv_uint64pow10)).modify 1 (eT Rows.laid_math_bits_deBruijn32tab)).modify 2 (eT Rows.laid_math_bits_deBruijn64tab)}:World) #[.slice none 0 0] rfl (by kernel_rfl) (by kernel_rfl) (by kernel_rfl)
   (OpenSpec.preRow_of_cond 8 hx (by kernel_rfl) (fun k hk=>by cases hk) (by kernel_rfl) (xH os))) ?_
 intro W base args ds gs before a0 hW _ _ _ hL _ _;exact oF H enc W base args ds gs before (qp hL) a0 hW
theorem og:Tryz.pinned.checked.prog.funcNamed Rows.runsRow.func=some 8:=by kernel_rfl
theorem vB:Tryz.f8.isInstance Tryz.pinned.checked.prog Rows.runsRow.origin Rows.runsRow.targs:=of_decide_eq_true (by kernel_rfl)
theorem vC:Tryz.f8.isWrapper Tryz.pinned.checked.prog Rows.runsRow.wrapper Rows.runsRow.mainSum:=by
 unfold Func.isWrapper;first| (rw[if_pos (by decide+kernel)];kernel_rfl) | (rw[if_neg (by decide+kernel)];exact⟨rfl,rfl⟩)
theorem vD:Rows.RunsSaid:=
 OpenClaim.holds_of_cond 8 Tryz.f8 rfl rfl rfl rfl rfl rfl rfl ⟨rfl,rfl,rfl,rfl,rfl⟩ rfl rfl rfl rfl rfl og Tryz.func8 qA vB vC
  (fun os started H enc _ F=>by rw[OpenClaim.pre_eq_preRow];exact so os started H enc F)
theorem tB (f:FuncId) (fn:Func) (hf:Tryz.pinned.checked.prog.funcNamed Rows.runsRow.func=some f) (hfn:Tryz.pinned.checked.prog.funcs[f]?=some fn):
  false=Tryz.pinned.checked.prog.looks []∧ ∀(j:Nat) t,fn.params[j]?=some t→Tryz.pinned.checked.prog.wantsStandIn t=false:=by
 obtain rfl:f=8:=Option.some.inj (og.symm.trans hf) |>.symm;obtain rfl:fn=Tryz.f8:=(Option.some.inj (Tryz.func8.symm.trans hfn)).symm;refine⟨by kernel_rfl,fun j t ht=> ?_⟩;rw[Tryz.params8]at ht;obtain rfl:t=22:=by simpa using Array.mem_of_getElem? ht
 exact(show Tryz.prog.wantsStandIn 22=false by kernel_rfl)
theorem runs_card:Rows.RunsCardSaid:=
 Claim7.holds_tied_plain_at .later [] _ _ _ _ vD (fun _ h=>by cases h) (by kernel_rfl) (fun _ h=>by cases h) runs_row_tie rfl ⟨rfl,rfl⟩ (by kernel_rfl) rfl tB (by kernel_rfl)
end
end Go.Proofs.YtpfkkmacakjmbaaGreatDoor
