import Derived.Test.YtpfkkmacakjmbaaGreatDoorP05
import Derived.Test.YtpfkkmacakjmbaaGreatDoorP45
set_option maxRecDepth 100000
set_option maxHeartbeats 6400000
set_option linter.unusedSimpArgs false
set_option linter.unusedVariables false
namespace Go.Proofs.YtpfkkmacakjmbaaGreatDoor
section
open Go Go.RowKit Sp Go.ChangeShapes Go.WideShapes Go.ChangeAt
/--What the walk gives,for every script and every world. -/
theorem nB (H:Type) (enc:TypeId×Value→H) (W:World) (base:Nat) (args:Array Value) (ds gs:List (DataW H)) (before:List MemPlace) (htab:eP W)
  (hval: ∀(j:Nat) t v,Tryz.f6.params[j]?=some t→args[j]?=some v→Value.okWide Tryz.prog W .any base t v)
  (hW:DataW.Whole enc Tryz.prog Tryz.f6.params.toList Rows.holdsSpec.vars false W args.toList ds gs before):
  Calls Tryz.prog 6 args W fun e W'=> ∃v,e= .returned v∧Rows.holdsSpec.post enc Tryz.prog Tryz.f6 false true false false W args v W':=by
 have a1:=hW;obtain⟨p,q,a2,hV,rfl,a5,a6⟩:=hW;have hA:DataW.TrodAll enc Tryz.prog W 0 (fun _=>true) true Tryz.f6.params.toList args.toList ds p:=a2;rw[Tryz.params6]at hA hval;obtain⟨v0,a7,d0,a4,p0,q0,a3,rfl,rfl,h0,r0⟩:=trodAll_cons hA;obtain⟨rfl,rfl,rfl⟩:=trodAll_nil r0;obtain rfl:args=#[v0]:=by cases args;simp_all
 obtain⟨rfl,rfl⟩:=trodVars_none hV;clear a2;obtain⟨a,len,cap,rfl⟩:=okWide_slice Tryz.underlying22 (hval 0 22 v0 rfl rfl);obtain⟨ao,n,cap',hv,hO⟩:=qG h0 rfl
 cases hv
 simp only[List.append_nil]at a1;refine(wD a len cap W htab hO).mono fun e W' ⟨he,hB⟩=> ?_
 subst he;have a0:Below W.heap.size W W':=hB.toBelow (Nat.le_refl _) (fun _ h=>h.elim);refine⟨_,rfl,[d0],[],p0,[],p0,[],a1,?_,?_,rfl,a0.frame _,fun h=>by cases h⟩
 ·exact trodAll_cons_mk (shut_bool Tryz.underlying4 true) trodAll_mk0
 ·have:=Below.trod yT (by kernel_rfl) (of_decide_eq_true (by kernel_rfl)) h0 a0 (fun x hx=>a1.lt x hx);have h2:=trodAll_cons_mk this (trodAll_mk0 (enc:=enc) (P:=Tryz.prog) (w:=W') (base:=0) (spare:=fun b=>decide (b<W.heap.size)) (held:=true));rw[List.append_nil]at h2;exact h2
theorem wE (os:Os):laidMet Tryz.prog Rows.holdsRow.laid (({World.holding Tryz.prog os ⟨#[],#[],[]⟩with heap:=(((World.holding Tryz.prog os ⟨#[],#[],[]⟩).heap.modify 0 (es Rows.laid_internal_strconv_uint64pow10)).modify 1 (es Rows.laid_math_bits_deBruijn32tab)).modify 2 (es Rows.laid_math_bits_deBruijn64tab)}:World).forCall (fun _ _=>0) ⟨#[],#[.slice none 0 0],[]⟩).memory:=
 laidMet_of_run' 8 (by kernel_rfl) (by kernel_rfl)
theorem sw (os:Os) {H:Type} (enc:TypeId×Value→H): ∃places,DataW.whole enc Tryz.prog (({World.holding Tryz.prog os ⟨#[],#[],[]⟩with heap:=(((World.holding Tryz.prog os ⟨#[],#[],[]⟩).heap.modify 0 (es Rows.laid_internal_strconv_uint64pow10)).modify 1 (es Rows.laid_math_bits_deBruijn32tab)).modify 2 (es Rows.laid_math_bits_deBruijn64tab)}:World).forCall (fun _ _=>0) ⟨#[],#[.slice none 0 0],[]⟩).memory Tryz.f6.params.toList Rows.holdsSpec.vars false #[Value.slice none 0 0].toList 8=some ([.nil],[],places):=
 ⟨[],by kernel_rfl⟩
theorem qm (os:Os) (started:os.Started) (H:Type) (enc:TypeId×Value→H) (F:Stop.Interp):
  ReturnsInHanded {} Tryz.checked os 6 .any ((OpenSpec.ofChange Rows.holdsSpec).preRow enc Tryz.prog Tryz.f6 Rows.holdsRow.domain false Rows.holdsRow.laid) (((OpenSpec.ofChange Rows.holdsSpec).at F).post enc Tryz.prog Tryz.f6 false true false false):=by
 obtain⟨places,hx⟩:=sw os enc
 refine returnsInHanded_of_row (C:=Tryz.checked) (s:=OpenSpec.ofChange Rows.holdsSpec) Ah started (by kernel_rfl) Tryz.func6
  (witness_row_at (enc:=enc) (C:=Tryz.checked) false ({World.holding Tryz.prog os ⟨#[],#[],[]⟩with heap:=(((World.holding Tryz.prog os ⟨#[],#[],[]⟩).heap.modify 0 (es Rows.laid_internal_strconv_uint64pow10)).modify 1 (es Rows.laid_math_bits_deBruijn32tab)).modify 2 (es Rows.laid_math_bits_deBruijn64tab)}:World) #[.slice none 0 0] rfl (by kernel_rfl) (by kernel_rfl) (by kernel_rfl)
   (OpenSpec.preRow_of_cond 8 hx (by kernel_rfl) (fun k hk=>by cases hk) (by kernel_rfl) (wE os))) ?_
 intro W base args ds gs before a0 hW _ _ _ hL _ _;exact nB H enc W base args ds gs before (qj hL) a0 hW
theorem lO:Tryz.pinned.checked.prog.funcNamed Rows.holdsRow.func=some 6:=by kernel_rfl
theorem tP:Tryz.f6.isInstance Tryz.pinned.checked.prog Rows.holdsRow.origin Rows.holdsRow.targs:=of_decide_eq_true (by kernel_rfl)
theorem tQ:Tryz.f6.isWrapper Tryz.pinned.checked.prog Rows.holdsRow.wrapper Rows.holdsRow.mainSum:=by
 unfold Func.isWrapper;first| (rw[if_pos (by decide+kernel)];kernel_rfl) | (rw[if_neg (by decide+kernel)];exact⟨rfl,rfl⟩)
theorem tS:Rows.HoldsSaid:=
 OpenClaim.holds_of_cond 6 Tryz.f6 rfl rfl rfl rfl rfl rfl rfl ⟨rfl,rfl,rfl,rfl,rfl⟩ rfl rfl rfl rfl rfl lO Tryz.func6 pg tP tQ
  (fun os started H enc _ F=>by rw[OpenClaim.pre_eq_preRow];exact qm os started H enc F)
theorem sx (f:FuncId) (fn:Func) (hf:Tryz.pinned.checked.prog.funcNamed Rows.holdsRow.func=some f) (hfn:Tryz.pinned.checked.prog.funcs[f]?=some fn):
  false=Tryz.pinned.checked.prog.looks []∧ ∀(j:Nat) t,fn.params[j]?=some t→Tryz.pinned.checked.prog.wantsStandIn t=false:=by
 obtain rfl:f=6:=Option.some.inj (lO.symm.trans hf) |>.symm;obtain rfl:fn=Tryz.f6:=(Option.some.inj (Tryz.func6.symm.trans hfn)).symm;refine⟨by kernel_rfl,fun j t ht=> ?_⟩;rw[Tryz.params6]at ht;obtain rfl:t=22:=by simpa using Array.mem_of_getElem? ht
 exact(show Tryz.prog.wantsStandIn 22=false by kernel_rfl)
theorem holds_card:Rows.HoldsCardSaid:=
 Claim7.holds_tied_plain_at .later [] _ _ _ _ tS (fun _ h=>by cases h) (by kernel_rfl) (fun _ h=>by cases h) holds_row_tie rfl ⟨rfl,rfl⟩ (by kernel_rfl) rfl sx (by kernel_rfl)
end
end Go.Proofs.YtpfkkmacakjmbaaGreatDoor
