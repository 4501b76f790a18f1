import Derived.Test.YtpfkkmacakjmbaaGreatDoorP05
import Derived.Test.YtpfkkmacakjmbaaGreatDoorP46
set_option maxRecDepth 100000
set_option maxHeartbeats 6400000
set_option linter.unusedSimpArgs false
set_option linter.unusedVariables false
namespace Go.Proofs.YtpfkkmacakjmbaaGreatDoor
section
open Go Go.RowKit Sp Go.ChangeShapes Go.WideShapes Go.ChangeAt
/--What the walk gives,for every script and every world. -/
theorem BT (H:Type) (enc:TypeId×Value→H) (W:World) (base:Nat) (args:Array Value) (ds gs:List (DataW H)) (before:List MemPlace) (htab:eP W) (hsm:Rows.uptoSmall H (ds++gs)=true)
  (hval: ∀(j:Nat) t v,Tryz.f5.params[j]?=some t→args[j]?=some v→Value.okWide Tryz.prog W .any base t v)
  (hW:DataW.Whole enc Tryz.prog Tryz.f5.params.toList Rows.leastSpec.vars false W args.toList ds gs before):
  Calls Tryz.prog 5 args W fun e W'=> ∃v,e= .returned v∧Rows.leastSpec.post enc Tryz.prog Tryz.f5 false true false false W args v W':=by
 have a1:=hW;obtain⟨p,q,a2,hV,rfl,a5,a6⟩:=hW;have hA:DataW.TrodAll enc Tryz.prog W 0 (fun _=>true) true Tryz.f5.params.toList args.toList ds p:=a2;rw[Tryz.params5]at hA hval;obtain⟨v0,a7,d0,a4,p0,q0,a3,rfl,rfl,h0,r0⟩:=trodAll_cons hA;obtain⟨rfl,rfl,rfl⟩:=trodAll_nil r0;obtain rfl:args=#[v0]:=by cases args;simp_all
 obtain⟨rfl,rfl⟩:=trodVars_none hV;clear a2;obtain⟨a,len,cap,rfl⟩:=okWide_slice Tryz.underlying22 (hval 0 22 v0 rfl rfl);obtain⟨ao,n,cap',hv,hO⟩:=B3 h0 rfl (Ck hsm)
 cases hv
 simp only[List.append_nil]at a1;refine(Cj a len cap W htab hO).mono fun e W' ⟨he,hB⟩=> ?_
 subst he;have a0:Below W.heap.size W W':=hB.toBelow (Nat.le_refl _) (fun _ h=>h.elim);refine⟨_,rfl,[d0],[],p0,[],p0,[],a1,?_,?_,rfl,a0.frame _,fun h=>by cases h⟩
 ·exact trodAll_cons_mk (shut_bool Tryz.underlying4 true) trodAll_mk0
 ·have:=Below.trod yT (by kernel_rfl) (of_decide_eq_true (by kernel_rfl)) h0 a0 (fun x hx=>a1.lt x hx);have h2:=trodAll_cons_mk this (trodAll_mk0 (enc:=enc) (P:=Tryz.prog) (w:=W') (base:=0) (spare:=fun b=>decide (b<W.heap.size)) (held:=true));rw[List.append_nil]at h2;exact h2
theorem Cl (os:Os):laidMet Tryz.prog Rows.leastUptoRow.laid (({World.holding Tryz.prog os ⟨#[],#[],[]⟩with heap:=(((World.holding Tryz.prog os ⟨#[],#[],[]⟩).heap.modify 0 (es Rows.laid_internal_strconv_uint64pow10)).modify 1 (es Rows.laid_math_bits_deBruijn32tab)).modify 2 (es Rows.laid_math_bits_deBruijn64tab)}:World).forCall (fun _ _=>0) ⟨#[],#[.slice none 0 0],[]⟩).memory:=
 laidMet_of_run' 8 (by kernel_rfl) (by kernel_rfl)
theorem B8 (os:Os) {H:Type} (enc:TypeId×Value→H): ∃places,DataW.whole enc Tryz.prog (({World.holding Tryz.prog os ⟨#[],#[],[]⟩with heap:=(((World.holding Tryz.prog os ⟨#[],#[],[]⟩).heap.modify 0 (es Rows.laid_internal_strconv_uint64pow10)).modify 1 (es Rows.laid_math_bits_deBruijn32tab)).modify 2 (es Rows.laid_math_bits_deBruijn64tab)}:World).forCall (fun _ _=>0) ⟨#[],#[.slice none 0 0],[]⟩).memory Tryz.f5.params.toList Rows.leastSpec.vars false #[Value.slice none 0 0].toList 8=some ([.nil],[],places):=
 ⟨[],by kernel_rfl⟩
theorem B4 (os:Os) (started:os.Started) (H:Type) (enc:TypeId×Value→H) (F:Stop.Interp):
  ReturnsInHanded {} Tryz.checked os 5 .any ((Rows.OpenSpec.upto Rows.leastSpec).preRow enc Tryz.prog Tryz.f5 Rows.leastUptoRow.domain false Rows.leastUptoRow.laid) (((Rows.OpenSpec.upto Rows.leastSpec).at F).post enc Tryz.prog Tryz.f5 false true false false):=by
 obtain⟨places,hx⟩:=B8 os enc
 refine returnsInHanded_of_row (C:=Tryz.checked) (s:=Rows.OpenSpec.upto Rows.leastSpec) Ah started (by kernel_rfl) Tryz.func5
  (witness_row_at (enc:=enc) (C:=Tryz.checked) false ({World.holding Tryz.prog os ⟨#[],#[],[]⟩with heap:=(((World.holding Tryz.prog os ⟨#[],#[],[]⟩).heap.modify 0 (es Rows.laid_internal_strconv_uint64pow10)).modify 1 (es Rows.laid_math_bits_deBruijn32tab)).modify 2 (es Rows.laid_math_bits_deBruijn64tab)}:World) #[.slice none 0 0] rfl (by kernel_rfl) (by kernel_rfl) (by kernel_rfl)
   (OpenSpec.preRow_of_cond 8 hx (by kernel_rfl) (fun k hk=>by cases hk;kernel_rfl) (by kernel_rfl) (Cl os))) ?_
 intro W base args ds gs before a0 hW _ hc _ hL _ _;exact BT H enc W base args ds gs before (qj hL) (hc _ rfl) a0 hW
theorem BN:Tryz.pinned.checked.prog.funcNamed Rows.leastUptoRow.func=some 5:=by kernel_rfl
theorem Cc:Tryz.f5.isInstance Tryz.pinned.checked.prog Rows.leastUptoRow.origin Rows.leastUptoRow.targs:=of_decide_eq_true (by kernel_rfl)
theorem Cd:Tryz.f5.isWrapper Tryz.pinned.checked.prog Rows.leastUptoRow.wrapper Rows.leastUptoRow.mainSum:=by
 unfold Func.isWrapper;first| (rw[if_pos (by decide+kernel)];kernel_rfl) | (rw[if_neg (by decide+kernel)];exact⟨rfl,rfl⟩)
theorem Ce:Rows.LeastUptoSaid:=
 OpenClaim.holds_of_cond 5 Tryz.f5 rfl rfl rfl rfl rfl rfl rfl ⟨rfl,rfl,rfl,rfl,rfl⟩ rfl rfl rfl rfl rfl BN Tryz.func5 B0 Cc Cd
  (fun os started H enc _ F=>by rw[OpenClaim.pre_eq_preRow];exact B4 os started H enc F)
theorem B9 (f:FuncId) (fn:Func) (hf:Tryz.pinned.checked.prog.funcNamed Rows.leastUptoRow.func=some f) (hfn:Tryz.pinned.checked.prog.funcs[f]?=some fn):
  false=Tryz.pinned.checked.prog.looks []∧ ∀(j:Nat) t,fn.params[j]?=some t→Tryz.pinned.checked.prog.wantsStandIn t=false:=by
 obtain rfl:f=5:=Option.some.inj (BN.symm.trans hf) |>.symm;obtain rfl:fn=Tryz.f5:=(Option.some.inj (Tryz.func5.symm.trans hfn)).symm;refine⟨by kernel_rfl,fun j t ht=> ?_⟩;rw[Tryz.params5]at ht;obtain rfl:t=22:=by simpa using Array.mem_of_getElem? ht
 exact(show Tryz.prog.wantsStandIn 22=false by kernel_rfl)
theorem least_card:Rows.LeastUptoCardSaid:=
 Claim7.holds_tied_plain_at .later [] _ _ _ _ Ce (fun _ h=>by cases h) (by kernel_rfl) (fun _ h=>by cases h) leastUpto_row_tie rfl ⟨rfl,rfl⟩ (by kernel_rfl) rfl B9 (by kernel_rfl)
end
end Go.Proofs.YtpfkkmacakjmbaaGreatDoor
