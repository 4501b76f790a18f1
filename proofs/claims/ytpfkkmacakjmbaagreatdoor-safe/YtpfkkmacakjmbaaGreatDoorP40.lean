import Derived.Test.YtpfkkmacakjmbaaGreatDoorP02
import Derived.Test.YtpfkkmacakjmbaaGreatDoorP39
set_option maxRecDepth 100000
set_option maxHeartbeats 6400000
set_option linter.all false
namespace Go.Proofs.YtpfkkmacakjmbaaGreatDoor
open Proofs.Tryz
section
open Go Go.RowKit Sp Go.ChangeShapes Go.WideShapes Go.ChangeAt
/--What the walk gives,for every script and every world. -/
theorem qO (H:Type) (enc:TypeId×Value->H) (W:World) (base:Nat) (args:Array Value) (ds gs:List (DataW H)) (before:List MemPlace) (htab:fj W)
  (hval: ∀(j:Nat) t v,Tryz.f7.params[j]?=some t->args[j]?=some v->Value.okWide prog W .any base t v)
  (hW:DataW.Whole enc prog Tryz.f7.params.toList Rows.safeSpec.vars false W args.toList ds gs before):
  Calls prog 7 args W λe W'=> ∃v,e= .returned v/\Rows.safeSpec.post enc prog Tryz.f7 false true false false W args v W':=by
 have a1:=hW;obtain⟨p,q,a2,hV,rfl,a5,a6⟩:=hW;have hA:DataW.TrodAll enc prog W 0 (λ_=>true) true Tryz.f7.params.toList args.toList ds p:=a2;rw[Tryz.params7]at hA hval;obtain⟨v0,a7,d0,a4,p0,q0,a3,rfl,rfl,h0,r0⟩:=trodAll_cons hA;obtain⟨rfl,rfl,rfl⟩:=trodAll_nil r0;obtain rfl:args=#[v0]:=by cases args;simp_all
 obtain⟨rfl,rfl⟩:=trodVars_none hV;clear a2;obtain⟨a,len,cap,rfl⟩:=okWide_slice Tryz.underlying22 (hval 0 22 v0 rfl rfl);obtain⟨ao,n,cap',hv,hO⟩:=tz h0 rfl
 cases hv
 simp only[List.append_nil]at a1;refine(BI a len cap W htab hO).mono λe W' ⟨he,hB⟩=> ?_
 subst he;have a0:Below W.heap.size W W':=hB.toBelow (b8 _) (λ_ h=>h.elim);refine⟨_,rfl,[d0],[],p0,[],p0,[],a1,?_,?_,rfl,a0.frame _,λh=>by cases h⟩
 .exact trodAll_cons_mk (shut_bool Tryz.underlying4 true) trodAll_mk0
 .have:=Below.trod BQ (by kernel_rfl) (of_decide_eq_true (by kernel_rfl)) h0 a0 (λx hx=>a1.lt x hx);have h2:=trodAll_cons_mk this (trodAll_mk0 (enc:=enc) (P:=prog) (w:=W') (base:=0) (spare:=λb=>decide (b<W.heap.size)) (held:=true));rw[List.append_nil]at h2;exact h2
theorem BJ (os:Os):laidMet prog Rows.safeRow.laid (({World.holding prog os ⟨#[],#[],[]⟩with heap:=(((World.holding prog os ⟨#[],#[],[]⟩).heap.modify 0 (fZ Rows.laid_internal_strconv_uint64pow10)).modify 1 (fZ Rows.laid_math_bits_deBruijn32tab)).modify 2 (fZ Rows.laid_math_bits_deBruijn64tab)}:World).forCall (λ_ _=>0) ⟨#[],#[S_],[]⟩).memory:=
 laidMet_of_run' 8 (by kernel_rfl) (by kernel_rfl)
theorem wU (os:Os) {H:Type} (enc:TypeId×Value->H): ∃places,DataW.whole enc prog (({World.holding prog os ⟨#[],#[],[]⟩with heap:=(((World.holding prog os ⟨#[],#[],[]⟩).heap.modify 0 (fZ Rows.laid_internal_strconv_uint64pow10)).modify 1 (fZ Rows.laid_math_bits_deBruijn32tab)).modify 2 (fZ Rows.laid_math_bits_deBruijn64tab)}:World).forCall (λ_ _=>0) ⟨#[],#[S_],[]⟩).memory Tryz.f7.params.toList Rows.safeSpec.vars false #[Value.slice none 0 0].toList 8=some ([.nil],[],places):=
 ⟨[],by kernel_rfl⟩
theorem vw (os:Os) (started:os.Started) (H:Type) (enc:TypeId×Value->H) (F:Stop.Interp):
  ReturnsInHanded {} Tryz.checked os 7 .any ((OpenSpec.ofChange Rows.safeSpec).preRow enc prog Tryz.f7 Rows.safeRow.domain false Rows.safeRow.laid) (((OpenSpec.ofChange Rows.safeSpec).at F).post enc prog Tryz.f7 false true false false):=by
 obtain⟨places,hx⟩:=wU os enc
 refine returnsInHanded_of_row (C:=Tryz.checked) (s:=OpenSpec.ofChange Rows.safeSpec) Da started (by kernel_rfl) Tryz.func7
  (witness_row_at (enc:=enc) (C:=Tryz.checked) false ({World.holding prog os ⟨#[],#[],[]⟩with heap:=(((World.holding prog os ⟨#[],#[],[]⟩).heap.modify 0 (fZ Rows.laid_internal_strconv_uint64pow10)).modify 1 (fZ Rows.laid_math_bits_deBruijn32tab)).modify 2 (fZ Rows.laid_math_bits_deBruijn64tab)}:World) #[S_] rfl (by kernel_rfl) (by kernel_rfl) (by kernel_rfl)
   (OpenSpec.preRow_of_cond 8 hx (by kernel_rfl) (λk hk=>by cases hk) (by kernel_rfl) (BJ os))) ?_
 intro W base args ds gs before a0 hW _ _ _ hL _ _;exact qO H enc W base args ds gs before (sW hL) a0 hW
theorem qv:Tryz.pinned.checked.prog.funcNamed Rows.safeRow.func=some 7:=by kernel_rfl
theorem zW:Tryz.f7.isInstance Tryz.pinned.checked.prog Rows.safeRow.origin Rows.safeRow.targs:=of_decide_eq_true (by kernel_rfl)
theorem zX:Tryz.f7.isWrapper Tryz.pinned.checked.prog Rows.safeRow.wrapper Rows.safeRow.mainSum:=by
 unfold Func.isWrapper;first| (rw[if_pos (by decide+kernel)];kernel_rfl) | (rw[if_neg (by decide+kernel)];exact⟨rfl,rfl⟩)
theorem zY:Rows.SafeSaid:=
 OpenClaim.holds_of_cond 7 Tryz.f7 rfl rfl rfl rfl rfl rfl rfl ⟨rfl,rfl,rfl,rfl,rfl⟩ rfl rfl rfl rfl rfl qv Tryz.func7 tA zW zX
  (λos started H enc _ F=>by rw[OpenClaim.pre_eq_preRow];exact vw os started H enc F)
theorem wV (f:FuncId) (fn:Func) (hf:Tryz.pinned.checked.prog.funcNamed Rows.safeRow.func=some f) (hfn:Tryz.pinned.checked.prog.funcs[f]?=some fn):
  false=Tryz.pinned.checked.prog.looks []/\ ∀(j:Nat) t,fn.params[j]?=some t->Tryz.pinned.checked.prog.wantsStandIn t=false:=by
 obtain rfl:f=7:=Option.some.inj (qv.symm.trans hf) |>.symm;obtain rfl:fn=Tryz.f7:=(Option.some.inj (Tryz.func7.symm.trans hfn)).symm;refine⟨by kernel_rfl,λj t ht=> ?_⟩;rw[Tryz.params7]at ht;obtain rfl:t=22:=by simpa using Array.mem_of_getElem? ht
 exact(show prog.wantsStandIn 22=false by kernel_rfl)
theorem safe_card:Rows.SafeCardSaid:=
 Claim7.holds_tied_plain_at .later [] _ _ _ _ zY (λ_ h=>by cases h) (by kernel_rfl) (λ_ h=>by cases h) safe_row_tie rfl ⟨rfl,rfl⟩ (by kernel_rfl) rfl wV (by kernel_rfl)
end
end Go.Proofs.YtpfkkmacakjmbaaGreatDoor
