import Derived.Test.YtpfkkmacakjmbaaGreatDoorP02
import Derived.Test.YtpfkkmacakjmbaaGreatDoorP40
set_option maxRecDepth 100000
set_option maxHeartbeats 6400000
set_option linter.all false
namespace Go.Proofs.YtpfkkmacakjmbaaGreatDoor
open Proofs.Tryz
section
open Go Go.RowKit Sp Go.ChangeShapes Go.WideShapes Go.ChangeAt
/--What the walk gives,for every script and every world. -/
theorem rm (H:Type) (enc:TypeId×Value->H) (W:World) (base:Nat) (args:Array Value) (ds gs:List (DataW H)) (before:List MemPlace) (htab:fd W)
  (hval: ∀(j:Nat) t v,Tryz.f14.params[j]?=some t->args[j]?=some v->Value.okWide prog W .any base t v)
  (hW:DataW.Whole enc prog Tryz.f14.params.toList Rows.agreeSpec.vars false W args.toList ds gs before):
  Calls prog 14 args W λe W'=> ∃v,e= .returned v/\Rows.agreeSpec.post enc prog Tryz.f14 false true false false W args v W':=by
 have d:=hW;obtain⟨p,q,f,y,rfl,z,A⟩:=hW;have l:DataW.TrodAll enc prog W 0 (λ_=>true) true Tryz.f14.params.toList args.toList ds p:=f;rw[Tryz.params14]at l hval;obtain⟨v0,C,d0,r,m,D,g,rfl,rfl,i,r0⟩:=trodAll_cons l;obtain⟨rfl,rfl,rfl⟩:=trodAll_nil r0;obtain rfl:args=#[v0]:=by cases args;simp_all
 obtain⟨rfl,rfl⟩:=trodVars_none y;clear f;obtain⟨a,len,cap,rfl⟩:=okWide_slice Tryz.underlying22 (hval 0 22 v0 rfl rfl);obtain⟨ao,n,cap',B,s⟩:=uy i rfl
 cases B
 simp only[List.append_nil]at d;refine(Ba a len cap W htab s).mono λe W' ⟨he,hB⟩=> ?_
 subst he;have c:Below W.heap.size W W':=hB.toBelow (bG _) (λ_ h=>h.elim);refine⟨_,rfl,[d0],[],m,[],m,[],d,?_,?_,rfl,c.frame _,λh=>by cases h⟩
 .exact trodAll_cons_mk (shut_bool Tryz.underlying4 true) trodAll_mk0
 .have:=Below.trod C3 (by kernel_rfl) (of_decide_eq_true (by kernel_rfl)) i c (λx hx=>d.lt x hx);have k:=trodAll_cons_mk this (trodAll_mk0 (enc:=enc) (P:=prog) (w:=W') (base:=0) (spare:=λb=>decide (b<W.heap.size)) (held:=true));rw[List.append_nil]at k;exact k
theorem Bb (os:Os):laidMet prog Rows.agreeRow.laid (({World.holding prog os ⟨#[],#[],[]⟩with heap:=(((World.holding prog os ⟨#[],#[],[]⟩).heap.modify 0 (gK Rows.laid_internal_strconv_uint64pow10)).modify 1 (gK Rows.laid_math_bits_deBruijn32tab)).modify 2 (gK Rows.laid_math_bits_deBruijn64tab)}:World).forCall (λ_ _=>0) ⟨#[],#[S_],[]⟩).memory:=
 laidMet_of_run' 8 (by kernel_rfl) (by kernel_rfl)
theorem wJ (os:Os) {H:Type} (enc:TypeId×Value->H): ∃places,DataW.whole enc prog (({World.holding prog os ⟨#[],#[],[]⟩with heap:=(((World.holding prog os ⟨#[],#[],[]⟩).heap.modify 0 (gK Rows.laid_internal_strconv_uint64pow10)).modify 1 (gK Rows.laid_math_bits_deBruijn32tab)).modify 2 (gK Rows.laid_math_bits_deBruijn64tab)}:World).forCall (λ_ _=>0) ⟨#[],#[S_],[]⟩).memory Tryz.f14.params.toList Rows.agreeSpec.vars false #[Value.slice none 0 0].toList 8=some ([.nil],[],places):=
 ⟨[],by kernel_rfl⟩
theorem uf (os:Os) (started:os.Started) (H:Type) (enc:TypeId×Value->H) (F:Stop.Interp):
  ReturnsInHanded {} Tryz.checked os 14 .any ((OpenSpec.ofChange Rows.agreeSpec).preRow enc prog Tryz.f14 Rows.agreeRow.domain false Rows.agreeRow.laid) (((OpenSpec.ofChange Rows.agreeSpec).at F).post enc prog Tryz.f14 false true false false):=by
 obtain⟨places,hx⟩:=wJ os enc
 refine returnsInHanded_of_row (C:=Tryz.checked) (s:=OpenSpec.ofChange Rows.agreeSpec) Ep started (by kernel_rfl) Tryz.func14
  (witness_row_at (enc:=enc) (C:=Tryz.checked) false ({World.holding prog os ⟨#[],#[],[]⟩with heap:=(((World.holding prog os ⟨#[],#[],[]⟩).heap.modify 0 (gK Rows.laid_internal_strconv_uint64pow10)).modify 1 (gK Rows.laid_math_bits_deBruijn32tab)).modify 2 (gK Rows.laid_math_bits_deBruijn64tab)}:World) #[S_] rfl (by kernel_rfl) (by kernel_rfl) (by kernel_rfl)
   (OpenSpec.preRow_of_cond 8 hx (by kernel_rfl) (λk hk=>by cases hk) (by kernel_rfl) (Bb os))) ?_
 intro W base args ds gs before a c _ _ _ b _ _;exact rm H enc W base args ds gs before (ue b) a c
theorem pC:Tryz.pinned.checked.prog.funcNamed Rows.agreeRow.func=some 14:=by kernel_rfl
theorem yt:Tryz.f14.isInstance Tryz.pinned.checked.prog Rows.agreeRow.origin Rows.agreeRow.targs:=of_decide_eq_true (by kernel_rfl)
theorem yu:Tryz.f14.isWrapper Tryz.pinned.checked.prog Rows.agreeRow.wrapper Rows.agreeRow.mainSum:=by
 unfold Func.isWrapper;first| (rw[if_pos (by decide+kernel)];kernel_rfl) | (rw[if_neg (by decide+kernel)];exact⟨rfl,rfl⟩)
theorem yv:Rows.AgreeSaid:=
 OpenClaim.holds_of_cond 14 Tryz.f14 rfl rfl rfl rfl rfl rfl rfl ⟨rfl,rfl,rfl,rfl,rfl⟩ rfl rfl rfl rfl rfl pC Tryz.func14 sU yt yu
  (λos started H enc _ F=>by rw[OpenClaim.pre_eq_preRow];exact uf os started H enc F)
theorem wK (f:FuncId) (fn:Func) (hf:Tryz.pinned.checked.prog.funcNamed Rows.agreeRow.func=some f) (hfn:Tryz.pinned.checked.prog.funcs[f]?=some fn):
  false=Tryz.pinned.checked.prog.looks []/\ ∀(j:Nat) t,fn.params[j]?=some t->Tryz.pinned.checked.prog.wantsStandIn t=false:=by
 obtain rfl:f=14:=Option.some.inj (pC.symm.trans hf) |>.symm;obtain rfl:fn=Tryz.f14:=(Option.some.inj (Tryz.func14.symm.trans hfn)).symm;refine⟨by kernel_rfl,λj t ht=> ?_⟩;rw[Tryz.params14]at ht;obtain rfl:t=22:=by simpa using Array.mem_of_getElem? ht
 exact(show prog.wantsStandIn 22=false by kernel_rfl)
theorem agree_card:Rows.AgreeCardSaid:=
 Claim7.holds_tied_plain_at .later [] _ _ _ _ yv (λ_ h=>by cases h) (by kernel_rfl) (λ_ h=>by cases h) agree_row_tie rfl ⟨rfl,rfl⟩ (by kernel_rfl) rfl wK (by kernel_rfl)
end
end Go.Proofs.YtpfkkmacakjmbaaGreatDoor
