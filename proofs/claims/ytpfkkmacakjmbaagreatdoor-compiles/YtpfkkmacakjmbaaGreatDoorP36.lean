import Derived.Test.YtpfkkmacakjmbaaGreatDoorP02
import Derived.Test.YtpfkkmacakjmbaaGreatDoorP35
set_option maxRecDepth 100000
set_option maxHeartbeats 6400000
set_option linter.all false
namespace Go.Proofs.YtpfkkmacakjmbaaGreatDoor
open Proofs.Tryz
section
open Go Go.RowKit Sp Go.ChangeShapes Go.WideShapes Go.ChangeAt
/--What the walk gives,for every script and every world. -/
theorem oH (H:Type) (enc:TypeId×Value->H) (W:World) (base:Nat) (args:Array Value) (ds gs:List (DataW H)) (before:List MemPlace) (htab:iM W)
  (hval: ∀(j:Nat) t v,Tryz.f13.params[j]?=some t->args[j]?=some v->Value.okWide prog W .any base t v)
  (hW:DataW.Whole enc prog Tryz.f13.params.toList Rows.compilesSpec.vars false W args.toList ds gs before):
  Calls prog 13 args W λe W'=> ∃v,e= .returned v/\Rows.compilesSpec.post enc prog Tryz.f13 false true false false W args v W':=by
 have d:=hW;obtain⟨p,q,f,y,rfl,z,A⟩:=hW;have l:DataW.TrodAll enc prog W 0 (λ_=>true) true Tryz.f13.params.toList args.toList ds p:=f;rw[Tryz.params13]at l hval;obtain⟨v0,B,d0,r,m,C,g,rfl,rfl,i,r0⟩:=trodAll_cons l;obtain⟨rfl,rfl,rfl⟩:=trodAll_nil r0;obtain rfl:args=#[v0]:=by cases args;simp_all
 obtain⟨rfl,rfl⟩:=trodVars_none y;clear f;obtain⟨a,len,cap,rfl⟩:=okWide_slice Tryz.underlying22 (hval 0 22 v0 rfl rfl);obtain⟨ao,n,cap',hv,s⟩:=uT i rfl
 cases hv
 simp only[List.append_nil]at d;refine(uE a len cap W htab s).mono λe W' ⟨he,hB⟩=> ?_
 subst he;have c:Below W.heap.size W W':=hB.toBelow (bP _) (λ_ h=>h.elim);refine⟨_,rfl,[d0],[],m,[],m,[],d,?_,?_,rfl,c.frame _,λh=>by cases h⟩
 .exact trodAll_cons_mk (shut_bool Tryz.underlying4 true) trodAll_mk0
 .have:=Below.trod CU (by kernel_rfl) (of_decide_eq_true (by kernel_rfl)) i c (λx hx=>d.lt x hx);have k:=trodAll_cons_mk this (trodAll_mk0 (enc:=enc) (P:=prog) (w:=W') (base:=0) (spare:=λb=>decide (b<W.heap.size)) (held:=true));rw[List.append_nil]at k;exact k
theorem uG (os:Os):laidMet prog Rows.compilesRow.laid (({World.holding prog os ⟨#[],#[],[]⟩with heap:=(((World.holding prog os ⟨#[],#[],[]⟩).heap.modify 0 (ig Rows.laid_internal_strconv_uint64pow10)).modify 1 (ig Rows.laid_math_bits_deBruijn32tab)).modify 2 (ig Rows.laid_math_bits_deBruijn64tab)}:World).forCall (λ_ _=>0) ⟨#[],#[S_],[]⟩).memory:=
 laidMet_of_run' 8 (by kernel_rfl) (by kernel_rfl)
theorem rL (os:Os) {H:Type} (enc:TypeId×Value->H): ∃places,DataW.whole enc prog (({World.holding prog os ⟨#[],#[],[]⟩with heap:=(((World.holding prog os ⟨#[],#[],[]⟩).heap.modify 0 (ig Rows.laid_internal_strconv_uint64pow10)).modify 1 (ig Rows.laid_math_bits_deBruijn32tab)).modify 2 (ig Rows.laid_math_bits_deBruijn64tab)}:World).forCall (λ_ _=>0) ⟨#[],#[S_],[]⟩).memory Tryz.f13.params.toList Rows.compilesSpec.vars false #[Value.slice none 0 0].toList 8=some ([.nil],[],places):=
 ⟨[],by kernel_rfl⟩
theorem pS (os:Os) (started:os.Started) (H:Type) (enc:TypeId×Value->H) (F:Stop.Interp):
  ReturnsInHanded {} Tryz.checked os 13 .any ((OpenSpec.ofChange Rows.compilesSpec).preRow enc prog Tryz.f13 Rows.compilesRow.domain false Rows.compilesRow.laid) (((OpenSpec.ofChange Rows.compilesSpec).at F).post enc prog Tryz.f13 false true false false):=by
 obtain⟨places,d⟩:=rL os enc
 refine returnsInHanded_of_row (C:=Tryz.checked) (s:=OpenSpec.ofChange Rows.compilesSpec) Eb started (by kernel_rfl) Tryz.func13
  (witness_row_at (enc:=enc) (C:=Tryz.checked) false ({World.holding prog os ⟨#[],#[],[]⟩with heap:=(((World.holding prog os ⟨#[],#[],[]⟩).heap.modify 0 (ig Rows.laid_internal_strconv_uint64pow10)).modify 1 (ig Rows.laid_math_bits_deBruijn32tab)).modify 2 (ig Rows.laid_math_bits_deBruijn64tab)}:World) #[S_] rfl (by kernel_rfl) (by kernel_rfl) (by kernel_rfl)
   (OpenSpec.preRow_of_cond 8 d (by kernel_rfl) (λk hk=>by cases hk) (by kernel_rfl) (uG os))) ?_
 intro W base args ds gs before a c _ _ _ b _ _;exact oH H enc W base args ds gs before (uF b) a c
theorem l8:Tryz.pinned.checked.prog.funcNamed Rows.compilesRow.func=some 13:=by kernel_rfl
theorem sd:Tryz.f13.isInstance Tryz.pinned.checked.prog Rows.compilesRow.origin Rows.compilesRow.targs:=of_decide_eq_true (by kernel_rfl)
theorem se:Tryz.f13.isWrapper Tryz.pinned.checked.prog Rows.compilesRow.wrapper Rows.compilesRow.mainSum:=by
 unfold Func.isWrapper;first| (rw[if_pos (by decide+kernel)];kernel_rfl) | (rw[if_neg (by decide+kernel)];exact⟨rfl,rfl⟩)
theorem sh:Rows.CompilesSaid:=
 OpenClaim.holds_of_cond 13 Tryz.f13 rfl rfl rfl rfl rfl rfl rfl ⟨rfl,rfl,rfl,rfl,rfl⟩ rfl rfl rfl rfl rfl l8 Tryz.func13 pN sd se
  (λos started H enc _ F=>by rw[OpenClaim.pre_eq_preRow];exact pS os started H enc F)
theorem rM (f:FuncId) (fn:Func) (hf:Tryz.pinned.checked.prog.funcNamed Rows.compilesRow.func=some f) (hfn:Tryz.pinned.checked.prog.funcs[f]?=some fn):
  false=Tryz.pinned.checked.prog.looks []/\ ∀(j:Nat) t,fn.params[j]?=some t->Tryz.pinned.checked.prog.wantsStandIn t=false:=by
 obtain rfl:f=13:=Option.some.inj (l8.symm.trans hf) |>.symm;obtain rfl:fn=Tryz.f13:=(Option.some.inj (Tryz.func13.symm.trans hfn)).symm;refine⟨by kernel_rfl,λj t ht=> ?_⟩;rw[Tryz.params13]at ht;obtain rfl:t=22:=by simpa using Array.mem_of_getElem? ht
 exact(show prog.wantsStandIn 22=false by kernel_rfl)
theorem compiles_card:Rows.CompilesCardSaid:=
 Claim7.holds_tied_plain_at .later [] _ _ _ _ sh (λ_ h=>by cases h) (by kernel_rfl) (λ_ h=>by cases h) compiles_row_tie rfl ⟨rfl,rfl⟩ (by kernel_rfl) rfl rM (by kernel_rfl)
end
end Go.Proofs.YtpfkkmacakjmbaaGreatDoor
