import Derived.Test.YtpfkkmacakjmbaaGreatDoorP20
import Derived.Test.YtpfkkmacakjmbaaGreatDoorP34
import Derived.Test.YtpfkkmacakjmbaaGreatDoorP32
import Derived.Test.YtpfkkmacakjmbaaGreatDoorRows
import Derived.Stop.LaidErr
set_option maxRecDepth 100000
set_option maxHeartbeats 6400000
set_option linter.all false
namespace Go.Proofs.YtpfkkmacakjmbaaGreatDoor
open Proofs.Tryz
section
open Go Go.RowKit Sp
attribute [local go_sem ↓] eY eZ
theorem nr (x y:L_) (h:x<+:y) (w:World):
  Calls prog 68 #[.string ⟨x.toArray⟩,.string ⟨y.toArray⟩] w λen w'=>en= .returned (.bool true)/\w'=w:=by
 have hl:=h.length_le
 have b:(⟨y.toArray⟩:ByteArray).extract 0 x.length=⟨x.toArray⟩:=by
  obtain⟨t,rfl⟩:=h
  apply ByteArray.ext
  simp
 have c:(⟨x.toArray⟩:ByteArray).size=x.length:=by show x.toArray.size=_;simp
 have s2:(⟨y.toArray⟩:ByteArray).size=y.length:=by show y.toArray.size=_;simp
 have a:(x.length:Int)<=(y.length:Int):=by omega
 generalize (⟨x.toArray⟩:ByteArray)=X at*;generalize (⟨y.toArray⟩:ByteArray)=Y at*;clear h
 go_in
 go_wp2_with fail
 all_goals go_ret
 all_goals exact⟨rfl,rfl⟩
def FO (P:Prop) (en:Ending):Prop:= ∃q,en= .returned (.bool q)/\(P->q=true)
theorem pM (x y:L_) (w:World):
  Calls prog 68 #[.string ⟨x.toArray⟩,.string ⟨y.toArray⟩] w λen w'=>FO (x<+:y) en/\w'=w:=by
 by_cases h:x<+:y
 .refine(nr x y h w).mono ?_;rintro en w' ⟨rfl,rfl⟩;exact⟨⟨true,rfl,λ_=>rfl⟩,rfl⟩
 .have a:(⟨x.toArray⟩:ByteArray).size=x.length:=by show x.toArray.size=_;simp
  have s2:(⟨y.toArray⟩:ByteArray).size=y.length:=by show y.toArray.size=_;simp
  generalize (⟨x.toArray⟩:ByteArray)=X at*;generalize (⟨y.toArray⟩:ByteArray)=Y at*
  by_cases hl:(x.length:Int)<=(y.length:Int)
  .go_in
   go_wp2_with fail
   all_goals go_ret
   all_goals exact⟨⟨_,rfl,by intro hh;first|exact absurd hh h|exact hh.elim⟩,rfl⟩
  .go_in
   go_wp2_with fail
   all_goals go_ret
   all_goals exact⟨⟨_,rfl,by intro hh;first|exact absurd hh h|exact hh.elim⟩,rfl⟩
abbrev AS (a:vR):Value:= .agg #[.string ⟨a.1.toArray⟩,.int .i64 a.2.1,.int .i64 a.2.2]
theorem AT (a b:vR) (h:jT a b) (w:World):
  Calls prog 43 #[AS a,AS b] w λen w'=>en= .returned (.bool true)/\B_ w w':=by
 obtain⟨o1,v1,e⟩:=a;obtain⟨o2,v2,f⟩:=b;have c:Hid (B_ w ((w.alloc (.cells #[.string ⟨o1.toArray⟩,.int .i64 v1,.int .i64 e] 74)).alloc (.cells #[.string ⟨o2.toArray⟩,.int .i64 v2,.int .i64 f] 74))):=hid ((aa _ _ _).trans (aa _ _ _));unfold jT at h;dsimp only at h
 by_cases h9:f=9
 .rw[if_pos h9]at h;subst h9;have d:=hid (pM o1 o2);have m:=hid (pM o2 o1);have H:=hid h;clear h
  go_in
  go_wp2_with fail;refine(d.out _).mono ?_;rintro en w1 ⟨⟨q,rfl,i⟩,rfl⟩;have k:=hid i;clear i;go_wp2_with fail;refine(m.out _).mono ?_;rintro en w1 ⟨⟨r,rfl,j⟩,rfl⟩;have l:=hid j;clear j
  cases q with
  |true=>
   go_wp2_with fail
   all_goals go_ret
   all_goals exact⟨rfl,c.out⟩
  |false=>
   have g:r=true:=by
    obtain h|h:=H.out
    .exact absurd (k.out h) (by decide)
    .exact l.out h
   subst g;go_wp2_with fail
   all_goals go_ret
   all_goals exact⟨rfl,c.out⟩
 .rw[if_neg h9]at h;have p:((f:Int)==9)=false:=by rw[eu];omega
  by_cases h5:e=5
  .rw[if_pos h5]at h;subst h5;have d:=hid (nr o1 o2 h);clear h h9
   go_in
   go_wp2_with fail;refine(d.out _).mono ?_;rintro en w1 ⟨rfl,rfl⟩;go_wp2_with fail
   all_goals go_ret
   all_goals exact⟨rfl,c.out⟩
  .rw[if_neg h5]at h
   cases h
   have n:((e:Int)==5)=false:=by rw[eu];omega
   clear h5 h9
   go_in
   go_wp2_with fail
   all_goals go_ret
   all_goals exact⟨rfl,c.out⟩
theorem yc (a b:vR) (h:gv a b) (w:World):
  Calls prog 45 #[AS a,AS b] w λen w'=>en= .returned (.bool true)/\B_ w w':=by
 obtain⟨o1,v1,c⟩:=a;obtain⟨o2,v2,f⟩:=b;have d:Hid (B_ w ((w.alloc (.cells #[.string ⟨o1.toArray⟩,.int .i64 v1,.int .i64 c] 74)).alloc (.cells #[.string ⟨o2.toArray⟩,.int .i64 v2,.int .i64 f] 74))):=hid ((aa _ _ _).trans (aa _ _ _));unfold gv at h;dsimp only at h
 by_cases h9:c=9\/c=5
 .rw[if_pos h9]at h;have e:=hid (nr o1 o2 h);clear h;obtain rfl|rfl:=h9
  all_goals
   go_in
   go_wp2_with fail;refine(e.out _).mono ?_;rintro en w1 ⟨rfl,rfl⟩;go_wp2_with fail
   all_goals go_ret
   all_goals exact⟨rfl,d.out⟩
 .rw[if_neg h9]at h
  cases h
  have i:((c:Int)==9)=false:=by rw[eu];omega
  have g:((c:Int)==5)=false:=by rw[eu];omega
  clear h9
  go_in
  go_wp2_with fail
  all_goals go_ret
  all_goals exact⟨rfl,d.out⟩
def rH (b:Int):Bool:=decide (0<=b/\b<=499)
def yd (b:Int):Bool:=decide (0<=b/\b<=39)
theorem CF (b:Int) (w:World):Calls prog 42 #[.int .i64 b] w λen w'=>en= .returned (.bool (rH b))/\w'=w:=by
 obtain h|h:=Int.lt_or_le b 0
 .have e:rH b=false:=by simp[rH];omega
  rw[e]
  go_in
  go_wp2_with fail
  all_goals go_ret
  all_goals exact⟨rfl,rfl⟩
 .have e:rH b=decide (b<=499):=by simp[rH,h]
  rw[e]
  go_in
  go_wp2_with fail
  all_goals go_ret
  all_goals exact⟨rfl,rfl⟩
theorem D1 (b:Int) (w:World):Calls prog 44 #[.int .i64 b] w λen w'=>en= .returned (.bool (yd b))/\w'=w:=by
 obtain h|h:=Int.lt_or_le b 0
 .have e:yd b=false:=by simp[yd];omega
  rw[e]
  go_in
  go_wp2_with fail
  all_goals go_ret
  all_goals exact⟨rfl,rfl⟩
 .have e:yd b=decide (b<=39):=by simp[yd,h]
  rw[e]
  go_in
  go_wp2_with fail
  all_goals go_ret
  all_goals exact⟨rfl,rfl⟩
end
section
open Sp
noncomputable def ccB (b:Bod):List Ins:=open Classical in if h: ∃c,Cmp b.code 0 0 c b.code.length then Classical.choose h++ [⟨116,0,0,0⟩]else []
theorem uC {cs:List Cls} {gs:List Sig} {b:Bod} (h:ey cs gs b): ∃c,Cmp b.code 0 0 c b.code.length/\ccB b=c++ [⟨116,0,0,0⟩]:=by
 have a:=Et (t:=b.code) (λx a h0=>D6 (h.code x a) h0) b.code.length b.code (bP _) h.full 0 0 [] (by simp);exact⟨Classical.choose a,Classical.choose_spec a,by unfold ccB;rw[dif_pos a]⟩
theorem lj (x:Ins):(wI x).length<=3:=by
 unfold wI;rw[iU,aN]
 by_cases h1:gK x.op.toNat
 .have a: ¬jy x.op.toNat:=by unfold jy;unfold gK at h1;omega
  rw[if_pos h1,if_neg a]
  split<;>simp
 .rw[if_neg h1]
  split
  .simp
  split<;>simp
theorem fW (c d:List Ins):((c++d).flatMap wI).length=(c.flatMap wI).length+(d.flatMap wI).length:=by rw[List.flatMap_append,aN]
theorem eN (x:Ins) (d:List Ins):((x::d).flatMap wI).length=(wI x).length+(d.flatMap wI).length:=by rw[lr,aN]
theorem Cmp.bytes {t:List Ins} {i p z:Nat} {c:List Ins} (h:Cmp t i p c z):(c.flatMap wI).length<=9*z:=by
 have hl: ∀x,((dv x).flatMap wI).length<=6:=λx=>by
  unfold dv;have:=lj ⟨x.op,x.a,x.b,0⟩;have d:=lj k0X
  split
  .rw[eN,eN];simp at this⊢;omega
  .rw[eN];simp at this⊢;omega
 have f:=lj k0X
 induction h with
 |leaf hx h0 hl=>rename_i x;rw[eN];have:=lj (lfX x);simp;omega
 | @one i p x A z hx e hA ih=>rw[fW];have:=hl x;omega
 | @two i p x A B z y hx d h44 h111 hA hB ihA ihB=>rw[fW,fW];have:=hl x;omega
 |seq hx hc hA hB ihA ihB=>rw[fW,eN];have:=lj ⟨100,0,0,0⟩;omega
 | @cho i p x A B C z y v hx hc hA hB hC ihA ihB ihC=>
  rw[fW,eN,fW,eN];have:=lj ⟨102,0,p+A.length+1+B.length+1,0⟩;have:=lj ⟨106,0,p+A.length+1+B.length+1+C.length,0⟩;omega
 | @loo i p x A B z y hx hc hA hB ihA ihB=>
  rw[fW,eN,fW,eN,eN,eN];have:=lj ⟨102,0,p+A.length+1+B.length+2,0⟩;have:=lj ⟨106,0,p,0⟩;have e:(wI ⟨100,0,0,0⟩).length=1:=rfl;have d:(wI k0X).length=2:=rfl;simp at*;omega
theorem CG {im:Img} (hW:dN im) {b:Bod} (hb:b∈im.zj) (hR: ∀x∈b.code,xJ x):Dm ccB im.zq im.zx.length b/\(∀x∈ccB b,x.op.toNat=99-> ∃y∈b.code,y.op.toNat=99/\y.a=x.a/\y.b=x.b)/\(∀x∈ccB b,jy x.op.toNat->x.b<(ccB b).length)/\((ccB b).flatMap wI).length<=9*b.code.length+1:=by
 have i:=hW.bod b hb;obtain⟨c,hc,e⟩:=uC i;obtain⟨hl,m⟩:=hc.all;have s:=i.len;have z:=i.loc.1;have t:=hW.ns;have v:=hW.nc
 have p: ∀a,bB im.zq a<=8:=λa=>by
  unfold bB
  cases f:im.zq[a]? with
  |none=>simp
  |some k=>
   have:=(hW.cls a k f).2.2.1;have:=(bc f).1;simp;omega
 have f: ∀x∈c++ [(⟨116,0,0,0⟩:Ins)],WfR im.zq im.zx.length b.zy.length x/\(x.op.toNat=99-> ∃y∈b.code,y.op.toNat=99/\y.a=x.a/\y.b=x.b)/\(jy x.op.toNat->x.b<c.length+1):=by
  intro x f
  have d: ∀(o n:Nat),o<256->cE.contains o=true-> ¬gK o->(iv o->o=107/\n<10)-> ¬jy o->(¬iv o->n=0)->x=⟨UInt8.ofNat o,0,n,0⟩->WfR im.zq im.zx.length b.zy.length x/\(x.op.toNat=99-> ∃y∈b.code,y.op.toNat=99/\y.a=x.a/\y.b=x.b)/\(jy x.op.toNat->x.b<c.length+1):=λo n q g1 g2 g3 g4 g5 ex=>by
   have eo:x.op.toNat=o:=by rw[ex];simp;omega
   have ea:x.a=0:=by rw[ex]
   have eb:x.b=n:=by rw[ex]
   refine⟨⟨eo▸g1,λh=>absurd (eo▸h) g2,λ_=>ea,λh=> ?_,λh=> ?_,λh=> ?_,λh=> ?_,λh=>absurd (eo▸h) g4,λh _=>by rw[eb];exact g5 (eo▸h)⟩,λh=> ?_,λh=>absurd (eo▸h) g4⟩
   .exact absurd (show gK o by unfold gK;omega) g2
   .exact absurd (show gK o by unfold gK;omega) g2
   .have:=(g3 (by unfold iv;omega)).1;omega
   .rw[eb];exact(g3 (eo▸h)).2
   .exact absurd (show gK o by unfold gK;omega) g2
  have g: ∀y∈b.code,x=⟨y.op,y.a,y.b,0⟩->cE.contains y.op.toNat=true->aQ y.op=false-> ¬jy y.op.toNat->y.op.toNat≠107->WfR im.zq im.zx.length b.zy.length x/\(x.op.toNat=99-> ∃y∈b.code,y.op.toNat=99/\y.a=x.a/\y.b=x.b)/\(jy x.op.toNat->x.b<c.length+1):=λy hy ex g1 g2 g3 g4=>by
   have hw:=i.code y hy;have r:=hR y hy;subst ex;refine⟨⟨g1,hw.cls,r.nocls,hw.fld,hw.sig,hw.loc,λh=> ?_,λh=>absurd h g3,λh _=>r.nonum g2 h⟩,λh=>⟨y,hy,h,rfl,rfl⟩,λh=>absurd h g3⟩
   show y.b<10
   have h':iv y.op.toNat:=h;unfold iv at h'
   by_cases k1:y.op.toNat=108\/y.op.toNat=115
   .have:=hw.loc k1;omega
   by_cases k2:y.op.toNat=103\/y.op.toNat=112
   .have:=hw.fld k2;have:=p y.a;omega
   .have:=hw.sig (by omega);omega
  obtain f|f:=gz f
  .obtain h|h| ⟨y,hy,h,h0⟩ | ⟨y,hy,h,h12⟩ | ⟨h,ha,hb'⟩:=m x f
   .exact d 107 0 (by omega) (by decide) (by decide) (λ_=>⟨rfl,by omega⟩) (by decide) (λ_=>rfl) h
   .exact d 100 0 (by omega) (by decide) (by decide) nofun (by decide) (λ_=>rfl) h
   .obtain j|hl:=D6 (i.code y hy) h0
    .refine d 107 y.b (by omega) (by decide) (by decide) (λ_=>⟨rfl,(hR y hy).dig j⟩) (by decide) (λh=>absurd (by unfold iv;omega) h) ?_;rw[h];simp[lfX,j]
    .have j:aQ y.op=false:=by
      simp only[aQ,Bool.and_eq_false_iff,decide_eq_false_iff_not];omega
     refine g y hy (by rw[h];simp[lfX,j]) ?_ j (by unfold jy;omega) (by omega);obtain hl|hl|hl|hl:=hl<;>rw[hl]<;>decide
   .have q:cE.contains y.op.toNat=true/\57<y.op.toNat\/cE.contains y.op.toNat=true/\y.op.toNat<48:=by
     obtain h1| ⟨h2,h44,h111⟩:=h12
     .obtain h|h|h|h:=qU h1<;>rw[h]<;>exact Or.inl (by decide)
     .obtain h|h|h|h|h|h:=ud h2
      .simp only[arith,List.contains_iff_mem,List.mem_cons,List.not_mem_nil,or_false]at h;obtain h|h|h|h|h|h:=h<;>rw[h]<;>first|exact Or.inl (by decide) |exact Or.inr (by decide)
      .rw[h];exact Or.inl (by decide)
      .rw[h];exact Or.inl (by decide)
      .rw[h];exact Or.inl (by decide)
      .exact absurd h h44
      .exact absurd h h111
    have l: ¬jy y.op.toNat/\y.op.toNat≠107:=by
     have:az y.op≠0:=by rcases h12 with h|h<;>omega
     refine⟨λhj=> ?_,λhj=> ?_⟩
     .unfold jy at hj;obtain hj|hj:=hj<;>exact this (by simp[az,hj])
     .exact this (by simp[az,hj])
    refine g y hy h (by rcases q with h|h<;>exact h.1) (by simp only[aQ,Bool.and_eq_false_iff,decide_eq_false_iff_not];omega) l.1 l.2
   .have eo:x.op.toNat=102\/x.op.toNat=106:=by rcases h with h|h<;>rw[h]<;>decide
    refine⟨⟨by rcases eo with h|h<;>rw[h]<;>decide,λh=> ?_,λ_=>ha,λh=> ?_,λh=> ?_,λh=> ?_,λh=> ?_,λ_=>by omega,λ_ h=>absurd (show jy x.op.toNat by unfold jy;omega) h⟩,λh=> ?_,λ_=>by omega⟩
    .unfold gK at h;omega
    .omega
    .omega
    .omega
    .unfold iv at h;omega
    .omega
  .rw[List.mem_singleton]at f;exact d 116 0 (by omega) (by decide) (by decide) nofun (by decide) (λ_=>rfl) f
 rw[e];refine⟨⟨λx h=>(f x (e▸h)).1,by rw[e];simp;omega⟩,λx h=>(f x h).2.1,λx h h'=>by have:=(f x h).2.2 h';simpa using this,?_⟩;rw[fW];have:=hc.bytes;have:(([⟨116,0,0,0⟩]:List Ins).flatMap wI).length=1:=rfl;omega
theorem CH: ∀(new acc:List Cls),(∀c∈new,c.fields.length<=8)->(wC acc new).length<=10*new.length
 | [],acc,_=>by simp[wC]
 |c::new,acc,h=>by
  have:=CH new (acc++ [c]) (λc' h'=>h c' (by simp[h']));have:=h c (by simp);unfold wC;simp only[iU,aN,List.length_drop];omega
theorem te {im:Img}: ∀(bs:List Bod) (i:Nat),(∀b∈bs,∃t,gD im b=some t)-> ∃T,gY im i bs= .ok T
 | [],i,_=>⟨[],rfl⟩
 |b::bs,i,h=>by
  obtain⟨t,ht⟩:=h b (by simp);obtain⟨T,a⟩:=te bs (i+1) (λb' h'=>h b' (by simp[h']));exact⟨t::T,by rw[gY,ht];dsimp only;rw[a]⟩
theorem nt {s:ByteArray} {im:Img} (h:cO s= .ok im):s.size<=400/\dH s= .ok im:=by
 unfold cO at h
 split at h
 .cases h
 .rename_i h0
  split at h
  .cases h
  .rename_i im' hr
   split at h
   .cases h
   .cases h;exact⟨by omega,hr⟩
noncomputable def uD (im:Img):ByteArray:=⟨(qY ccB im).toArray⟩
theorem rI {s:ByteArray} {im:Img} (hl:cO s= .ok im) (h0:(dA s).1=0):(∃im' T,gQ (uD im)= .ok im'/\gY im' 0 im'.zj= .ok T/\oe im im'/\im'.zj.length=im.zj.length)/\(qY ccB im).length<=2000:=by
 obtain⟨Z,D⟩:=nt hl;have z:=kt (by omega) hl h0;have h:=z.wf;obtain⟨L,⟨side,mb,P,M,O⟩,_⟩:=oo D;have d:=λb hb=>CG h (b:=b) hb (L b hb)
 have k:(qY ccB im).length<=2000:=by
  unfold qY
  have k1:=CH im.zq [] (λc hc=>by
   obtain⟨j,C⟩:=List.getElem?_of_mem hc;have:=(h.cls j c C).2.2.1;have:=(bc C).1;have:=h.nc;omega)
  have k2:=yo (f:=wS) (m:=3) (t:=im.zx) (λg _=>bP 3)
  have k3:=yo (f:=wX ccB) (m:=240) (t:=im.zj) (λb hb=>by
   have S:=(d b hb).2.2.2;have X:=(h.bod b hb).len;have Y:=(h.bod b hb).loc.1;unfold wX wM wB
   split<;>simp only[iU,aN,List.length_nil,List.length_drop]<;>omega)
  have:=h.nc;have:=h.ns;have:=h.nb;simp only[iU,aN];omega
 refine⟨?_,k⟩
 obtain⟨im',I,l,B,n⟩:=Do D (cc:=ccB) (λb hb=>(d b hb).1) k (λb hb x hx hx9=>by
  obtain⟨y,Q,E,F,G⟩:=(d b hb).2.1 x hx hx9;have:=z.lk b hb y Q E
  rwa [F,G]at this) (λb hb=>(d b hb).2.2.1)
 have A: ∃T,gY im' 0 im'.zj= .ok T:=by
  refine te _ _ (λb' hb'=> ?_);obtain⟨q,r⟩:=List.getElem?_of_mem hb';have v:q<im.zj.length:=by rw[<-n.1];exact(bc r).1
  obtain⟨b2,e,hrel⟩:=n.2 q _ (aG v);rw[r]at e
  cases e
  have hm:=bD v;have p:=h.bod _ hm;obtain⟨c,hc,ec⟩:=uC p;have ht:=z.ty _ hm;unfold dt at ht
  cases hty:bX im.zq im.zx (im.zj[q]).zy (im.zj[q]).code (im.zj[q]).code.length 0 with
  |none=>rw[hty]at ht;cases ht
  |some ty=>
   rw[hty]at ht;dsimp only at ht;have a:=hrel.code;have i:=hrel.len;rw[ec]at a i
   obtain⟨H,J⟩:=Ad (im':=im') (by rw[l];exact h.cls) hrel.loc hrel.cls hrel.meth (λu hu=>by
    have:=p.loc.2 u hu;simp only[cw,aK,Bool.or_eq_true,dk,dg]at this;omega) hc a (by simpa using i) (by rw[l,B];exact hty) (by rw[l,B];exact ht)
   obtain⟨t,ht,_⟩:=tr (by rw[l];exact h.cls) J;exact⟨t,ht⟩
 obtain⟨T,A⟩:=A;refine⟨im',T,I,A,⟨l,λm f c=>by rw[l];exact o9 n _ m f c,λq b r=> ?_⟩,n.1⟩;obtain⟨b',e,hrel⟩:=n.2 q b r;have p:=h.bod b (bn r);obtain⟨c,hc,ec⟩:=uC p;have a:=hrel.code;rw[ec]at a;exact⟨b',c,_,e,hrel.loc,hc,p.len,a⟩
theorem yJ {s:ByteArray} {im:Img} (hl:cO s= .ok im) (h0:(dA s).1=0): ∃mb,im.zj[im.zj.length-1]?=some mb/\ ∀(inp:ByteArray) (f:Nat),f<=4000-> ∀o,bY im inp f mb 1 0 (aL mb []) ⟨[],0,f,[]⟩≠ .bad 0 o:=by
 obtain⟨j,e⟩:=nt hl;have b:=kt (by omega) hl h0;obtain⟨i,⟨side,mb,c,d,g⟩,_⟩:=oo e;have hm:im.zj[im.zj.length-1]?=some mb:=by rw[c];simp
 refine⟨mb,hm,λinp f hf o h=> ?_⟩;have a:=bn hm;have ht:=b.ty _ a;unfold dt at ht
 cases hty:bX im.zq im.zx mb.zy mb.code mb.code.length 0 with
 |none=>rw[hty]at ht;cases ht
 |some ty=>
  have:=iK b inp f 88000 mb 1 0 (aL mb []) ⟨[],0,f,[]⟩ ty _ a hty (yC b a) (sV im hf) (bP _);rw[h]at this;have:=this.1;omega
theorem yK {s inp:ByteArray} {im:Img} {fuel:Int} (hl:cO s= .ok im) (h0:(dA s).1=0) (he:(gU s inp fuel).2.2≠1):gU s inp fuel=mL im inp fuel.toNat:=by
 unfold gU at he⊢
 split at he
 .exact absurd rfl he
 .rename_i h
  rw[if_neg h,hl];dsimp only;rw[if_pos h0]
theorem CI {s inp:ByteArray} {im:Img} {T:dC} {cells fuel:Int} (hl:gQ s= .ok im) (hT:gY im 0 im.zj= .ok T) (he:(kW s inp cells fuel).2.2≠1):kW s inp cells fuel=qj im inp T cells.toNat fuel.toNat:=by
 unfold kW at he⊢
 split at he
 .exact absurd rfl he
 .rename_i h
  rw[if_neg h,hl];dsimp only;rw[hT]
theorem D2 {s:ByteArray} {im:Img} (hl:cO s= .ok im) (h0:(dA s).1=0) (inp:ByteArray) (cells B:Int) (hB:0<=B) (h8:8*B+8<=4000) (he:(gU s inp B).2.2≠1) (hr:(kW (uD im) inp cells (8*B+8)).2.2≠1):jT (gU s inp B) (kW (uD im) inp cells (8*B+8)):=by
 obtain⟨⟨im',T,a,b,c,d⟩,_⟩:=rI hl h0;obtain⟨mb,hm,e⟩:=yJ hl h0;rw[yK hl h0 he,CI a b hr,show(8*B+8).toNat=8*B.toNat+8 from by omega];exact Dg c d hm _ (e inp _ (by omega))
theorem CJ {s:ByteArray} {im:Img} (hl:cO s= .ok im) (h0:(dA s).1=0) (inp:ByteArray) (cells B:Int) (hB:0<=B) (h8:100*B+100<=4000) (hr:(kW (uD im) inp cells B).2.2≠1) (he:(gU s inp (100*B+100)).2.2≠1):gv (kW (uD im) inp cells B) (gU s inp (100*B+100)):=by
 obtain⟨⟨im',T,a,b,c,d⟩,_⟩:=rI hl h0;obtain⟨mb,hm,e⟩:=yJ hl h0;rw[yK hl h0 he,CI a b hr,show(100*B+100).toNat=100*B.toNat+100 from by omega];exact B2 c d hm _ (e inp _ (by omega))
end
section
open Go Sp
theorem Cmp.lt {t:List Ins} {i p z:Nat} {c:List Ins} (h:Cmp t i p c z):i<t.length/\0<z:=by
 cases h<;>exact⟨(bc ‹t[i]?=some _›).1,by omega⟩
theorem rJ (X Y:List XIt) (x:XIt):aimX X.length (X++x::Y)=X++{x with num:=(X++x::Y).length}::Y:=by
 unfold aimX;rw[f8 (bP _),Nat.sub_self];simp
theorem ET {c:UInt8} (h:aQ c=true):az c=0:=by
 simp only[aQ,dk,dg]at h;unfold az;rw[if_neg (by omega),if_neg (by simp only[List.contains_iff_mem,List.mem_cons,List.not_mem_nil,or_false];omega),if_neg (by simp only[List.contains_iff_mem,List.mem_cons,List.not_mem_nil,or_false];omega)]
theorem kL {x:Ins} (h:az x.op≠0):co x=cB x:=by
 unfold co;rw[if_neg (λhd=>h (ET hd))]
theorem rK (x:Ins):ir (cB x)=(dv x).map cB:=by
 unfold ir dv;rw[List.map_cons]
 congr 1
 show(if x.op.toNat=115\/x.op.toNat=112\/x.op.toNat=119 then [df 107]else [])=_
 split<;>rfl
theorem Cmp.prog {t:List Ins} {i p z:Nat} {c:List Ins} (h:Cmp t i p c z): ∀(f:Nat) (l:List XIt),z<=f->l.length=p->jh t f i l=l++c.map cB:=by
 have key: ∀{i f:Nat} {x:Ins},t[i]?=some x-> ∀k l,gM t f i k l=match(de t (az x.op) (i+1))[k]? with
   |some i=>jh t f i l
   |none=>l:=λ{i f x} hx k l=>by
  unfold gM eK;rw[hx]
  rfl
 induction h with
 | @leaf i p x hx h0 hl=>
  intro f l s hp;obtain⟨f,rfl⟩: ∃g,f=g+1:=⟨f-1,by omega⟩;have H: ∀k l,gM t f i k l=l:=λk l=>by rw[key hx,h0];rfl
  rw[jB hx]
  have n:(co x).op.toNat≠44/\(co x).op.toNat≠105/\(co x).op.toNat≠111/\ir (co x)=[cB (lfX x)]:=by
   by_cases hd:aQ x.op=true
   .have e:co x=⟨x.pos,107,45,x.b,none,0,0⟩:=by unfold co;rw[if_pos hd]
    have q:lfX x=⟨107,0,x.b,0⟩:=by unfold lfX;rw[if_pos hd]
    rw[e,q];exact⟨by show(107:UInt8).toNat≠44;decide,by show(107:UInt8).toNat≠105;decide,by show(107:UInt8).toNat≠111;decide,rfl⟩
   .have e:co x=cB x:=by unfold co;rw[if_neg hd]
    have q:lfX x=⟨x.op,x.a,x.b,0⟩:=by unfold lfX;rw[if_neg hd]
    have hl:x.op.toNat=114\/x.op.toNat=122\/x.op.toNat=108\/x.op.toNat=110:=by rcases hl with h|h<;>first|exact absurd h hd|exact h
    rw[e,q,rK];refine⟨?_,?_,?_,?_⟩
    .show x.op.toNat≠44;omega
    .show x.op.toNat≠105;omega
    .show x.op.toNat≠111;omega
    .unfold dv;rw[if_neg (by omega)];rfl
  unfold jA;rw[if_neg n.1,if_neg n.2.1,if_neg n.2.2.1,H,H,n.2.2.2]
  rfl
 | @one i p x A z hx h1 hA ih=>
  intro f l s hp;obtain⟨f,rfl⟩: ∃g,f=g+1:=⟨f-1,by omega⟩;have d:gM t f i 0 l=l++A.map cB:=by rw[key hx,h1,de,if_pos hA.lt.1];exact ih f l (by omega) hp
  have j: ∀l,gM t f i 1 l=l:=λl=>by rw[key hx,h1,de,if_pos hA.lt.1];rfl
  have J:=qU h1;rw[jB hx,kL (by omega)];unfold jA;rw[if_neg (by show¬x.op.toNat=44;omega),if_neg (by show¬x.op.toNat=105;omega),if_neg (by show¬x.op.toNat=111;omega),j,d,rK,List.map_append,ky]
 | @two i p x A B z y hx m h44 h111 hA hB ihA ihB=>
  intro f l s hp;obtain⟨f,rfl⟩: ∃g,f=g+1:=⟨f-1,by omega⟩;have d:gM t f i 0 l=l++A.map cB:=by rw[key hx,m,de,if_pos hA.lt.1];exact ihA f l (by omega) hp
  have j: ∀l,l.length=p+A.length->gM t f i 1 l=l++B.map cB:=λl hl=>by rw[key hx,m,de,if_pos hA.lt.1,de,if_pos hB.lt.1];exact ihB f l (by omega) hl
  have r:x.op.toNat≠105:=λh=>by simp[az,h]at m
  rw[jB hx,kL (by omega)];unfold jA;rw[if_neg (show¬(cB x).op.toNat=44 from h44),if_neg (show¬(cB x).op.toNat=105 from r),if_neg (show¬(cB x).op.toNat=111 from h111),d,j _ (by simp;omega),rK];simp
 | @seq i p x A B z y hx hc hA hB ihA ihB=>
  intro f l s hp;obtain⟨f,rfl⟩: ∃g,f=g+1:=⟨f-1,by omega⟩;have m:az x.op=2:=by simp[az,hc]
  have d:gM t f i 0 l=l++A.map cB:=by rw[key hx,m,de,if_pos hA.lt.1];exact ihA f l (by omega) hp
  have j: ∀l,l.length=p+A.length+1->gM t f i 1 l=l++B.map cB:=λl hl=>by rw[key hx,m,de,if_pos hA.lt.1,de,if_pos hB.lt.1];exact ihB f l (by omega) hl
  rw[jB hx,kL (by omega)];unfold jA;rw[if_pos (show(cB x).op.toNat=44 from hc),d,j _ (by simp;omega)];simp[cB,df]
 | @cho i p x A B C z y v hx hc hA hB hC ihA ihB ihC=>
  intro f l s hp;obtain⟨f,rfl⟩: ∃g,f=g+1:=⟨f-1,by omega⟩;have E:az x.op=3:=by simp[az,hc]
  have d:gM t f i 0 l=l++A.map cB:=by rw[key hx,E,de,if_pos hA.lt.1];exact ihA f l (by omega) hp
  have j: ∀l,l.length=p+A.length+1->gM t f i 1 l=l++B.map cB:=λl hl=>by rw[key hx,E,de,if_pos hA.lt.1,de,if_pos hB.lt.1];exact ihB f l (by omega) hl
  have F: ∀l,l.length=p+A.length+1+B.length+1->gM t f i 2 l=l++C.map cB:=λl hl=>by rw[key hx,E,de,if_pos hA.lt.1,de,if_pos hB.lt.1,de,if_pos hC.lt.1];exact ihC f l (by omega) hl
  rw[jB hx,kL (by omega)];unfold jA;rw[if_neg (show¬(cB x).op.toNat=44 from by show¬x.op.toNat=44;omega),if_pos (show(cB x).op.toNat=105 from hc)];unfold kw;rw[d,j _ (by simp;omega)];have D:l++A.map cB++ [df 102]++B.map cB++ [df 106]=(l++A.map cB)++df 102::(B.map cB++ [df 106]):=by simp
  rw[D,rJ];generalize G:({df 102 with num:=((l++A.map cB)++df 102::(B.map cB++ [df 106])).length}:XIt)=f1;rw[F _ (by simp;omega)];have q:(l++A.map cB)++f1::(B.map cB++ [df 106])++C.map cB=(l++A.map cB++f1::B.map cB)++df 106::C.map cB:=by simp
  have I:(l++A.map cB++ [df 102]++B.map cB).length=(l++A.map cB++f1::B.map cB).length:=by simp
  rw[q,I,rJ,<-G];simp[cB,df];omega
 | @loo i p x A B z y hx hc hA hB ihA ihB=>
  intro f l s hp;obtain⟨f,rfl⟩: ∃g,f=g+1:=⟨f-1,by omega⟩;have m:az x.op=2:=by simp[az,hc]
  have d:gM t f i 0 l=l++A.map cB:=by rw[key hx,m,de,if_pos hA.lt.1];exact ihA f l (by omega) hp
  have j: ∀l,l.length=p+A.length+1->gM t f i 1 l=l++B.map cB:=λl hl=>by rw[key hx,m,de,if_pos hA.lt.1,de,if_pos hB.lt.1];exact ihB f l (by omega) hl
  rw[jB hx,kL (by omega)];unfold jA;rw[if_neg (show¬(cB x).op.toNat=44 from by show¬x.op.toNat=44;omega),if_neg (show¬(cB x).op.toNat=105 from by show¬x.op.toNat=105;omega),if_pos (show(cB x).op.toNat=111 from hc)];unfold oF;rw[d,j _ (by simp;omega)];have D:l++A.map cB++ [df 102]++B.map cB++ [df 100]++ [⟨0,106,45,l.length,none,0,0⟩]=(l++A.map cB)++df 102::(B.map cB++ [df 100,⟨0,106,45,l.length,none,0,0⟩]):=by simp
  rw[D,rJ];simp[cB,df,k0X];omega
theorem wH {n:Nat} (h:n<10):Lib.itoa (n:Int)=[rX n]:=by
 unfold Lib.itoa;rw[if_neg (by omega),jZ,Lib.decDigits_one h]
 rfl
theorem EU {cs:List Cls} {ns nl:Nat} {x:Ins} (h:WfR cs ns nl x):wIx (cB x)=wI x:=by
 unfold wIx wI cB bQ;dsimp only
 congr 1
 by_cases hc:gK x.op.toNat
 .simp only[if_pos hc]
  by_cases hn:iv x.op.toNat
  .simp only[if_pos hn,wH (h.num hn)]
  .have a: ¬jy x.op.toNat:=by unfold jy;unfold gK at hc;omega
   simp only[if_neg hn,if_neg a]
 .simp only[if_neg hc]
  by_cases hn:iv x.op.toNat
  .simp only[if_pos hn,wH (h.num hn)]
  .by_cases a:jy x.op.toNat
   .have:=h.jmp a;simp only[if_neg hn,if_pos a];rw[wH (by omega),wH (by omega)]
    rfl
   .simp only[if_neg hn,if_neg a]
theorem yL {cs:List Cls} {ns nl:Nat}: ∀{c:List Ins},(∀x∈c,WfR cs ns nl x)->(c.map cB).flatMap wIx=c.flatMap wI
 | [],_=>rfl
 |x::c,h=>by rw[List.map_cons,lr,lr,EU (h x (by simp)),yL (λy hy=>h y (by simp[hy]))]
theorem CK {cs:List Cls} (hw:WfC cs) (h4:cs.length<=4): ∀(new acc:List Cls),cs=acc++new->(new.map toX).flatMap (wCx (cs.map toX))=wC acc new
 | [],acc,_=>rfl
 |c::new,acc,h=>by
  have hc:cs[acc.length]?=some c:=by rw[h];simp
  have hp:=hw _ _ hc;have hl:acc.length<cs.length:=(bc hc).1;rw[List.map_cons,lr,CK hw h4 new (acc++ [c]) (by rw[h];simp),wC]
  have e:(cD (cs.map toX) (toX c).par).length=(inh acc c.par).length:=by
   unfold cD inh toX;dsimp only
   by_cases h0:c.par<0
   .rw[if_pos h0,if_pos h0]
    rfl
   .rw[if_neg h0,if_neg h0];have et:(UInt8.ofNat (65+c.par.toNat)).toNat=65+c.par.toNat:=by simp;omega
    rw[if_pos (by unfold aK;rw[et];simp;omega),et,Nat.add_sub_cancel_left,cV,h,dy (by omega)]
    cases acc[c.par.toNat]?<;>rfl
  unfold wCx;rw[e];simp[toX,bQ]
theorem CL {s:ByteArray} {im:Img} (hr:dH s= .ok im) (hW:dN im):wAx im=qY ccB im:=by
 obtain⟨g,_,_⟩:=oo hr
 have f:im.zj.flatMap wDx=im.zj.flatMap (wX ccB):=by
  have: ∀bs:List Bod,(∀b∈bs,b∈im.zj)->bs.flatMap wDx=bs.flatMap (wX ccB):=λbs=>by
   induction bs with
   |nil=>intro _;rfl
   |cons b bs ih=>
    intro h;rw[lr,lr,ih (λb' h'=>h b' (by simp[h']))]
    congr 1
    have e:=h b (by simp);have a:=hW.bod b e;obtain⟨c,hc,ec⟩:=uC a;have d:=CG hW e (g b e);have i:jh b.code 24 0 []++ [df 116]=(ccB b).map cB:=by rw[hc.prog 24 [] a.len rfl,ec,List.map_append];rfl
    unfold wDx wHd wX wM wB;rw[i,yL d.1.ins];have:=hW.ns;obtain h0|h0:=a.cls
    .rw[if_pos (by omega),if_pos (by omega)];rfl
    .rw[if_neg (by omega),if_neg (by omega),wH (by omega)];simp[bQ]
  exact this _ (λ_ h=>h)
 unfold wAx qY wBx;rw[f,CK hW.cls hW.nc im.zq [] rfl];simp[wS,wSx]
 rfl
end
section
open Go Go.RowKit Sp
attribute [local go_sem ↓] eY eZ
abbrev opP (kd a b c:Int) (s t u:ByteArray):Obj:= .cells #[.int .i64 kd,.int .i64 a,.int .i64 b,.int .i64 c,.string s,.string t,.string u] 27
theorem wJ {w:World} {g:Nat} {v0 v1 v2 v3 v4 v5 v6:Value} {t:TypeId} (h:w.heap[g]?=some (.cells #[v0,v1,v2,v3,v4,v5,v6] t)):w.cell? ⟨g,1,none⟩=some v1/\w.cell? ⟨g,2,none⟩=some v2/\w.cell? ⟨g,3,none⟩=some v3/\w.cell? ⟨g,4,none⟩=some v4/\w.cell? ⟨g,5,none⟩=some v5/\g<w.heap.size:=⟨ce1 h,ce2 h,ce3 h,ce4 h,ce5 h,ae h⟩
theorem CM (kd a b c:Int) (code s t u:ByteArray) (w:World) (ht:iM w) (hm:s.size<=maxLen) (hc:code.size<=maxLen)
  (v:0<=b->b<=499->(gU s t b).2.2≠1->(kW code t a (8*b+8)).2.2≠1->jT (gU s t b) (kW code t a (8*b+8)))
  (x:0<=b->b<=39->(kW code t a b).2.2≠1->(gU s t (100*b+100)).2.2≠1->gv (kW code t a b) (gU s t (100*b+100))):
  Calls prog 75 #[.string code,.agg #[.int .i64 kd,.int .i64 a,.int .i64 b,.int .i64 c,.string s,.string t,.string u]] w λen w'=>en= .returned (.bool true)/\B_ w w':=by
 have HT:=hid ht;have p:=hid (aO w (opP kd a b c s t u));have l:Hid (B_ w (w.alloc (opP kd a b c s t u))):=hid (aa _ _ _);clear ht
 go_in
 go_wp2_with fail;refine(CF b _).mono ?_;rintro en w1 ⟨rfl,rfl⟩;generalize H:rH b=q
 go_upto_if 20 with fail
 go_cut [3]from 18 (λs3 wc=>s3= .pointer (some ⟨w.heap.size,0,none⟩)/\B_ w wc/\wc.heap[w.heap.size]?=some (opP kd a b c s t u))
 case first=>
  cases q with
  |true=>
   have hn:0<=b/\b<=499:=by simpa[rH]using H
   have Y:=dc (8*b) (by omega) (by omega);have S:=dc (8*b+8) (by omega) (by omega);have m:=hid (λw1 h=>sW s t b w1 hm (HT.out.but h));have n:=hid (λw1 h=>wE code t a (8*b+8) w1 hc (HT.out.but h));replace v:=v hn.1 hn.2;obtain⟨R1,L⟩: ∃R1,gU s t b=R1:=⟨_,rfl⟩;obtain⟨z,M⟩: ∃z,kW code t a (8*b+8)=z:=⟨_,rfl⟩;rw[L]at m v;rw[M]at n v;obtain⟨o1,v1,A⟩:=R1;obtain⟨o2,v2,B⟩:=z;dsimp only at m n v;have I:=hid v;clear hn H L M v x;obtain⟨k1,k2,E,F,G,g⟩:=wJ p.out;go_wp2_with fail;refine(m.out _ l.out).mono ?_;rintro en w1 ⟨rfl,f⟩;have k:=f.kp p.out;have e:=hid (l.out.trans f);clear p l f m k1 k2 E F G g
   obtain⟨k1,k2,E,F,G,g⟩:=wJ k;go_wp2_with fail;refine(n.out _ e.out).mono ?_;rintro en T ⟨rfl,i⟩;have r:=hid (i.kp k);have d:=hid (e.out.trans i);clear k e i n k1 k2 E F G g
   by_cases g1:A=1
   .have C:((A:Int)!=1)=false:=by rw[g1];rfl
    go_wp2_with fail
    go_meet
    case rel=>exact⟨rfl,d.out,r.out⟩
   have C:((A:Int)!=1)=true:=by rw[bne_iff_ne];omega
   by_cases g2:B=1
   .have D:((B:Int)!=1)=false:=by rw[g2];rfl
    go_wp2_with fail
    go_meet
    case rel=>exact⟨rfl,d.out,r.out⟩
   have D:((B:Int)!=1)=true:=by rw[bne_iff_ne];omega
   have J:=hid (AT _ _ (I.out g1 g2));dsimp only[AS]at J;clear I g1 g2;go_wp2_with fail;refine(J.out _).mono ?_;rintro en X ⟨rfl,j⟩;have Q:=hid (j.kp r.out);have y:=hid (d.out.trans j);clear j r d;go_wp2_with fail
   go_meet
   case rel=>exact⟨rfl,y.out,Q.out⟩
  |false=>
   go_wp2_with fail
   go_meet
   case rel=>exact⟨rfl,l.out,p.out⟩
 case rest=>
  obtain⟨rfl,O,P⟩:=hcut;clear p l v;have l:=hid O;have p:=hid P;clear O P;obtain⟨k1,k2,E,F,G,g⟩:=wJ p.out;go_wp2_with fail;refine(D1 b _).mono ?_;rintro en w1 ⟨rfl,rfl⟩;clear H;generalize H:yd b=q
  cases q with
  |true=>
   have hn:0<=b/\b<=39:=by simpa[yd]using H
   have Y:=dc (100*b) (by omega) (by omega);have S:=dc (100*b+100) (by omega) (by omega);have m:=hid (λw1 h=>wE code t a b w1 hc (HT.out.but h));have n:=hid (λw1 h=>sW s t (100*b+100) w1 hm (HT.out.but h));replace x:=x hn.1 hn.2;obtain⟨R1,L⟩: ∃R1,kW code t a b=R1:=⟨_,rfl⟩;obtain⟨z,M⟩: ∃z,gU s t (100*b+100)=z:=⟨_,rfl⟩;rw[L]at m x;rw[M]at n x;obtain⟨o1,v1,A⟩:=R1;obtain⟨o2,v2,B⟩:=z;dsimp only at m n x;have I:=hid x;clear hn H L M x;go_wp2_with fail;refine(m.out _ l.out).mono ?_;rintro en T ⟨rfl,f⟩;have k:=f.kp p.out;have e:=hid (l.out.trans f);clear p l f m k1 k2 E F G g;obtain⟨k1,k2,E,F,G,g⟩:=wJ k
   go_wp2_with fail;refine(n.out _ e.out).mono ?_;rintro en X ⟨rfl,i⟩;have d:=hid (e.out.trans i);clear k e i n k1 k2 E F G g
   by_cases g1:A=1
   .have C:((A:Int)!=1)=false:=by rw[g1];rfl
    go_wp2_with fail
    all_goals go_ret
    all_goals exact⟨rfl,d.out⟩
   have C:((A:Int)!=1)=true:=by rw[bne_iff_ne];omega
   by_cases g2:B=1
   .have D:((B:Int)!=1)=false:=by rw[g2];rfl
    go_wp2_with fail
    all_goals go_ret
    all_goals exact⟨rfl,d.out⟩
   have D:((B:Int)!=1)=true:=by rw[bne_iff_ne];omega
   have J:=hid (yc _ _ (I.out g1 g2));dsimp only[AS]at J;clear I g1 g2;go_wp2_with fail;refine(J.out _).mono ?_;rintro en Z ⟨rfl,j⟩;have y:=hid (d.out.trans j);clear j d;go_wp2_with fail
   all_goals go_ret
   all_goals exact⟨rfl,y.out⟩
  |false=>
   go_wp2_with fail
   all_goals go_ret
   all_goals exact⟨rfl,l.out⟩
theorem ye {s r:ByteArray} {im:Img} (hl:cO s= .ok im) (h0:(dA s).1=0) (hr:r.data.toList=wAx im):r=uD im/\r.size<=2000/\(mY r).1=0:=by
 obtain⟨g,b⟩:=nt hl;have f:=(kt (by omega) hl h0).wf
 have e:r=uD im:=by
  unfold uD;rw[<-CL b f,<-hr]
 obtain⟨⟨im',T,c,d,_,_⟩,a⟩:=rI hl h0;refine⟨e,by rw[e];unfold uD;simpa[ByteArray.size]using a,?_⟩;rw[e];unfold mY;rw[c];dsimp only;rw[d]
theorem wK (kd a b c:Int) (s t u:ByteArray) (w:World) (ht:iM w) (hm:s.size<=maxLen):
  Calls prog 51 #[.agg #[.int .i64 kd,.int .i64 a,.int .i64 b,.int .i64 c,.string s,.string t,.string u]] w λen w'=>en= .returned (.bool true)/\B_ w w':=by
 have HT:=hid ht;have O:=hid (aO w (opP kd a b c s t u));have J:Hid (B_ w (w.alloc (opP kd a b c s t u))):=hid (aa _ _ _);have M:=hid (λw1 h=>uB s w1 hm (HT.out.but h));have H:=hid (λw1=>oU s w1 hm);obtain⟨E,S⟩: ∃E,(dA s).1=E:=⟨_,rfl⟩;obtain⟨P,hP⟩: ∃P,(dA s).2=P:=⟨_,rfl⟩;have y:=hid S;rw[S]at M H;rw[hP]at H;clear ht S hP;obtain⟨k1,k2,p,q,v,d⟩:=wJ O.out
 go_in
 go_wp2_with fail;refine(M.out _ J.out).mono ?_;rintro en w1 ⟨⟨r,rfl,C,D⟩,i⟩;have G:=hid (And.intro C D);have l:=i.kp O.out;have x:=hid (J.out.trans i);clear O J i M C D k1 k2 p q v d;obtain⟨k1,k2,p,q,v,d⟩:=wJ l;go_wp2_with fail;refine(H.out _).mono ?_;rintro en w2 ⟨rfl,j⟩;have e:=j.kp l;have f:=hid (x.out.trans j);clear l x j H k1 k2 p q v d;go_wp2_with fail;refine(CR _ _).mono ?_;rintro en w3 ⟨rfl,rfl⟩
 by_cases h0:E=0
 .subst h0;obtain⟨_,im,hl,I⟩:=G.out.1 rfl;obtain⟨T,F,B⟩:=ye hl y.out I;have n:r.size<=maxLen:=Nat.le_trans F (by decide)
  have HD:=hid (λw1 h=>CM kd a b c r s t u w1 (HT.out.but h) hm n
   (λh0 h8 g1 g2=>by rw[T]at g2⊢;exact D2 hl y.out t a b h0 (by omega) g1 g2)
   (λh0 h8 g1 g2=>by rw[T]at g1⊢;exact CJ hl y.out t a b h0 (by omega) g1 g2))
  have Q:=hid (λw1=>ze r w1 n);obtain⟨Z,A⟩: ∃Z,(mY r).2=Z:=⟨_,rfl⟩;rw[B,A]at Q;clear T B A I hl y G F n;obtain⟨k1,k2,p,q,v,d⟩:=wJ e;have X:=ce0 e;have Y:=ce6 e;go_wp2_with fail;refine(Q.out _).mono ?_;rintro en w4 ⟨rfl,k⟩;have m:=k.kp e;have g:=hid (f.out.trans k);clear e f k Q X k1 k2 p q v Y d;obtain⟨k1,k2,p,q,v,d⟩:=wJ m;have X:=ce0 m;have Y:=ce6 m;go_wp2_with fail;refine(HD.out _ g.out).mono ?_;rintro en w5 ⟨rfl,z⟩;have L:=hid (g.out.trans z);clear z g X k1 k2 p q v Y d;go_wp2_with fail
  all_goals go_ret
  all_goals exact⟨rfl,L.out⟩
 .have I:=G.out.2 h0;subst I;have e0:((E:Int)!=0)=true:=by rw[bne_iff_ne];omega
  clear G y;go_wp2_with fail
  all_goals go_ret
  all_goals exact⟨rfl,f.out⟩
theorem sc (a b c:Int) (s t u:ByteArray) (w:World) (htab:iM w) (hmax:s.size<=maxLen):
  Calls prog 27 #[.agg #[.int .i64 6,.int .i64 a,.int .i64 b,.int .i64 c,.string s,.string t,.string u]] w λen w'=>en= .returned (.bool true)/\B_ w w':=by
 have g:=hid (aO w (opP 6 a b c s t u));have e:Hid (B_ w (w.alloc (opP 6 a b c s t u))):=hid (aa _ _ _);have f:=hid (wK 6 a b c s t u _ (htab.but e.out) hmax);clear htab
 go_in
 go_wp2_with fail;refine f.out.mono ?_;rintro en w1 ⟨rfl,d⟩;have h:=e.out.trans d;clear d f e g;go_wp2_with fail
 all_goals go_ret
 all_goals exact⟨rfl,h⟩
theorem uE (ao:Option Addr) (n cap:Nat) (w:World) (htab:iM w) (hO:AY w ao n):
  Calls prog 13 #[.slice ao n cap] w λen w'=>en= .returned (.bool true)/\B_ w w':=by
 have a:=hid (wL iM (λ_ _ h hb=>h.but hb) 6 (λx y z s t u w h hm=>sc x y z s t u w h hm) ao n cap w htab hO);clear hO
 go_in
 go_wp2_with fail;refine a.out.mono ?_;rintro en w1 ⟨rfl,b⟩;go_wp2_with fail
 all_goals go_ret
 all_goals exact⟨rfl,b⟩
end
section
open Go
theorem uF {W:World} (h:laidMet prog Rows.compilesRow.laid W):iM W:=
 Lib.tabIs_of_head (rest:=[]) (g:=0) (t:=329) (e:=323) (n:=20) (by kernel_rfl) (by kernel_rfl) (by kernel_rfl) (by kernel_rfl) (by kernel_rfl) (by kernel_rfl) h.tail.tail
end
end Go.Proofs.YtpfkkmacakjmbaaGreatDoor
