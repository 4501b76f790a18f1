import Derived.Test.YtpfkkmacakjmbaaGreatDoorP16
import Derived.Test.YtpfkkmacakjmbaaGreatDoorP39
import Derived.Test.YtpfkkmacakjmbaaGreatDoorP37
import Derived.Test.YtpfkkmacakjmbaaGreatDoorRows
import Derived.Stop.LaidErr
set_option maxRecDepth 100000
set_option maxHeartbeats 6400000
set_option linter.all false
namespace Go.Proofs.YtpfkkmacakjmbaaGreatDoor
open Proofs.Tryz
section
open Go Go.RowKit Sp
attribute [local go_sem ↓] eF eG
theorem nj (x y:L_) (h:x<+:y) (w:World):
  Calls prog 68 #[.string ⟨x.toArray⟩,.string ⟨y.toArray⟩] w λen w'=>en= .returned (.bool true)/\w'=w:=by
 have hl:=h.length_le
 have b:(⟨y.toArray⟩:ByteArray).extract 0 x.length=⟨x.toArray⟩:=by
  obtain⟨t,rfl⟩:=h
  apply ByteArray.ext
  simp
 have c:(⟨x.toArray⟩:ByteArray).size=x.length:=by show x.toArray.size=_;simp
 have s2:(⟨y.toArray⟩:ByteArray).size=y.length:=by show y.toArray.size=_;simp
 have a:(x.length:Int)<=(y.length:Int):=by omega
 generalize (⟨x.toArray⟩:ByteArray)=X at*;generalize (⟨y.toArray⟩:ByteArray)=Y at*;clear h
 go_in
 go_wp2_with fail
 all_goals go_ret
 all_goals exact⟨rfl,rfl⟩
def F5 (P:Prop) (en:Ending):Prop:= ∃q,en= .returned (.bool q)/\(P->q=true)
theorem pB (x y:L_) (w:World):
  Calls prog 68 #[.string ⟨x.toArray⟩,.string ⟨y.toArray⟩] w λen w'=>F5 (x<+:y) en/\w'=w:=by
 by_cases h:x<+:y
 .refine(nj x y h w).mono ?_;rintro en w' ⟨rfl,rfl⟩;exact⟨⟨true,rfl,λ_=>rfl⟩,rfl⟩
 .have b:(⟨x.toArray⟩:ByteArray).size=x.length:=by show x.toArray.size=_;simp
  have s2:(⟨y.toArray⟩:ByteArray).size=y.length:=by show y.toArray.size=_;simp
  generalize (⟨x.toArray⟩:ByteArray)=X at*;generalize (⟨y.toArray⟩:ByteArray)=Y at*
  by_cases hl:(x.length:Int)<=(y.length:Int)
  .go_in
   go_wp2_with fail
   all_goals go_ret
   all_goals exact⟨⟨_,rfl,by intro a;first|exact absurd a h|exact a.elim⟩,rfl⟩
  .go_in
   go_wp2_with fail
   all_goals go_ret
   all_goals exact⟨⟨_,rfl,by intro a;first|exact absurd a h|exact a.elim⟩,rfl⟩
abbrev A7 (a:vr):Value:= .agg #[.string ⟨a.1.toArray⟩,.int .i64 a.2.1,.int .i64 a.2.2]
theorem A8 (a b:vr) (h:jZ a b) (w:World):
  Calls prog 43 #[A7 a,A7 b] w λen w'=>en= .returned (.bool true)/\B_ w w':=by
 obtain⟨o1,v1,e⟩:=a;obtain⟨o2,v2,f⟩:=b;have c:Hid (B_ w ((w.alloc (.cells #[.string ⟨o1.toArray⟩,.int .i64 v1,.int .i64 e] 74)).alloc (.cells #[.string ⟨o2.toArray⟩,.int .i64 v2,.int .i64 f] 74))):=hid ((ag _ _ _).trans (ag _ _ _));unfold jZ at h;dsimp only at h
 by_cases h9:f=9
 .rw[if_pos h9]at h;subst h9;have d:=hid (pB o1 o2);have m:=hid (pB o2 o1);have H:=hid h;clear h
  go_in
  go_wp2_with fail;refine(d.out _).mono ?_;rintro en w1 ⟨⟨q,rfl,i⟩,rfl⟩;have k:=hid i;clear i;go_wp2_with fail;refine(m.out _).mono ?_;rintro en w1 ⟨⟨r,rfl,j⟩,rfl⟩;have l:=hid j;clear j
  cases q with
  |true=>
   go_wp2_with fail
   all_goals go_ret
   all_goals exact⟨rfl,c.out⟩
  |false=>
   have g:r=true:=by
    obtain h|h:=H.out
    .exact absurd (k.out h) (by decide)
    .exact l.out h
   subst g;go_wp2_with fail
   all_goals go_ret
   all_goals exact⟨rfl,c.out⟩
 .rw[if_neg h9]at h;have p:((f:Int)==9)=false:=by rw[fh];omega
  by_cases h5:e=5
  .rw[if_pos h5]at h;subst h5;have d:=hid (nj o1 o2 h);clear h h9
   go_in
   go_wp2_with fail;refine(d.out _).mono ?_;rintro en w1 ⟨rfl,rfl⟩;go_wp2_with fail
   all_goals go_ret
   all_goals exact⟨rfl,c.out⟩
  .rw[if_neg h5]at h
   cases h
   have n:((e:Int)==5)=false:=by rw[fh];omega
   clear h5 h9
   go_in
   go_wp2_with fail
   all_goals go_ret
   all_goals exact⟨rfl,c.out⟩
theorem ym (a b:vr) (h:gS a b) (w:World):
  Calls prog 45 #[A7 a,A7 b] w λen w'=>en= .returned (.bool true)/\B_ w w':=by
 obtain⟨o1,v1,c⟩:=a;obtain⟨o2,v2,f⟩:=b;have d:Hid (B_ w ((w.alloc (.cells #[.string ⟨o1.toArray⟩,.int .i64 v1,.int .i64 c] 74)).alloc (.cells #[.string ⟨o2.toArray⟩,.int .i64 v2,.int .i64 f] 74))):=hid ((ag _ _ _).trans (ag _ _ _));unfold gS at h;dsimp only at h
 by_cases h9:c=9\/c=5
 .rw[if_pos h9]at h;have e:=hid (nj o1 o2 h);clear h;obtain rfl|rfl:=h9
  all_goals
   go_in
   go_wp2_with fail;refine(e.out _).mono ?_;rintro en w1 ⟨rfl,rfl⟩;go_wp2_with fail
   all_goals go_ret
   all_goals exact⟨rfl,d.out⟩
 .rw[if_neg h9]at h
  cases h
  have i:((c:Int)==9)=false:=by rw[fh];omega
  have g:((c:Int)==5)=false:=by rw[fh];omega
  clear h9
  go_in
  go_wp2_with fail
  all_goals go_ret
  all_goals exact⟨rfl,d.out⟩
def rh (b:Int):Bool:=decide (0<=b/\b<=499)
def yn (b:Int):Bool:=decide (0<=b/\b<=39)
theorem CM (b:Int) (w:World):Calls prog 42 #[.int .i64 b] w λen w'=>en= .returned (.bool (rh b))/\w'=w:=by
 obtain h|h:=Int.lt_or_le b 0
 .have e:rh b=false:=by simp[rh];omega
  rw[e]
  go_in
  go_wp2_with fail
  all_goals go_ret
  all_goals exact⟨rfl,rfl⟩
 .have e:rh b=decide (b<=499):=by simp[rh,h]
  rw[e]
  go_in
  go_wp2_with fail
  all_goals go_ret
  all_goals exact⟨rfl,rfl⟩
theorem D0 (b:Int) (w:World):Calls prog 44 #[.int .i64 b] w λen w'=>en= .returned (.bool (yn b))/\w'=w:=by
 obtain h|h:=Int.lt_or_le b 0
 .have e:yn b=false:=by simp[yn];omega
  rw[e]
  go_in
  go_wp2_with fail
  all_goals go_ret
  all_goals exact⟨rfl,rfl⟩
 .have e:yn b=decide (b<=39):=by simp[yn,h]
  rw[e]
  go_in
  go_wp2_with fail
  all_goals go_ret
  all_goals exact⟨rfl,rfl⟩
end
section
open Sp
noncomputable def ccB (b:Bod):List Ins:=open Classical in if h: ∃c,Cmp b.code 0 0 c b.code.length then Classical.choose h++ [⟨116,0,0,0⟩]else []
theorem ud {cs:List Cls} {gs:List Sig} {b:Bod} (h:lE cs gs b): ∃c,Cmp b.code 0 0 c b.code.length/\ccB b=c++ [⟨116,0,0,0⟩]:=by
 have hx:=EH (t:=b.code) (λx hx h0=>D9 (h.code x hx) h0) b.code.length b.code (bG _) h.full 0 0 [] (by simp);exact⟨Classical.choose hx,Classical.choose_spec hx,by unfold ccB;rw[dif_pos hx]⟩
theorem kY (x:Ins):(wI x).length<=3:=by
 unfold wI;rw[ie,aV]
 by_cases h1:gh x.op.toNat
 .have a: ¬iW x.op.toNat:=by unfold iW;unfold gh at h1;omega
  rw[if_pos h1,if_neg a]
  split<;>simp
 .rw[if_neg h1]
  split
  .simp
  split<;>simp
theorem fI (c d:List Ins):((c++d).flatMap wI).length=(c.flatMap wI).length+(d.flatMap wI).length:=by rw[List.flatMap_append,aV]
theorem eO (x:Ins) (d:List Ins):((x::d).flatMap wI).length=(wI x).length+(d.flatMap wI).length:=by rw[lu,aV]
theorem Cmp.bytes {t:List Ins} {i p z:Nat} {c:List Ins} (h:Cmp t i p c z):(c.flatMap wI).length<=9*z:=by
 have hl: ∀x,((dy x).flatMap wI).length<=6:=λx=>by
  unfold dy;have:=kY ⟨x.op,x.a,x.b,0⟩;have d:=kY k0X
  split
  .rw[eO,eO];simp at this⊢;omega
  .rw[eO];simp at this⊢;omega
 have f:=kY k0X
 induction h with
 |leaf hx h0 hl=>rename_i x;rw[eO];have:=kY (lfX x);simp;omega
 | @one i p x A z hx e hA ih=>rw[fI];have:=hl x;omega
 | @two i p x A B z y hx d h44 h111 hA hB ihA ihB=>rw[fI,fI];have:=hl x;omega
 |seq hx hc hA hB ihA ihB=>rw[fI,eO];have:=kY ⟨100,0,0,0⟩;omega
 | @cho i p x A B C z y v hx hc hA hB hC ihA ihB ihC=>
  rw[fI,eO,fI,eO];have:=kY ⟨102,0,p+A.length+1+B.length+1,0⟩;have:=kY ⟨106,0,p+A.length+1+B.length+1+C.length,0⟩;omega
 | @loo i p x A B z y hx hc hA hB ihA ihB=>
  rw[fI,eO,fI,eO,eO,eO];have:=kY ⟨102,0,p+A.length+1+B.length+2,0⟩;have:=kY ⟨106,0,p,0⟩;have e:(wI ⟨100,0,0,0⟩).length=1:=rfl;have d:(wI k0X).length=2:=rfl;simp at*;omega
theorem CN {im:Img} (hW:iQ im) {b:Bod} (hb:b∈im.zj) (hR: ∀x∈b.code,xD x):Dn ccB im.zq im.zx.length b/\(∀x∈ccB b,x.op.toNat=99-> ∃y∈b.code,y.op.toNat=99/\y.a=x.a/\y.b=x.b)/\(∀x∈ccB b,iW x.op.toNat->x.b<(ccB b).length)/\((ccB b).flatMap wI).length<=9*b.code.length+1:=by
 have i:=hW.bod b hb;obtain⟨c,hc,e⟩:=ud i;obtain⟨hl,m⟩:=hc.all;have s:=i.len;have z:=i.loc.1;have t:=hW.ns;have v:=hW.nc
 have p: ∀a,db im.zq a<=8:=λa=>by
  unfold db
  cases hx:im.zq[a]? with
  |none=>simp
  |some k=>
   have:=(hW.cls a k hx).2.2.1;have:=(bn hx).1;simp;omega
 have hx: ∀x∈c++ [(⟨116,0,0,0⟩:Ins)],WfR im.zq im.zx.length b.zy.length x/\(x.op.toNat=99-> ∃y∈b.code,y.op.toNat=99/\y.a=x.a/\y.b=x.b)/\(iW x.op.toNat->x.b<c.length+1):=by
  intro x hx
  have d: ∀(o n:Nat),o<256->df.contains o=true-> ¬gh o->(gX o->o=107/\n<10)-> ¬iW o->(¬gX o->n=0)->x=⟨UInt8.ofNat o,0,n,0⟩->WfR im.zq im.zx.length b.zy.length x/\(x.op.toNat=99-> ∃y∈b.code,y.op.toNat=99/\y.a=x.a/\y.b=x.b)/\(iW x.op.toNat->x.b<c.length+1):=λo n q g1 g2 g3 g4 g5 ex=>by
   have eo:x.op.toNat=o:=by rw[ex];simp;omega
   have ea:x.a=0:=by rw[ex]
   have eb:x.b=n:=by rw[ex]
   refine⟨⟨eo▸g1,λh=>absurd (eo▸h) g2,λ_=>ea,λh=> ?_,λh=> ?_,λh=> ?_,λh=> ?_,λh=>absurd (eo▸h) g4,λh _=>by rw[eb];exact g5 (eo▸h)⟩,λh=> ?_,λh=>absurd (eo▸h) g4⟩
   .exact absurd (show gh o by unfold gh;omega) g2
   .exact absurd (show gh o by unfold gh;omega) g2
   .have:=(g3 (by unfold gX;omega)).1;omega
   .rw[eb];exact(g3 (eo▸h)).2
   .exact absurd (show gh o by unfold gh;omega) g2
  have f: ∀y∈b.code,x=⟨y.op,y.a,y.b,0⟩->df.contains y.op.toNat=true->aY y.op=false-> ¬iW y.op.toNat->y.op.toNat≠107->WfR im.zq im.zx.length b.zy.length x/\(x.op.toNat=99-> ∃y∈b.code,y.op.toNat=99/\y.a=x.a/\y.b=x.b)/\(iW x.op.toNat->x.b<c.length+1):=λy hy ex g1 g2 g3 g4=>by
   have g:=i.code y hy;have r:=hR y hy;subst ex;refine⟨⟨g1,g.cls,r.nocls,g.fld,g.sig,g.loc,λh=> ?_,λh=>absurd h g3,λh _=>r.nonum g2 h⟩,λh=>⟨y,hy,h,rfl,rfl⟩,λh=>absurd h g3⟩
   show y.b<10
   have h':gX y.op.toNat:=h;unfold gX at h'
   by_cases k1:y.op.toNat=108\/y.op.toNat=115
   .have:=g.loc k1;omega
   by_cases k2:y.op.toNat=103\/y.op.toNat=112
   .have:=g.fld k2;have:=p y.a;omega
   .have:=g.sig (by omega);omega
  obtain hx|hx:=gH hx
  .obtain h|h| ⟨y,hy,h,h0⟩ | ⟨y,hy,h,h12⟩ | ⟨h,ha,hb'⟩:=m x hx
   .exact d 107 0 (by omega) (by decide) (by decide) (λ_=>⟨rfl,by omega⟩) (by decide) (λ_=>rfl) h
   .exact d 100 0 (by omega) (by decide) (by decide) nofun (by decide) (λ_=>rfl) h
   .obtain j|hl:=D9 (i.code y hy) h0
    .refine d 107 y.b (by omega) (by decide) (by decide) (λ_=>⟨rfl,(hR y hy).dig j⟩) (by decide) (λh=>absurd (by unfold gX;omega) h) ?_;rw[h];simp[lfX,j]
    .have j:aY y.op=false:=by
      simp only[aY,Bool.and_eq_false_iff,decide_eq_false_iff_not];omega
     refine f y hy (by rw[h];simp[lfX,j]) ?_ j (by unfold iW;omega) (by omega);obtain hl|hl|hl|hl:=hl<;>rw[hl]<;>decide
   .have q:df.contains y.op.toNat=true/\57<y.op.toNat\/df.contains y.op.toNat=true/\y.op.toNat<48:=by
     obtain h1| ⟨h2,h44,h111⟩:=h12
     .obtain h|h|h|h:=qE h1<;>rw[h]<;>exact Or.inl (by decide)
     .obtain h|h|h|h|h|h:=tG h2
      .simp only[arith,List.contains_iff_mem,List.mem_cons,List.not_mem_nil,or_false]at h;obtain h|h|h|h|h|h:=h<;>rw[h]<;>first|exact Or.inl (by decide) |exact Or.inr (by decide)
      .rw[h];exact Or.inl (by decide)
      .rw[h];exact Or.inl (by decide)
      .rw[h];exact Or.inl (by decide)
      .exact absurd h h44
      .exact absurd h h111
    have l: ¬iW y.op.toNat/\y.op.toNat≠107:=by
     have:ay y.op≠0:=by rcases h12 with h|h<;>omega
     refine⟨λhj=> ?_,λhj=> ?_⟩
     .unfold iW at hj;obtain hj|hj:=hj<;>exact this (by simp[ay,hj])
     .exact this (by simp[ay,hj])
    refine f y hy h (by rcases q with h|h<;>exact h.1) (by simp only[aY,Bool.and_eq_false_iff,decide_eq_false_iff_not];omega) l.1 l.2
   .have eo:x.op.toNat=102\/x.op.toNat=106:=by rcases h with h|h<;>rw[h]<;>decide
    refine⟨⟨by rcases eo with h|h<;>rw[h]<;>decide,λh=> ?_,λ_=>ha,λh=> ?_,λh=> ?_,λh=> ?_,λh=> ?_,λ_=>by omega,λ_ h=>absurd (show iW x.op.toNat by unfold iW;omega) h⟩,λh=> ?_,λ_=>by omega⟩
    .unfold gh at h;omega
    .omega
    .omega
    .omega
    .unfold gX at h;omega
    .omega
  .rw[List.mem_singleton]at hx;exact d 116 0 (by omega) (by decide) (by decide) nofun (by decide) (λ_=>rfl) hx
 rw[e];refine⟨⟨λx h=>(hx x (e▸h)).1,by rw[e];simp;omega⟩,λx h=>(hx x h).2.1,λx h h'=>by have:=(hx x h).2.2 h';simpa using this,?_⟩;rw[fI];have:=hc.bytes;have:(([⟨116,0,0,0⟩]:List Ins).flatMap wI).length=1:=rfl;omega
theorem CO: ∀(new acc:List Cls),(∀c∈new,c.fields.length<=8)->(wC acc new).length<=10*new.length
 | [],acc,_=>by simp[wC]
 |c::new,acc,h=>by
  have:=CO new (acc++ [c]) (λc' h'=>h c' (by simp[h']));have:=h c (by simp);unfold wC;simp only[ie,aV,List.length_drop];omega
theorem sK {im:Img}: ∀(bs:List Bod) (i:Nat),(∀b∈bs,∃t,dP im b=some t)-> ∃T,eR im i bs= .ok T
 | [],i,_=>⟨[],rfl⟩
 |b::bs,i,h=>by
  obtain⟨t,ht⟩:=h b (by simp);obtain⟨T,a⟩:=sK bs (i+1) (λb' h'=>h b' (by simp[h']));exact⟨t::T,by rw[eR,ht];dsimp only;rw[a]⟩
theorem nk {s:ByteArray} {im:Img} (h:dM s= .ok im):s.size<=400/\gJ s= .ok im:=by
 unfold dM at h
 split at h
 .cases h
 .rename_i h0
  split at h
  .cases h
  .rename_i im' hr
   split at h
   .cases h
   .cases h;exact⟨by omega,hr⟩
noncomputable def yo (im:Img):ByteArray:=⟨(qI ccB im).toArray⟩
theorem ri {s:ByteArray} {im:Img} (hl:dM s= .ok im) (h0:(dN s).1=0):(∃im' T,eZ (yo im)= .ok im'/\eR im' 0 im'.zj= .ok T/\oh im im'/\im'.zj.length=im.zj.length)/\(qI ccB im).length<=2000:=by
 obtain⟨X,C⟩:=nk hl;have v:=jM (by omega) hl h0;have h:=v.wf;obtain⟨I,⟨side,mb,M,J,L⟩,_⟩:=ou C;have d:=λb hb=>CN h (b:=b) hb (I b hb)
 have k:(qI ccB im).length<=2000:=by
  unfold qI
  have k1:=CO im.zq [] (λc hc=>by
   obtain⟨j,B⟩:=List.getElem?_of_mem hc;have:=(h.cls j c B).2.2.1;have:=(bn B).1;have:=h.nc;omega)
  have k2:=tg (f:=wS) (m:=3) (t:=im.zx) (λg _=>bG 3)
  have k3:=tg (f:=wX ccB) (m:=240) (t:=im.zj) (λb hb=>by
   have P:=(d b hb).2.2.2;have Q:=(h.bod b hb).len;have S:=(h.bod b hb).loc.1;unfold wX wM wB
   split<;>simp only[ie,aV,List.length_nil,List.length_drop]<;>omega)
  have:=h.nc;have:=h.ns;have:=h.nb;simp only[ie,aV];omega
 refine⟨?_,k⟩
 obtain⟨im',g1,g2,A,l⟩:=Dp C (cc:=ccB) (λb hb=>(d b hb).1) k (λb hb x hx hx9=>by
  obtain⟨y,O,D,E,F⟩:=(d b hb).2.1 x hx hx9;have:=v.lk b hb y O D
  rwa [E,F]at this) (λb hb=>(d b hb).2.2.1)
 have z: ∃T,eR im' 0 im'.zj= .ok T:=by
  refine sK _ _ (λb' hb'=> ?_);obtain⟨q,p⟩:=List.getElem?_of_mem hb';have r:q<im.zj.length:=by rw[<-l.1];exact(bn p).1
  obtain⟨b2,e,hrel⟩:=l.2 q _ (aM r);rw[p]at e
  cases e
  have hm:=cS r;have n:=h.bod _ hm;obtain⟨c,hc,ec⟩:=ud n;have ht:=v.ty _ hm;unfold fa at ht
  cases hty:cA im.zq im.zx (im.zj[q]).zy (im.zj[q]).code (im.zj[q]).code.length 0 with
  |none=>rw[hty]at ht;cases ht
  |some ty=>
   rw[hty]at ht;dsimp only at ht;have a:=hrel.code;have i:=hrel.len;rw[ec]at a i
   obtain⟨H,G⟩:=Ab (im':=im') (by rw[g2];exact h.cls) hrel.loc hrel.cls hrel.meth (λu hu=>by
    have:=n.loc.2 u hu;simp only[cY,aQ,Bool.or_eq_true,dl,dk]at this;omega) hc a (by simpa using i) (by rw[g2,A];exact hty) (by rw[g2,A];exact ht)
   obtain⟨t,ht,_⟩:=nE (by rw[g2];exact h.cls) G;exact⟨t,ht⟩
 obtain⟨T,z⟩:=z;refine⟨im',T,g1,z,⟨g2,λm f c=>by rw[g2];exact oS l _ m f c,λq b p=> ?_⟩,l.1⟩;obtain⟨b',e,hrel⟩:=l.2 q b p;have n:=h.bod b (a9 p);obtain⟨c,hc,ec⟩:=ud n;have a:=hrel.code;rw[ec]at a;exact⟨b',c,_,e,hrel.loc,hc,n.len,a⟩
theorem yY {s:ByteArray} {im:Img} (hl:dM s= .ok im) (h0:(dN s).1=0): ∃mb,im.zj[im.zj.length-1]?=some mb/\ ∀(inp:ByteArray) (f:Nat),f<=4000-> ∀o,bC im inp f mb 1 0 (aO mb []) ⟨[],0,f,[]⟩≠ .bad 0 o:=by
 obtain⟨j,e⟩:=nk hl;have b:=jM (by omega) hl h0;obtain⟨i,⟨side,mb,c,d,g⟩,_⟩:=ou e;have hm:im.zj[im.zj.length-1]?=some mb:=by rw[c];simp
 refine⟨mb,hm,λinp f hf o h=> ?_⟩;have a:=a9 hm;have ht:=b.ty _ a;unfold fa at ht
 cases hty:cA im.zq im.zx mb.zy mb.code mb.code.length 0 with
 |none=>rw[hty]at ht;cases ht
 |some ty=>
  have:=fo b inp f 88000 mb 1 0 (aO mb []) ⟨[],0,f,[]⟩ ty _ a hty (tM b a) (oT im hf) (bG _);rw[h]at this;have:=this.1;omega
end
section
open Go Sp
theorem Cmp.lt {t:List Ins} {i p z:Nat} {c:List Ins} (h:Cmp t i p c z):i<t.length/\0<z:=by
 cases h<;>exact⟨(bn ‹t[i]?=some _›).1,by omega⟩
theorem rj (X Y:List XIt) (x:XIt):aimX X.length (X++x::Y)=X++{x with num:=(X++x::Y).length}::Y:=by
 unfold aimX;rw[gG (bG _),Nat.sub_self];simp
theorem Fv {c:UInt8} (h:aY c=true):ay c=0:=by
 simp only[aY,dl,dk]at h;unfold ay;rw[if_neg (by omega),if_neg (by simp only[List.contains_iff_mem,List.mem_cons,List.not_mem_nil,or_false];omega),if_neg (by simp only[List.contains_iff_mem,List.mem_cons,List.not_mem_nil,or_false];omega)]
theorem kD {x:Ins} (h:ay x.op≠0):bQ x=aJ x:=by
 unfold bQ;rw[if_neg (λhd=>h (Fv hd))]
theorem rl (x:Ins):gV (aJ x)=(dy x).map aJ:=by
 unfold gV dy;rw[List.map_cons]
 congr 1
 show(if x.op.toNat=115\/x.op.toNat=112\/x.op.toNat=119 then [dj 107]else [])=_
 split<;>rfl
theorem Cmp.prog {t:List Ins} {i p z:Nat} {c:List Ins} (h:Cmp t i p c z): ∀(f:Nat) (l:List XIt),z<=f->l.length=p->iL t f i l=l++c.map aJ:=by
 have key: ∀{i f:Nat} {x:Ins},t[i]?=some x-> ∀k l,gj t f i k l=match(cy t (ay x.op) (i+1))[k]? with
   |some i=>iL t f i l
   |none=>l:=λ{i f x} hx k l=>by
  unfold gj eu;rw[hx]
  rfl
 induction h with
 | @leaf i p x hx h0 hl=>
  intro f l s hp;obtain⟨f,rfl⟩: ∃g,f=g+1:=⟨f-1,by omega⟩;have H: ∀k l,gj t f i k l=l:=λk l=>by rw[key hx,h0];rfl
  rw[iY hx]
  have n:(bQ x).op.toNat≠44/\(bQ x).op.toNat≠105/\(bQ x).op.toNat≠111/\gV (bQ x)=[aJ (lfX x)]:=by
   by_cases hd:aY x.op=true
   .have e:bQ x=⟨x.pos,107,45,x.b,none,0,0⟩:=by unfold bQ;rw[if_pos hd]
    have q:lfX x=⟨107,0,x.b,0⟩:=by unfold lfX;rw[if_pos hd]
    rw[e,q];exact⟨by show(107:UInt8).toNat≠44;decide,by show(107:UInt8).toNat≠105;decide,by show(107:UInt8).toNat≠111;decide,rfl⟩
   .have e:bQ x=aJ x:=by unfold bQ;rw[if_neg hd]
    have q:lfX x=⟨x.op,x.a,x.b,0⟩:=by unfold lfX;rw[if_neg hd]
    have hl:x.op.toNat=114\/x.op.toNat=122\/x.op.toNat=108\/x.op.toNat=110:=by rcases hl with h|h<;>first|exact absurd h hd|exact h
    rw[e,q,rl];refine⟨?_,?_,?_,?_⟩
    .show x.op.toNat≠44;omega
    .show x.op.toNat≠105;omega
    .show x.op.toNat≠111;omega
    .unfold dy;rw[if_neg (by omega)];rfl
  unfold iX;rw[if_neg n.1,if_neg n.2.1,if_neg n.2.2.1,H,H,n.2.2.2]
  rfl
 | @one i p x A z hx h1 hA ih=>
  intro f l s hp;obtain⟨f,rfl⟩: ∃g,f=g+1:=⟨f-1,by omega⟩;have d:gj t f i 0 l=l++A.map aJ:=by rw[key hx,h1,cy,if_pos hA.lt.1];exact ih f l (by omega) hp
  have j: ∀l,gj t f i 1 l=l:=λl=>by rw[key hx,h1,cy,if_pos hA.lt.1];rfl
  have J:=qE h1;rw[iY hx,kD (by omega)];unfold iX;rw[if_neg (by show¬x.op.toNat=44;omega),if_neg (by show¬x.op.toNat=105;omega),if_neg (by show¬x.op.toNat=111;omega),j,d,rl,List.map_append,mP]
 | @two i p x A B z y hx m h44 h111 hA hB ihA ihB=>
  intro f l s hp;obtain⟨f,rfl⟩: ∃g,f=g+1:=⟨f-1,by omega⟩;have d:gj t f i 0 l=l++A.map aJ:=by rw[key hx,m,cy,if_pos hA.lt.1];exact ihA f l (by omega) hp
  have j: ∀l,l.length=p+A.length->gj t f i 1 l=l++B.map aJ:=λl hl=>by rw[key hx,m,cy,if_pos hA.lt.1,cy,if_pos hB.lt.1];exact ihB f l (by omega) hl
  have r:x.op.toNat≠105:=λh=>by simp[ay,h]at m
  rw[iY hx,kD (by omega)];unfold iX;rw[if_neg (show¬(aJ x).op.toNat=44 from h44),if_neg (show¬(aJ x).op.toNat=105 from r),if_neg (show¬(aJ x).op.toNat=111 from h111),d,j _ (by simp;omega),rl];simp
 | @seq i p x A B z y hx hc hA hB ihA ihB=>
  intro f l s hp;obtain⟨f,rfl⟩: ∃g,f=g+1:=⟨f-1,by omega⟩;have m:ay x.op=2:=by simp[ay,hc]
  have d:gj t f i 0 l=l++A.map aJ:=by rw[key hx,m,cy,if_pos hA.lt.1];exact ihA f l (by omega) hp
  have j: ∀l,l.length=p+A.length+1->gj t f i 1 l=l++B.map aJ:=λl hl=>by rw[key hx,m,cy,if_pos hA.lt.1,cy,if_pos hB.lt.1];exact ihB f l (by omega) hl
  rw[iY hx,kD (by omega)];unfold iX;rw[if_pos (show(aJ x).op.toNat=44 from hc),d,j _ (by simp;omega)];simp[aJ,dj]
 | @cho i p x A B C z y v hx hc hA hB hC ihA ihB ihC=>
  intro f l s hp;obtain⟨f,rfl⟩: ∃g,f=g+1:=⟨f-1,by omega⟩;have E:ay x.op=3:=by simp[ay,hc]
  have d:gj t f i 0 l=l++A.map aJ:=by rw[key hx,E,cy,if_pos hA.lt.1];exact ihA f l (by omega) hp
  have j: ∀l,l.length=p+A.length+1->gj t f i 1 l=l++B.map aJ:=λl hl=>by rw[key hx,E,cy,if_pos hA.lt.1,cy,if_pos hB.lt.1];exact ihB f l (by omega) hl
  have F: ∀l,l.length=p+A.length+1+B.length+1->gj t f i 2 l=l++C.map aJ:=λl hl=>by rw[key hx,E,cy,if_pos hA.lt.1,cy,if_pos hB.lt.1,cy,if_pos hC.lt.1];exact ihC f l (by omega) hl
  rw[iY hx,kD (by omega)];unfold iX;rw[if_neg (show¬(aJ x).op.toNat=44 from by show¬x.op.toNat=44;omega),if_pos (show(aJ x).op.toNat=105 from hc)];unfold jT;rw[d,j _ (by simp;omega)];have D:l++A.map aJ++ [dj 102]++B.map aJ++ [dj 106]=(l++A.map aJ)++dj 102::(B.map aJ++ [dj 106]):=by simp
  rw[D,rj];generalize G:({dj 102 with num:=((l++A.map aJ)++dj 102::(B.map aJ++ [dj 106])).length}:XIt)=f1;rw[F _ (by simp;omega)];have q:(l++A.map aJ)++f1::(B.map aJ++ [dj 106])++C.map aJ=(l++A.map aJ++f1::B.map aJ)++dj 106::C.map aJ:=by simp
  have I:(l++A.map aJ++ [dj 102]++B.map aJ).length=(l++A.map aJ++f1::B.map aJ).length:=by simp
  rw[q,I,rj,<-G];simp[aJ,dj];omega
 | @loo i p x A B z y hx hc hA hB ihA ihB=>
  intro f l s hp;obtain⟨f,rfl⟩: ∃g,f=g+1:=⟨f-1,by omega⟩;have m:ay x.op=2:=by simp[ay,hc]
  have d:gj t f i 0 l=l++A.map aJ:=by rw[key hx,m,cy,if_pos hA.lt.1];exact ihA f l (by omega) hp
  have j: ∀l,l.length=p+A.length+1->gj t f i 1 l=l++B.map aJ:=λl hl=>by rw[key hx,m,cy,if_pos hA.lt.1,cy,if_pos hB.lt.1];exact ihB f l (by omega) hl
  rw[iY hx,kD (by omega)];unfold iX;rw[if_neg (show¬(aJ x).op.toNat=44 from by show¬x.op.toNat=44;omega),if_neg (show¬(aJ x).op.toNat=105 from by show¬x.op.toNat=105;omega),if_pos (show(aJ x).op.toNat=111 from hc)];unfold oD;rw[d,j _ (by simp;omega)];have D:l++A.map aJ++ [dj 102]++B.map aJ++ [dj 100]++ [⟨0,106,45,l.length,none,0,0⟩]=(l++A.map aJ)++dj 102::(B.map aJ++ [dj 100,⟨0,106,45,l.length,none,0,0⟩]):=by simp
  rw[D,rj];simp[aJ,dj,k0X];omega
theorem wF {n:Nat} (h:n<10):Lib.itoa (n:Int)=[ry n]:=by
 unfold Lib.itoa;rw[if_neg (by omega),ny,Lib.decDigits_one h]
 rfl
theorem Fw {cs:List Cls} {ns nl:Nat} {x:Ins} (h:WfR cs ns nl x):wIx (aJ x)=wI x:=by
 unfold wIx wI aJ cE;dsimp only
 congr 1
 by_cases hc:gh x.op.toNat
 .simp only[if_pos hc]
  by_cases hn:gX x.op.toNat
  .simp only[if_pos hn,wF (h.num hn)]
  .have a: ¬iW x.op.toNat:=by unfold iW;unfold gh at hc;omega
   simp only[if_neg hn,if_neg a]
 .simp only[if_neg hc]
  by_cases hn:gX x.op.toNat
  .simp only[if_pos hn,wF (h.num hn)]
  .by_cases a:iW x.op.toNat
   .have:=h.jmp a;simp only[if_neg hn,if_pos a];rw[wF (by omega),wF (by omega)]
    rfl
   .simp only[if_neg hn,if_neg a]
theorem yZ {cs:List Cls} {ns nl:Nat}: ∀{c:List Ins},(∀x∈c,WfR cs ns nl x)->(c.map aJ).flatMap wIx=c.flatMap wI
 | [],_=>rfl
 |x::c,h=>by rw[List.map_cons,lu,lu,Fw (h x (by simp)),yZ (λy hy=>h y (by simp[hy]))]
theorem CP {cs:List Cls} (hw:WfC cs) (h4:cs.length<=4): ∀(new acc:List Cls),cs=acc++new->(new.map toX).flatMap (wCx (cs.map toX))=wC acc new
 | [],acc,_=>rfl
 |c::new,acc,h=>by
  have hc:cs[acc.length]?=some c:=by rw[h];simp
  have hp:=hw _ _ hc;have hl:acc.length<cs.length:=(bn hc).1;rw[List.map_cons,lu,CP hw h4 new (acc++ [c]) (by rw[h];simp),wC]
  have e:(bV (cs.map toX) (toX c).par).length=(inh acc c.par).length:=by
   unfold bV inh toX;dsimp only
   by_cases h0:c.par<0
   .rw[if_pos h0,if_pos h0]
    rfl
   .rw[if_neg h0,if_neg h0];have et:(UInt8.ofNat (65+c.par.toNat)).toNat=65+c.par.toNat:=by simp;omega
    rw[if_pos (by unfold aQ;rw[et];simp;omega),et,Nat.add_sub_cancel_left,cg,h,eQ (by omega)]
    cases acc[c.par.toNat]?<;>rfl
  unfold wCx;rw[e];simp[toX,cE]
theorem CQ {s:ByteArray} {im:Img} (hr:gJ s= .ok im) (hW:iQ im):wAx im=qI ccB im:=by
 obtain⟨f,_,_⟩:=ou hr
 have e:im.zj.flatMap wDx=im.zj.flatMap (wX ccB):=by
  have: ∀bs:List Bod,(∀b∈bs,b∈im.zj)->bs.flatMap wDx=bs.flatMap (wX ccB):=λbs=>by
   induction bs with
   |nil=>intro _;rfl
   |cons b bs ih=>
    intro h;rw[lu,lu,ih (λb' h'=>h b' (by simp[h']))]
    congr 1
    have hb:=h b (by simp);have a:=hW.bod b hb;obtain⟨c,hc,ec⟩:=ud a;have d:=CN hW hb (f b hb);have g:iL b.code 24 0 []++ [dj 116]=(ccB b).map aJ:=by rw[hc.prog 24 [] a.len rfl,ec,List.map_append];rfl
    unfold wDx wHd wX wM wB;rw[g,yZ d.1.ins];have:=hW.ns;obtain h0|h0:=a.cls
    .rw[if_pos (by omega),if_pos (by omega)];rfl
    .rw[if_neg (by omega),if_neg (by omega),wF (by omega)];simp[cE]
  exact this _ (λ_ h=>h)
 unfold wAx qI wBx;rw[e,CP hW.cls hW.nc im.zq [] rfl];simp[wS,wSx]
 rfl
end
section
open Go Go.RowKit Sp
abbrev opP (kd a b c:Int) (s t u:ByteArray):Obj:= .cells #[.int .i64 kd,.int .i64 a,.int .i64 b,.int .i64 c,.string s,.string t,.string u] 27
theorem CR {w:World} {g:Nat} {v0 v1 v2 v3 v4 v5 v6:Value} {t:TypeId} (h:w.heap[g]?=some (.cells #[v0,v1,v2,v3,v4,v5,v6] t)):w.cell? ⟨g,1,none⟩=some v1/\w.cell? ⟨g,2,none⟩=some v2/\w.cell? ⟨g,3,none⟩=some v3/\w.cell? ⟨g,4,none⟩=some v4/\w.cell? ⟨g,5,none⟩=some v5/\g<w.heap.size:=⟨ce1 h,ce2 h,ce3 h,ce4 h,ce5 h,ae h⟩
theorem yp {s r:ByteArray} {im:Img} (hl:dM s= .ok im) (h0:(dN s).1=0) (hr:r.data.toList=wAx im):r=yo im/\r.size<=2000/\(jW r).1=0:=by
 obtain⟨d,b⟩:=nk hl;have c:=(jM (by omega) hl h0).wf
 have e:r=yo im:=by
  unfold yo;rw[<-CQ b c,<-hr]
 obtain⟨⟨im',T,g1,g2,_,_⟩,a⟩:=ri hl h0;refine⟨e,by rw[e];unfold yo;simpa[ByteArray.size]using a,?_⟩;rw[e];unfold jW;rw[g1];dsimp only;rw[g2]
end
section
open Sp
theorem y8 {s inp:ByteArray} {im:Img} {fuel:Int} (hl:dM s= .ok im) (h0:(dN s).1=0) (h: ¬(40<inp.size\/fuel<0\/4000<fuel)):iy s inp fuel=iM im inp fuel.toNat:=by
 unfold iy;rw[if_neg h,hl];dsimp only;rw[if_pos h0]
theorem CS {s inp:ByteArray} {im:Img} {T:cG} {cells fuel:Int} (hl:eZ s= .ok im) (hT:eR im 0 im.zj= .ok T) (h: ¬(40<inp.size\/cells<0\/100<cells\/fuel<0\/4000<fuel)):lT s inp cells fuel=iP im inp T cells.toNat fuel.toNat:=by
 unfold lT;rw[if_neg h,hl];dsimp only;rw[hT]
theorem D1 {s:ByteArray} {im:Img} (hl:dM s= .ok im) (h0:(dN s).1=0) (inp:ByteArray) (cells B:Int) (hi:inp.size<=40) (hc:0<=cells/\cells<=100) (hB:0<=B) (h8:8*B+8<=4000):jZ (iy s inp B) (lT (yo im) inp cells (8*B+8)):=by
 obtain⟨⟨im',T,g1,g2,a,b⟩,_⟩:=ri hl h0;obtain⟨mb,hm,c⟩:=yY hl h0;rw[y8 hl h0 (by omega),CS g1 g2 (by omega),show(8*B+8).toNat=8*B.toNat+8 from by omega];exact Di a b hm _ (c inp _ (by omega))
theorem CT {s:ByteArray} {im:Img} (hl:dM s= .ok im) (h0:(dN s).1=0) (inp:ByteArray) (cells B:Int) (hi:inp.size<=40) (hc:0<=cells/\cells<=100) (hB:0<=B) (h8:100*B+100<=4000):gS (lT (yo im) inp cells B) (iy s inp (100*B+100)):=by
 obtain⟨⟨im',T,g1,g2,a,b⟩,_⟩:=ri hl h0;obtain⟨mb,hm,c⟩:=yY hl h0;rw[y8 hl h0 (by omega),CS g1 g2 (by omega),show(100*B+100).toNat=100*B.toNat+100 from by omega];exact BM a b hm _ (c inp _ (by omega))
end
section
open Go Go.RowKit Sp
attribute [local go_sem ↓] eF eG
theorem El {fn:Func} {Rr:Ending->World->Prop} {a:Act} {w:World} {c r:Nat} {s:ByteArray} {v e:Int} (hf:fn.results=#[.cell c 74]) (hd:a.defers=[]) (hc:a.tmps.getD c undef= .pointer (some ⟨r,0,none⟩))
  (h0:w.heap[r]?=some (.cells #[.string s,.int .i64 v,.int .i64 e] 74)) (hR:Rr (.returned (.agg #[.string s,.int .i64 v,.int .i64 e])) w):bodyPost prog fn Rr .ret a w:=by
 have r0:=ce0 h0;have d:=ce1 h0;have f:=ce2 h0;refine cU (v:= .agg #[.string s,.int .i64 v,.int .i64 e]) ?_ hd hR;have b:a.tmps[c]?.getD undef= .pointer (some ⟨r,0,none⟩):=by simpa using hc
 simp[results,hf,b,go_sem,r0,d,f]
theorem wG (s inp:ByteArray) (ce fuel:Int) (w:World) (hmax:s.size<=maxLen) (htab:fd w):
  Calls prog 39 #[.string s,.string inp,.int .i64 ce,.int .i64 fuel] w λen w'=>en= .returned (.agg #[.string ⟨(lT s inp ce fuel).1.toArray⟩,.int .i64 (lT s inp ce fuel).2.1,.int .i64 (lT s inp ce fuel).2.2])/\B_ w w':=by
 have h:=hid (λ(X:World) (hX:B_ w X)=>wA s inp ce fuel X hmax (htab.but hX));obtain⟨RR,f⟩: ∃RR,lT s inp ce fuel=RR:=⟨_,rfl⟩;rw[f]at h⊢;clear f htab;obtain⟨o,v,e⟩:=RR;dsimp only at h⊢
 go_in
 go_wp2_with fail;have g:=bj w (.cells #[.string ⟨#[]⟩,.int .i64 0,.int .i64 0] 74);have c:B_ w (w.alloc (.cells #[.string ⟨#[]⟩,.int .i64 0,.int .i64 0] 74)):=ag _ _ _;refine(h.out _ c).mono ?_;rintro en w1 ⟨rfl,b⟩;have a:=b.kp g;have d:=c.trans b;clear h g c b;have r0:=ce0 a;have i:=ce1 a;have j:=ce2 a;have l:=cw w1 w.heap.size 0 _ _ a;have m:=cw w1 w.heap.size 1 _ _ a;have n:=cw w1 w.heap.size 2 _ _ a;have hl:=ae a;go_wp2_with fail;refine(ip _ _).mono ?_;rintro en w2 ⟨rfl,rfl⟩;go_wp2_with fail;exact El results39 rfl rfl (bS _ w.heap.size 2 _ _ _ (bS _ w.heap.size 1 _ _ _ (bS _ w.heap.size 0 _ _ _ a))) ⟨rfl,((d.next (aq _ _ _ _) (λk hk e=>by have e:k=w.heap.size:=e;omega)).next (aq _ _ _ _) (λk hk e=>by have e:k=w.heap.size:=e;omega)).next (aq _ _ _ _) (λk hk e=>by have e:k=w.heap.size:=e;omega)⟩
theorem sL (s inp:ByteArray) (fuel:Int) (w:World) (hmax:s.size<=maxLen) (htab:fd w):
  Calls prog 41 #[.string s,.string inp,.int .i64 fuel] w λen w'=>en= .returned (.agg #[.string ⟨(iy s inp fuel).1.toArray⟩,.int .i64 (iy s inp fuel).2.1,.int .i64 (iy s inp fuel).2.2])/\B_ w w':=by
 have h:=hid (λ(X:World) (hX:B_ w X)=>sF s inp fuel X hmax (htab.but hX));obtain⟨RR,f⟩: ∃RR,iy s inp fuel=RR:=⟨_,rfl⟩;rw[f]at h⊢;clear f htab;obtain⟨o,v,e⟩:=RR;dsimp only at h⊢
 go_in
 go_wp2_with fail;have g:=bj w (.cells #[.string ⟨#[]⟩,.int .i64 0,.int .i64 0] 74);have c:B_ w (w.alloc (.cells #[.string ⟨#[]⟩,.int .i64 0,.int .i64 0] 74)):=ag _ _ _;refine(h.out _ c).mono ?_;rintro en w1 ⟨rfl,b⟩;have a:=b.kp g;have d:=c.trans b;clear h g c b;have r0:=ce0 a;have i:=ce1 a;have j:=ce2 a;have l:=cw w1 w.heap.size 0 _ _ a;have m:=cw w1 w.heap.size 1 _ _ a;have n:=cw w1 w.heap.size 2 _ _ a;have hl:=ae a;go_wp2_with fail;refine(ip _ _).mono ?_;rintro en w2 ⟨rfl,rfl⟩;go_wp2_with fail;exact El results41 rfl rfl (bS _ w.heap.size 2 _ _ _ (bS _ w.heap.size 1 _ _ _ (bS _ w.heap.size 0 _ _ _ a))) ⟨rfl,((d.next (aq _ _ _ _) (λk hk e=>by have e:k=w.heap.size:=e;omega)).next (aq _ _ _ _) (λk hk e=>by have e:k=w.heap.size:=e;omega)).next (aq _ _ _ _) (λk hk e=>by have e:k=w.heap.size:=e;omega)⟩
abbrev D2 (o:L_) (v e:Int):Obj:= .cells #[.string ⟨o.toArray⟩,.int .i64 v,.int .i64 e] 74
theorem gtJ {a b:Int} (h:a<=b): ¬b<a:=by omega
theorem yq {s:ByteArray} (hs:0<s.size):s.toList.isEmpty=false:=by
 obtain⟨d⟩:=s;rw[ByteArray.toList_eq]
 show d.toList.isEmpty=false
 have:0<d.size:=hs
 cases h:d.toList with
 |nil=>rw[<-Array.length_toList,h]at this;cases this
 |cons=>rfl
theorem yr (kd a b c:Int) (s t u:ByteArray) (w:World) (ht:fd w) (hm:s.size<=maxLen):
  Calls prog 26 #[.agg #[.int .i64 kd,.int .i64 a,.int .i64 b,.int .i64 c,.string s,.string t,.string u]] w λen w'=>en= .returned (.bool true)/\B_ w w':=by
 have HT:=hid ht;have D:=hid (bj w (opP kd a b c s t u));have B:Hid (B_ w (w.alloc (opP kd a b c s t u))):=hid (ag _ _ _);have HC:=hid (λw1 h=>oF s w1 hm (HT.out.but h));obtain⟨E,hE⟩: ∃E,(dN s).1=E:=⟨_,rfl⟩;have P:=hid hE;rw[hE]at HC;clear ht hE;obtain⟨k1,k2,k3,k4,k5,g⟩:=CR D.out
 go_in
 go_wp2_with fail;refine(HC.out _ B.out).mono ?_;rintro en w1 ⟨⟨r,rfl,a4,a5⟩,f⟩;have HR:=hid (And.intro a4 a5);have Q:=hid (f.kp D.out);have d:=hid (B.out.trans f);clear D B f HC a4 a5 k1 k2 k3 k4 k5 g;go_wp2_with fail;refine(ip _ _).mono ?_;rintro en w3 ⟨rfl,rfl⟩
 by_cases h0:E=0
 case neg=>
  have hr:=HR.out.2 h0;subst hr;have e0:((E:Int)!=0)=true:=by rw[bne_iff_ne];omega
  clear HR P;go_wp2_with fail
  all_goals go_ret
  all_goals exact⟨rfl,d.out⟩
 case pos=>
  subst h0;obtain⟨a6,im,hl,hr⟩:=HR.out.1 rfl;obtain⟨he,a7,a3⟩:=yp hl P.out hr;have J:r.size<=maxLen:=Nat.le_trans a7 (by decide);have b1:=yq a6;have HK:=hid (λw1=>qP r w1 J);obtain⟨P2,a2⟩: ∃P2,(jW r).2=P2:=⟨_,rfl⟩;rw[a3,a2]at HK;have F:=hid (λhi hc hB h8=>he▸D1 hl P.out t a b hi hc hB h8);have G:=hid (λhi hc hB h8=>he▸CT hl P.out t a b hi hc hB h8);clear he a3 a2 hr hl P HR a7 a6;go_wp2_with fail;refine(HK.out _).mono ?_;rintro en w4 ⟨rfl,I⟩;have p:=hid (I.kp Q.out);have j:=hid (d.out.trans I);clear Q d I HK;obtain⟨k1,k2,k3,k4,k5,g⟩:=CR p.out;go_wp2_with fail;refine(ip _ _).mono ?_;rintro en w5 ⟨rfl,rfl⟩
  obtain gt|gt:=Int.lt_or_le 40 (t.size:Int)
  .go_wp2_with fail
   all_goals go_ret
   all_goals exact⟨rfl,j.out⟩
  have gt':=gtJ gt;obtain ga|ga:=Int.lt_or_le a 0
  .go_wp2_with fail
   all_goals go_ret
   all_goals exact⟨rfl,j.out⟩
  have ga':=gtJ ga;obtain gb|gb:=Int.lt_or_le 100 a
  .go_wp2_with fail
   all_goals go_ret
   all_goals exact⟨rfl,j.out⟩
  have gb':=gtJ gb;go_wp2_with fail;refine(CM b _).mono ?_;rintro en w6 ⟨rfl,rfl⟩;generalize M:rh b=q;have z:=hid (And.intro (show t.size<=40 by omega) (And.intro ga gb));clear gt gt' ga ga' gb gb'
  go_upto_if 51 with fail
  go_cut [1]from 12 (λs1 wc=>s1= .pointer (some ⟨w.heap.size,0,none⟩)/\B_ w wc/\wc.heap[w.heap.size]?=some (opP kd a b c s t u))
  case first=>
   cases q with
   |false=>
    go_wp2_with fail
    go_meet
    case rel=>exact⟨rfl,j.out,p.out⟩
   |true=>
    have hn:0<=b/\b<=499:=by simpa[rh]using M
    have O:=dV (8*b) (by omega) (by omega);have b0:=dV (8*b+8) (by omega) (by omega);have x:=hid (λw1 h=>sL s t b w1 hm (HT.out.but h));have y:=hid (λw1 h=>wG r t a (8*b+8) w1 J (HT.out.but h));have A:=F.out z.out.1 z.out.2 hn.1 (by omega);obtain⟨R1,Y⟩: ∃R1,iy s t b=R1:=⟨_,rfl⟩;obtain⟨H,Z⟩: ∃H,lT r t a (8*b+8)=H:=⟨_,rfl⟩;rw[Y]at x A;rw[Z]at y A;obtain⟨o1,v1,X⟩:=R1;obtain⟨o2,v2,e2⟩:=H;have T:=hid (A8 _ _ A);dsimp only[A7]at x y T;clear hn M Y Z A F G;go_wp2_with fail;refine(x.out _ j.out).mono ?_;rintro en w7 ⟨rfl,f⟩;have m:=f.kp p.out;have d:=hid (j.out.trans f);clear p j f x k1 k2 k3 k4 k5 g
    obtain⟨k1,k2,k3,k4,k5,g⟩:=CR m;have v:=hid (bj w7 (D2 o1 v1 X));have i:Hid (B_ w7 (w7.alloc (D2 o1 v1 X))):=hid (ag _ _ _);go_wp2_with fail;refine(y.out _ (d.out.trans i.out)).mono ?_;rintro en O ⟨rfl,k⟩;have S:=hid (k.kp (i.out.kp m));have e:=hid (k.kp v.out);have n:=hid ((d.out.trans i.out).trans k);clear m d k y v i k1 k2 k3 k4 k5 g;have r0:=ce0 e.out;have r1:=ce1 e.out;have r2:=ce2 e.out;have L:=ae e.out;go_wp2_with fail;refine(T.out _).mono ?_;rintro en w9 ⟨rfl,l⟩;have a8:=hid (l.kp ((ag (λ_=>False) _ _).kp S.out));have C:=hid ((n.out.trans (ag _ _ _)).trans l);clear l S n r0 r1 r2 L e
    go_wp2_with fail
    go_meet
    case rel=>exact⟨rfl,C.out,a8.out⟩
  case rest=>
   obtain⟨rfl,a0,a1⟩:=hcut;clear p j F M q k1 k2 k3 k4 k5 g;have B:=hid a0;have D:=hid a1;clear a0 a1;obtain⟨k1,k2,k3,k4,k5,g⟩:=CR D.out;go_wp2_with fail;refine(D0 b _).mono ?_;rintro en w7 ⟨rfl,rfl⟩;generalize M:yn b=q
   cases q with
   |false=>
    go_wp2_with fail
    all_goals go_ret
    all_goals exact⟨rfl,B.out⟩
   |true=>
    have hn:0<=b/\b<=39:=by simpa[yn]using M
    have O:=dV (100*b) (by omega) (by omega);have b0:=dV (100*b+100) (by omega) (by omega);have x:=hid (λw1 h=>wG r t a b w1 J (HT.out.but h));have y:=hid (λw1 h=>sL s t (100*b+100) w1 hm (HT.out.but h));have A:=G.out z.out.1 z.out.2 hn.1 (by omega);obtain⟨R1,Y⟩: ∃R1,lT r t a b=R1:=⟨_,rfl⟩;obtain⟨H,Z⟩: ∃H,iy s t (100*b+100)=H:=⟨_,rfl⟩;rw[Y]at x A;rw[Z]at y A;obtain⟨o1,v1,X⟩:=R1;obtain⟨o2,v2,e2⟩:=H;have T:=hid (ym _ _ A);dsimp only[A7]at x y T;clear hn M Y Z A G;go_wp2_with fail;refine(x.out _ B.out).mono ?_;rintro en O ⟨rfl,f⟩;have m:=f.kp D.out;have d:=hid (B.out.trans f);clear D B f x k1 k2 k3 k4 k5 g
    obtain⟨k1,k2,k3,k4,k5,g⟩:=CR m;have v:=hid (bj O (D2 o1 v1 X));have i:Hid (B_ O (O.alloc (D2 o1 v1 X))):=hid (ag _ _ _);go_wp2_with fail;refine(y.out _ (d.out.trans i.out)).mono ?_;rintro en w9 ⟨rfl,k⟩;have e:=hid (k.kp v.out);have n:=hid ((d.out.trans i.out).trans k);clear m d k y v i k1 k2 k3 k4 k5 g;have r0:=ce0 e.out;have r1:=ce1 e.out;have r2:=ce2 e.out;have L:=ae e.out;go_wp2_with fail;refine(T.out _).mono ?_;rintro en b2 ⟨rfl,l⟩;have C:=hid ((n.out.trans (ag _ _ _)).trans l);clear l n r0 r1 r2 L e;go_wp2_with fail
    all_goals go_ret
    all_goals exact⟨rfl,C.out⟩
def wH (f:Nat) (args:Array Value) (r:Value):Prop:= ∀w,fd w->Calls prog f args w λen w'=>en= .returned r/\B_ w w'
theorem CU {p q:Int}
  (h1:wH 18 #[.string ⟨#[59,59,59,58,107,49,107,50,43,116,46]⟩] (.tuple #[.int .i64 0,.int .i64 p]))
  (h2:wH 19 #[.string ⟨#[59,59,59,58,107,49,107,50,43,116,46]⟩] (.tuple #[.string ⟨#[124,44,105,124,44,105,105,124,44,105,124,44,59]⟩,.int .i64 0]))
  (h3:wH 32 #[.string ⟨#[59,59,59,58,107,49,119,107,50,119,107,51,116,46]⟩,.string ⟨#[]⟩,.int .i64 0,.int .i64 9] (.tuple #[.string ⟨#[49,32,50,32]⟩,.int .i64 3,.int .i64 0]))
  (h4:wH 33 #[.string ⟨#[45,46,65,46,65,46,59,59,59,65,58,115,48,105,49,110,66,110,67,46]⟩] (.tuple #[.int .i64 0,.int .i64 q]))
  (h5:wH 34 #[.string ⟨#[59,59,59,105,58,44,111,60,108,48,53,44,119,108,48,115,48,43,108,48,49,108,48,46]⟩,.string ⟨#[]⟩,.int .i64 200] (.tuple #[.string ⟨#[48,32,49,32,50,32,51,32,52,32]⟩,.int .i64 5,.int .i64 0]))
  (h6: ∀w,fd w->Calls prog 35 #[.string ⟨#[59,59,59,58,43,51,52,46]⟩] w λen w'=>(∃s:ByteArray,en= .returned (.tuple #[.string s,.int .i64 0])/\0<s.size)/\B_ w w')
  (w:World) (ht:fd w):Calls prog 17 #[] w λen w'=>en= .returned (.bool true)/\B_ w w':=by
 have k:=hid (λw1 h=>h2 w1 (ht.but h));have l:=hid (λw1 h=>h3 w1 (ht.but h));have m:=hid (λw1 h=>h4 w1 (ht.but h));have n:=hid (λw1 h=>h5 w1 (ht.but h));have r:=hid (λw1 h=>h6 w1 (ht.but h));have j:=hid (h1 w ht);clear h1 h2 h3 h4 h5 h6 ht
 go_in
 go_wp2_with fail;refine j.out.mono ?_;rintro en w1 ⟨rfl,f⟩;go_wp2_with fail;refine(k.out _ f).mono ?_;rintro en w2 ⟨rfl,a⟩;replace a:=f.trans a;go_wp2_with fail;refine(l.out _ a).mono ?_;rintro en x ⟨rfl,b⟩;replace b:=a.trans b;go_wp2_with fail;refine(m.out _ b).mono ?_;rintro en y ⟨rfl,c⟩;replace c:=b.trans c;go_wp2_with fail;refine(n.out _ c).mono ?_;rintro en z ⟨rfl,e⟩;replace e:=c.trans e;go_wp2_with fail;refine(r.out _ e).mono ?_;rintro en A ⟨⟨s,rfl,t⟩,g⟩;replace g:=e.trans g
 have v:s.toList.isEmpty=false:=by
  obtain⟨d⟩:=s;rw[ByteArray.toList_eq]
  show d.toList.isEmpty=false
  have:0<d.size:=t
  cases h:d.toList with
  |nil=>rw[<-Array.length_toList,h]at this;cases this
  |cons=>rfl
 clear j k l m n r f a b c e t;go_wp2_with fail;refine(ip _ _).mono ?_;rintro en i ⟨rfl,rfl⟩;go_wp2_with fail;refine(ip _ _).mono ?_;rintro en i ⟨rfl,rfl⟩;go_wp2_with fail;refine(ip _ _).mono ?_;rintro en i ⟨rfl,rfl⟩;go_wp2_with fail;refine(ip _ _).mono ?_;rintro en i ⟨rfl,rfl⟩;go_wp2_with fail;refine(ip _ _).mono ?_;rintro en i ⟨rfl,rfl⟩;go_wp2_with fail;refine(ip _ _).mono ?_;rintro en i ⟨rfl,rfl⟩;go_wp2_with fail
 all_goals go_ret
 all_goals exact⟨rfl,g⟩
end
section
open Go Sp
theorem CV:jW ⟨#[59,59,59,58,107,49,107,50,43,116,46]⟩=(0,0):=by decide+kernel
theorem CW:te ⟨#[59,59,59,58,107,49,107,50,43,116,46]⟩=([124,44,105,124,44,105,105,124,44,105,124,44,59],0):=by decide+kernel
theorem Fx:lT ⟨#[59,59,59,58,107,49,119,107,50,119,107,51,116,46]⟩ ⟨#[]⟩ 0 9=([49,32,50,32],3,0):=by kernel_rfl
theorem D3:dN ⟨#[45,46,65,46,65,46,59,59,59,65,58,115,48,105,49,110,66,110,67,46]⟩=(0,0):=by decide+kernel
theorem D4:iy ⟨#[59,59,59,105,58,44,111,60,108,48,53,44,119,108,48,115,48,43,108,48,49,108,48,46]⟩ ⟨#[]⟩ 200=([48,32,49,32,50,32,51,32,52,32],5,0):=by decide+kernel
theorem D5:dN ⟨#[59,59,59,58,43,51,52,46]⟩=(0,0):=by decide+kernel
end
section
open Go Go.RowKit Sp
theorem A9 (w:World) (ht:fd w):Calls prog 17 #[] w λen w'=>en= .returned (.bool true)/\B_ w w':=by
 have m: ∀n:Nat,n<=100->n<=maxLen:=λn h=>by unfold maxLen;omega
 have a:=λw (_:fd w)=>qP ⟨#[59,59,59,58,107,49,107,50,43,116,46]⟩ w (m _ (by decide))
 have b:=λw (_:fd w)=>xR ⟨#[59,59,59,58,107,49,107,50,43,116,46]⟩ w (m _ (by decide))
 have c:=λw (h:fd w)=>wA ⟨#[59,59,59,58,107,49,119,107,50,119,107,51,116,46]⟩ ⟨#[]⟩ 0 9 w (m _ (by decide)) h
 have d:=λw (_:fd w)=>Av ⟨#[45,46,65,46,65,46,59,59,59,65,58,115,48,105,49,110,66,110,67,46]⟩ w (m _ (by decide))
 have f:=λw (h:fd w)=>sF ⟨#[59,59,59,105,58,44,111,60,108,48,53,44,119,108,48,115,48,43,108,48,49,108,48,46]⟩ ⟨#[]⟩ 200 w (m _ (by decide)) h
 have g:=λw (h:fd w)=>oF ⟨#[59,59,59,58,43,51,52,46]⟩ w (m _ (by decide)) h
 rw[CV]at a;rw[CW]at b;rw[Fx]at c;rw[D3]at d;rw[D4]at f;rw[D5]at g;refine CU a b c d f (λw h=>(g w h).mono ?_) w ht;rintro en w' ⟨⟨r,e,j⟩,i⟩;exact⟨⟨r,e,(j.1 rfl).1⟩,i⟩
end
section
open Go Go.RowKit Sp
attribute [local go_sem ↓] eF eG
theorem Ba (ao:Option Addr) (n cap:Nat) (w:World) (hw:fd w) (hO:D7 w ao n):
  Calls prog 14 #[.slice ao n cap] w λen w'=>en= .returned (.bool true)/\B_ w w':=by
 have B:=hid (λkd x y z s t u w1 (hB:B_ w w1)=>yr kd x y z s t u w1 (hw.but hB));have g:=hid (λw1 (hB:B_ w w1)=>A9 w1 (hw.but hB));clear hw
 go_in
 go_wp2_with fail;have hn:n<=9223372036854775807:=hO.1
 go_loopg [3] n (λmm is wr=> ∃(k:Nat),is= .int .i64 k/\k<=n/\k+mm<=n/\n<=k+mm/\B_ w wr)
 case atStart=>exact⟨0,rfl,by omega,by omega,by omega,cq _ _⟩
 case round=>
  obtain⟨k,rfl,E,f,F,a⟩:=hrel;clear f
  by_cases d:k<n/\(k:Int)<1152921504606846976
  .obtain⟨d,H⟩:=d;have G:(k:Int)<(n:Int):=by omega
   obtain⟨b,o,rfl,hb,i⟩:=hO.2 (by omega);obtain⟨kd,s,⟨x,y,z,t,u,j,l,m,q,r,v,A⟩,I⟩:=i k d;have D:b<wr.heap.size:=aP hb a.size;rw[<-a.cell (p:=⟨b,_,none⟩) hb (λh=>h)]at j l m q r v A;clear i;have J:IntKind.i64.wrap ((k:Int)+1)=(k:Int)+1:=(IntWalk.i64_left _).trans (IntWalk.wrap64_in _ ⟨by omega,by omega⟩);go_wp2_with fail;refine(B.out kd x y z s t u _ a I).mono ?_;rintro en w1 ⟨rfl,c⟩;replace c:=a.trans c;clear j l m q r v A;go_wp2_with fail
   go_roundg (n-(k+1))
   case measure=>omega
   case rel=>exact⟨k+1,by simp,by omega,by omega,by omega,c⟩
  .obtain h1|h1:=Int.lt_or_le (k:Int) (n:Int)
   .have C: ¬(k:Int)<1152921504606846976:=λh=>d ⟨by omega,h⟩
    go_wp2_with fail;refine(g.out _ a).mono ?_;rintro en w1 ⟨rfl,c⟩;have e:=a.trans c;go_wp2_with fail;exact cV (.bool true) results14 rfl rfl ⟨rfl,e⟩
   .have C:=gtJ h1;go_wp2_with fail;refine(g.out _ a).mono ?_;rintro en w1 ⟨rfl,c⟩;have e:=a.trans c;go_wp2_with fail;exact cV (.bool true) results14 rfl rfl ⟨rfl,e⟩
end
section
open Go
theorem ue {W:World} (h:laidMet prog Rows.agreeRow.laid W):fd W:=
 Lib.tabIs_of_head (rest:=[]) (g:=0) (t:=329) (e:=323) (n:=20) (by kernel_rfl) (by kernel_rfl) (by kernel_rfl) (by kernel_rfl) (by kernel_rfl) (by kernel_rfl) h.tail.tail
end
end Go.Proofs.YtpfkkmacakjmbaaGreatDoor
