import Derived.Test.YtpfkkmacakjmbaaGreatDoorP01
set_option maxRecDepth 100000
set_option maxHeartbeats 6400000
set_option linter.all false
namespace Go.Proofs.YtpfkkmacakjmbaaGreatDoor
section
open Go Sp
def leL (cs:List Cls):L_->L_->Prop
 | [],[]=>True
 |x::a,y::b=>bR cs x y=true/\leL cs a b
 |_,_=>False
theorem bX {cs:List Cls}: ∀a:L_,leL cs a a
 | []=>trivial
 |x::a=>⟨gu x,bX a⟩
theorem iR {cs:List Cls}: ∀{a b:L_},leL cs a b->a.length=b.length
 | [],[],_=>rfl
 |x::a,y::b,h=>by simp[iR h.2]
 | [],_::_,h=>h.elim
 |_::_,[],h=>h.elim
theorem mi {cs:List Cls} (hw:WfC cs): ∀{a b c:L_},leL cs a b->leL cs b c->leL cs a c
 | [],[],[],_,_=>trivial
 |x::a,y::b,z::c,h,k=>⟨mR hw h.1 k.1,mi hw h.2 k.2⟩
 | [],_::_,_,h,_=>h.elim
 |_::_,[],_,h,_=>h.elim
 | [],[],_::_,_,k=>k.elim
 |_::_,_::_,[],_,k=>k.elim
theorem p9 {cs:List Cls} (hw:WfC cs): ∀{a b:L_},leL cs a b->leL cs b a->a=b
 | [],[],_,_=>rfl
 |x::a,y::b,h,k=>by rw[rT hw h.1 k.1,p9 hw h.2 k.2]
 | [],_::_,h,_=>h.elim
 |_::_,[],h,_=>h.elim
theorem ig {cs:List Cls}: ∀{a b c d:L_},leL cs a b->leL cs c d->leL cs (a++c) (b++d)
 | [],[],_,_,_,k=>k
 |x::a,y::b,_,_,h,k=>⟨h.1,ig h.2 k⟩
 | [],_::_,_,_,h,_=>h.elim
 |_::_,[],_,_,h,_=>h.elim
theorem qa {cs:List Cls}: ∀{a b:L_} (k:Nat),leL cs a b->leL cs (a.take k) (b.take k)
 | [],[],k,_=>by simp[leL]
 |x::a,y::b,0,h=>trivial
 |x::a,y::b,k+1,h=>⟨h.1,qa k h.2⟩
 | [],_::_,_,h=>h.elim
 |_::_,[],_,h=>h.elim
theorem jh {cs:List Cls}: ∀{a b:L_} (k:Nat),leL cs a b->bR cs (a.getD k 0) (b.getD k 0)=true
 | [],[],k,_=>by simp[gu]
 |x::a,y::b,0,h=>by simpa using h.1
 |x::a,y::b,k+1,h=>by simpa using jh k h.2
 | [],_::_,_,h=>h.elim
 |_::_,[],_,h=>h.elim
theorem sV {cs:List Cls}: ∀{a b:L_} (k:Nat) {u v:UInt8},leL cs a b->bR cs u v=true->leL cs (a.set k u) (b.set k v)
 | [],[],k,_,_,_,_=>by simp[leL]
 |x::a,y::b,0,_,_,h,hu=>⟨hu,h.2⟩
 |x::a,y::b,k+1,_,_,h,hu=>⟨h.1,sV k h.2 hu⟩
 | [],_::_,_,_,_,h,_=>h.elim
 |_::_,[],_,_,_,h,_=>h.elim
theorem oI {cs:List Cls} (hw:WfC cs): ∀{a b:L_},a.length=b.length->leL cs a (dW cs a b)/\leL cs b (dW cs a b)/\ ∀c,leL cs a c->leL cs b c->leL cs (dW cs a b) c
 | [],[],_=>⟨trivial,trivial,λc h _=>h⟩
 |x::a,y::b,h=>by
  have ih:=oI hw (a:=a) (b:=b) (by simpa using h);have d:=mh hw x y;refine⟨⟨d.1,ih.1⟩,⟨d.2.1,ih.2.1⟩,λc h1 h2=> ?_⟩
  match c,h1,h2 with
  |z::c,h1,h2=>exact⟨d.2.2 z h1.1 h2.1,ih.2.2 c h1.2 h2.2⟩
  | [],h1,_=>exact h1.elim
 | [],_::_,h=>by simp at h
 |_::_,[],h=>by simp at h
abbrev Sp2:=L_×L_
def leS (cs:List Cls) (a b:Sp2):Prop:=leL cs a.1 b.1/\leL cs a.2 b.2
def leO (cs:List Cls):St->St->Prop
 |none,_=>True
 |some a,some b=>leS cs a b
 |some _,none=>False
def ez (cs:List Cls) (t u:List St):Prop:=t.length=u.length/\ ∀k:Nat,leO cs (t.getD k none) (u.getD k none)
theorem mj {cs:List Cls} (hw:WfC cs) {a b c:Sp2} (h:leS cs a b) (k:leS cs b c):leS cs a c:=⟨mi hw h.1 k.1,mi hw h.2 k.2⟩
theorem uz {cs:List Cls} (a:St):leO cs a a:=by
 cases a with
 |none=>trivial
 |some a=>exact⟨bX _,bX _⟩
theorem zm {cs:List Cls} (hw:WfC cs) {a b c:St} (h:leO cs a b) (k:leO cs b c):leO cs a c:=by
 cases a with
 |none=>trivial
 |some a=>
  cases b with
  |none=>exact h.elim
  |some b=>
   cases c with
   |none=>exact k.elim
   |some c=>exact mj hw h k
theorem Bi {cs:List Cls} (hw:WfC cs) {a b:St} (h:leO cs a b) (k:leO cs b a):a=b:=by
 cases a with
 |none=>
  cases b with
  |none=>rfl
  |some b=>exact k.elim
 |some a=>
  cases b with
  |none=>exact h.elim
  |some b=>
   obtain⟨a1,c⟩:=a;obtain⟨b1,b2⟩:=b;have d:a1=b1:=p9 hw h.1 k.1;have e:c=b2:=p9 hw h.2 k.2;rw[d,e]
theorem wY {cs:List Cls} (hw:WfC cs) {t u:List St} (h:ez cs t u) (k:ez cs u t):t=u:=by
 apply List.ext_getElem h.1
 intro i a b;have:=Bi hw (h.2 i) (k.2 i);simpa[List.getD,a,b]using this
theorem eh {cs:List Cls} (t:List St):ez cs t t:=⟨rfl,λ_=>uz _⟩
theorem iB {cs:List Cls} (hw:WfC cs) {t u v:List St} (h:ez cs t u) (k:ez cs u v):ez cs t v:=⟨h.1.trans k.1,λi=>zm hw (h.2 i) (k.2 i)⟩
theorem uA {cs:List Cls} {a b:UInt8} (h:bR cs a b=true) (hb:isR b=true):isR a=true:=by
 rw[bc]at h;simp only[isR,Bool.or_eq_true,dk]at hb⊢;obtain rfl|h| ⟨_,h⟩ | ⟨h,_⟩:=h
 .exact hb
 .obtain hb|hb:=hb
  .omega
  .rw[cz]at hb;omega
 .exact Or.inl h
 .exact Or.inr h
theorem uB {cs:List Cls} {c:Nat} {s t:L_} {k:Nat} (h:leL cs s t) (hk:eg c t=some k):eg c s=some k:=by
 have hl:=iR h;unfold eg at hk⊢;have d1:=λhb=>uA (jh (t.length-1) h) hb
 have d2:=λhb=>uA (jh (t.length-2) h) hb
 rw[hl]
 split at hk
 .rename_i h101
  rw[if_pos h101]
  split at hk
  .cases hk
  .rename_i hn
   rw[if_neg]
   .exact hk
   .simp only[not_or,Bool.not_eq_false]at hn⊢;exact⟨hn.1,d1 hn.2.1,d2 hn.2.2⟩
 .rename_i h101
  rw[if_neg h101]
  split at hk
  .cases hk
  .rename_i hn
   rw[if_neg]
   .exact hk
   .simp only[not_or,not_and,Bool.not_eq_false]at hn⊢;exact⟨hn.1,λh120=>d1 (hn.2 h120)⟩
theorem wZ {cs:List Cls} (hw:WfC cs) {s t wa:L_} (h:leL cs s t) (hf:dz cs t wa=true):dz cs s wa=true:=by
 have hl:=iR h;unfold dz at hf⊢;simp only[dl,dk,List.all_eq_true,List.mem_range]at hf⊢;rw[hl];exact⟨hf.1,λi hi=>mR hw (jh _ h) (hf.2 i hi)⟩
theorem rU {cs:List Cls} (hw:WfC cs) {gs:List Sig} {b:Bod} {x:Ins} {s l t m t' m':L_} (h1:leL cs s t) (h2:leL cs l m) (he:cX cs gs b x t m=some (t',m')):
  ∃s' l',cX cs gs b x s l=some (s',l')/\leL cs s' t'/\leL cs l' m':=by
 have hl:=iR h1;unfold cX at he⊢
 split at he
 .rename_i hc
  rw[if_pos hc]
  split at he
  .cases he
  .rename_i k hk
   rw[uB h1 hk];injection he with he;injection he with e1 e2;refine⟨_,_,rfl,?_,?_⟩
   .rw[<-e1,hl];exact ig (qa _ h1) (bX _)
   .rw[<-e2,hl]
    split
    .exact sV _ h2 (jh _ h1)
    .exact h2
 .rename_i hc
  rw[if_neg hc]
  split at he
  .rename_i h108
   rw[if_pos h108]
   split at he
   .cases he
   .rename_i h45
    injection he with he;injection he with e1 e2;have a:=jh x.b h2
    have: ¬(l.getD x.b 0).toNat=45:=by
     intro h;rw[bc]at a;obtain a|a| ⟨_,a⟩ | ⟨a,_⟩:=a
     .rw[a]at h;exact h45 h
     .exact h45 a
     .omega
     .rw[cz]at a;omega
    rw[if_neg this];refine⟨_,_,rfl,?_,?_⟩
    .rw[<-e1];exact ig h1 ⟨a,trivial⟩
    .rw[<-e2];exact h2
  .rename_i h108
   rw[if_neg h108]
   split at he
   .rename_i hf
    rw[if_pos (wZ hw h1 hf)];injection he with he;injection he with e1 e2;refine⟨_,_,rfl,?_,?_⟩
    .rw[<-e1,hl];exact ig (qa _ h1) (bX _)
    .rw[<-e2];exact h2
   .cases he
def fL (cs:List Cls) (H:List St) (j:Int) (st:Sp2):Prop:=j<0\/ ∃st',H[j.toNat]?=some (some st')/\leS cs st st'
structure oJ (im:Img) (bd:Bod) (H:List St):Prop where
 len:H.length=bd.code.length
 start: ∃s0,H[0]?=some (some s0)/\leS im.zq ([],bd.zy) s0
 go: ∀(i:Nat) (x:Ins) (s l:L_),bd.code[i]?=some x->H[i]?=some (some (s,l))-> ∃s' l',cX im.zq im.zx bd x s l=some (s',l')/\fL im.zq H (dJ x i).1 (s',l')/\fL im.zq H (dJ x i).2 (s',l')
theorem getD_some {t:List St} {k:Nat} {p:Sp2}:t.getD k none=some p↔t[k]?=some (some p):=by
 simp only[List.getD]
 cases h:t[k]? with
 |none=>simp
 |some o=>simp
theorem mS {cs:List Cls} (hw:WfC cs) {o:St} {sb lb:L_} {m:Sp2} (hl: ∀s l,o=some (s,l)->l.length=lb.length) (h:iJ cs o sb lb=some m):leO cs o (some m)/\leS cs (sb,lb) m/\ ∀c,leO cs o (some c)->leS cs (sb,lb) c->leS cs m c:=by
 cases o with
 |none=>
  simp[iJ]at h;subst h;exact⟨trivial,⟨bX _,bX _⟩,λc _ h=>h⟩
 |some p=>
  obtain⟨sa,la⟩:=p;simp only[iJ]at h
  split at h
  .rename_i hlen
   injection h with h;subst h;have b1:=oI hw hlen;have b2:=oI hw (hl sa la rfl);exact⟨⟨b1.1,b2.1⟩,⟨b1.2.1,b2.2.1⟩,λc h k=>⟨b1.2.2 _ h.1 k.1,b2.2.2 _ h.2 k.2⟩⟩
  .cases h
theorem lH {cs:List Cls} (hw:WfC cs) {T:Tn} {H:List St} {j:Int} {sb lb:L_} (hb:T.2.2=false) (h:ez cs T.1 H) (hr:fL cs H j (sb,lb)):
  (cH cs T j sb lb).2.2=false/\ez cs (cH cs T j sb lb).1 H:=by
 unfold cH
 split
 .exact⟨hb,h⟩
 rename_i hj
 simp only[hb,false_or,dx]at hj;obtain hr| ⟨st',hst,hle⟩:=hr
 .exact absurd hr hj
 have g:j.toNat<H.length:=(bn hst).1;have b:=h.1
 split
 .omega
 have a:=h.2 j.toNat;rw[getD_some.2 hst]at a
 have d: ∃m,iJ cs (T.1.getD j.toNat none) sb lb=some m:=by
  cases hh:T.1.getD j.toNat none with
  |none=>exact⟨_,rfl⟩
  |some p=>
   rw[hh]at a;have f:=iR a.1;have c:=iR hle.1;simp only at c;exact⟨_,by unfold iJ;simp only;rw[if_pos (by omega)]⟩
 obtain⟨m,hm⟩:=d;rw[hm];simp only
 split
 .exact⟨hb,h⟩
 .refine⟨rfl,⟨by rw[List.length_set];exact b,λk=> ?_⟩⟩
  by_cases hk:k=j.toNat
  .subst hk;have e:(T.1.set j.toNat (some m)).getD j.toNat none=some m:=by simp[List.getD,show j.toNat<T.1.length by omega]
   rw[e,getD_some.2 hst]
   have hl: ∀s l,T.1.getD j.toNat none=some (s,l)->l.length=lb.length:=λs l hh=>by
    rw[hh]at a;have f:=iR a.2;have c:=iR hle.2;simp only at f c;omega
   exact(mS hw hl hm).2.2 st' a hle
  .have e:(T.1.set j.toNat (some m)).getD k none=T.1.getD k none:=by simp[List.getD,List.getElem?_set,show¬j.toNat=k from λh=>hk h.symm]
   rw[e];exact h.2 k
theorem uC {im:Img} (hw:WfC im.zq) {bd:Bod} {T:Tn} {H:List St} (hG:oJ im bd H) (hb:T.2.2=false) (h:ez im.zq T.1 H) (i:Nat):
  ∃T',g9 im bd T i=some T'/\T'.2.2=false/\ez im.zq T'.1 H:=by
 cases hx:bd.code[i]? with
 |none=>exact⟨T,by unfold g9;rw[hx],hb,h⟩
 |some x=>
  cases ho:T.1.getD i none with
  |none=>exact⟨T,by unfold g9;rw[hx,ho],hb,h⟩
  |some p=>
   obtain⟨s,l⟩:=p;have a:=h.2 i;rw[ho]at a
   cases hq:H.getD i none with
   |none=>rw[hq]at a;exact a.elim
   |some q=>
    obtain⟨t,m⟩:=q;rw[hq]at a;obtain⟨t',m',d,e,f⟩:=hG.go i x t m hx (getD_some.1 hq);obtain⟨s',l',b,l1,l2⟩:=rU hw a.1 a.2 d;refine⟨_,pZ hx (getD_some.1 ho) b,?_⟩
    have low: ∀j,fL im.zq H j (t',m')->fL im.zq H j (s',l'):=λj hj=>by
     obtain hj| ⟨st,h1,h2⟩:=hj
     .exact Or.inl hj
     .exact Or.inr ⟨st,h1,mj hw ⟨l1,l2⟩ h2⟩
    have c:=lH hw hb h (low _ e);exact lH hw c.1 c.2 (low _ f)
theorem sW {im:Img} (hw:WfC im.zq) {bd:Bod} {H:List St} (hG:oJ im bd H): ∀{f i:Nat} {T:Tn},T.2.2=false->ez im.zq T.1 H-> ∃T',fe im bd f i T=some T'/\T'.2.2=false/\ez im.zq T'.1 H:=by
 intro f
 induction f with
 |zero=>intro i T hb h;exact⟨T,rfl,hb,h⟩
 |succ f ih=>
  intro i T hb h;obtain⟨j,b,c,d⟩:=uC hw hG hb h i;obtain⟨a,e,g⟩:=ih (i:=i+1) c d;exact⟨a,by rw[o7 hb b];exact e,g⟩
theorem rp {im:Img} (hw:WfC im.zq) {bd:Bod} {H:List St} (hG:oJ im bd H): ∀{f:Nat} {tb:List St} {ch:Bool},ez im.zq tb H-> ∃t,fY im bd f (tb,ch,false)=some t/\ez im.zq t H:=by
 intro f
 induction f with
 |zero=>intro tb ch h;exact⟨tb,rfl,h⟩
 |succ f ih=>
  intro tb ch h
  cases ch with
  |false=>exact⟨tb,kJ im bd _ tb _,h⟩
  |true=>
   obtain⟨c,d,a,b⟩:=sW hw hG (f:=bd.code.length) (i:=0) (T:=(tb,false,false)) rfl h;obtain⟨t1,c1,b1⟩:=c;simp only at a b;subst a;obtain⟨t,e,g⟩:=ih (ch:=c1) b;refine⟨t,?_,g⟩;rw[pX,d];simp only[mQ];rw[if_neg (by simp)];exact e
theorem lI {im:Img} {bd:Bod} {H:List St} (hG:oJ im bd H):ez im.zq (di bd) H:=by
 obtain⟨d,b,c⟩:=hG.start;refine⟨by unfold di;simp[hG.len],λk=> ?_⟩;unfold di;have a:0<bd.code.length:=by rw[<-hG.len];exact(bn b).1
 cases k with
 |zero=>
  have:((List.replicate bd.code.length (none:St)).set 0 (some ([],bd.zy))).getD 0 none=some ([],bd.zy):=by simp[List.getD,a]
  rw[this,getD_some.2 b];exact c
 |succ k=>
  have:((List.replicate bd.code.length (none:St)).set 0 (some ([],bd.zy))).getD (k+1) none=none:=by
   simp only[List.getD,List.getElem?_set];rw[if_neg (by omega)];rw[List.getElem?_replicate]
   split<;>rfl
  rw[this]
  trivial
theorem nE {im:Img} (hw:WfC im.zq) {bd:Bod} {H:List St} (hG:oJ im bd H): ∃t,dP im bd=some t/\ez im.zq t H:=
 rp hw hG (lI hG)
def rk (c:UInt8):Nat:=if c.toNat=45 then 0 else if c.toNat=122 then 5 else if isC c=true then 1+(c.toNat-65)else 1
theorem FA (c:UInt8):rk c<=5:=by
 unfold rk
 split
 .omega
 split
 .omega
 split
 .rename_i h;rw[cz]at h;omega
 .omega
theorem xb {c:UInt8} (h:isC c=true):rk c=1+(c.toNat-65)/\65<=c.toNat/\c.toNat<=68:=by
 have h':=h;rw[cz]at h';unfold rk;rw[if_neg (by omega),if_neg (by omega),if_pos h];exact⟨rfl,h'.1,h'.2⟩
theorem FB {cs:List Cls} (hw:WfC cs) {a b:UInt8} (h:bR cs a b=true) (hne:a≠b):rk b<rk a:=by
 have c:a.toNat≠b.toNat:=λe=>hne (ck e)
 rw[bc]at h;obtain h|h| ⟨h1,h2⟩ | ⟨h1,h2,h3⟩:=h
 .exact absurd h hne
 .have hb:rk b=0:=by unfold rk;rw[if_pos h]
  have ha:1<=rk a:=by
   unfold rk;rw[if_neg (by omega)]
   split
   .omega
   split<;>omega
  omega
 .have:=xb h1;have ha:rk a=5:=by unfold rk;rw[if_neg (by omega),if_pos h2]
  omega
 .have c1:=xb h1;have c2:=xb h2;have r:=km hw h1;have:=wT hw 4 (by omega) (by omega) h3;unfold kl at this;omega
def rq (l:L_):Nat:=(l.map rk).sum
theorem nG: ∀l:L_,rq l<=5*l.length
 | []=>by simp[rq]
 |x::l=>by
  have:=nG l;have:=FA x;simp only[rq,List.map_cons,List.sum_cons,ie]at*;omega
theorem oK {cs:List Cls} (hw:WfC cs): ∀{a b:L_},leL cs a b->rq b<=rq a/\(a≠b->rq b<rq a)
 | [],[],_=>⟨bG _,λh=>absurd rfl h⟩
 |x::a,y::b,h=>by
  have ih:=oK hw h.2;simp only[rq,List.map_cons,List.sum_cons]at*
  by_cases hxy:x=y
  .subst hxy;refine⟨by omega,λhn=> ?_⟩;have:=ih.2 (λe=>hn (by rw[e]));omega
  .have:=FB hw h.1 hxy;exact⟨by omega,λ_=>by omega⟩
 | [],_::_,h=>h.elim
 |_::_,[],h=>h.elim
def wt:St->Nat
 |none=>700
 |some (s,l)=>rq s+rq l
def mu (t:List St):Nat:=(t.map wt).sum
theorem Bj: ∀{t:List St} {j:Nat} (o:St) (hj:j<t.length),mu (t.set j o)+wt t[j]=mu t+wt o
 |x::t,0,o,_=>by simp[mu];omega
 |x::t,j+1,o,h=>by
  have:=Bj (t:=t) (j:=j) o (by simpa using h);simp only[mu,List.set_cons_succ,List.map_cons,List.sum_cons,List.getElem_cons_succ]at*;omega
 | [],_,_,h=>by simp at h
theorem D8: ∀{t:List St},(∀o∈t,wt o<=700)->mu t<=700*t.length
 | [],_=>by simp[mu]
 |x::t,h=>by
  have a:=h x (by simp);have b:=D8 (t:=t) (λo ho=>h o (by simp[ho]));simp only[mu,List.map_cons,List.sum_cons,ie]at*;omega
theorem mT {cs:List Cls} (hw:WfC cs) (hnc:cs.length<=4) {nl n:Nat} (hnl:nl<=5) (hn:n<=100) {T:Tn} {j:Int} {sb lb:L_} (h:wfT cs.length nl n T.1) (hz:okZ cs.length nl sb lb) (hl:sb.length<=kH T.1) (hb:(cH cs T j sb lb).2.2=false):
  T.2.2=false/\ez cs T.1 (cH cs T j sb lb).1/\((cH cs T j sb lb=T/\fL cs T.1 j (sb,lb))\/((cH cs T j sb lb).2.1=true/\mu (cH cs T j sb lb).1<mu T.1)):=by
 have c:=(kk hnc hw (j:=j) h hz hl).1;revert hb c;unfold cH
 split
 .rename_i h1
  intro hb _;refine⟨hb,eh _,Or.inl ⟨rfl,?_⟩⟩;obtain h1|h1:=h1
  .rw[hb]at h1;cases h1
  .exact Or.inl h1
 rename_i h1
 have d:T.2.2=false:=by have:=(not_or.1 h1).1;simpa using this
 split
 .intro hb;cases hb
 rename_i h2
 have b:j.toNat<T.1.length:=by omega
 have f:T.1.getD j.toNat none=T.1[j.toNat]:=by simp[List.getD,b]
 split
 .intro hb;cases hb
 rename_i m hm
 have g: ∀s l,T.1.getD j.toNat none=some (s,l)->l.length=lb.length:=λs l hh=>by
  have:=(h.2 j.toNat s l (getD_some.1 hh)).1.2.2;rw[this,hz.2.2]
 have a:=mS hw g hm
 split
 .rename_i hsame
  intro _ _;refine⟨d,eh _,Or.inl ⟨rfl,Or.inr ⟨m,getD_some.1 hsame.symm,a.2.1⟩⟩⟩
 .rename_i hdiff
  intro _ c;refine⟨d,⟨by simp,λk=> ?_⟩,Or.inr ⟨rfl,?_⟩⟩
  .by_cases hk:k=j.toNat
   .subst hk;have i:(T.1.set j.toNat (some m)).getD j.toNat none=some m:=by simp[List.getD,b]
    simp only;rw[i];exact a.1
   .have i:(T.1.set j.toNat (some m)).getD k none=T.1.getD k none:=by simp[List.getD,List.getElem?_set,show¬j.toNat=k from λh=>hk h.symm]
    simp only;rw[i];exact uz _
  .have t:=Bj (some m) b;simp only;rw[f]at hm hdiff a
   suffices wt (some m)<wt T.1[j.toNat] by omega
   obtain⟨q,r⟩:=m
   cases ho:T.1[j.toNat]with
   |none=>
    have e:=c.okS hn j.toNat q r (by simp only;rw[List.getElem?_set];simp[b]);have v:=nG q;have s2:=nG r;have:=e.2.2.1;have:=e.2.2.2;simp only[wt];omega
   |some p=>
    obtain⟨sa,la⟩:=p;rw[ho]at a hdiff;have d1:=oK hw a.1.1;have d2:=oK hw a.1.2;simp only at d1 d2;simp only[wt]
    by_cases e1:sa=q
    .by_cases e2:la=r
     .rw[e1,e2]at hdiff;exact absurd rfl hdiff
     .have:=d2.2 e2;omega
    .have:=d1.2 e1;omega
def qb (im:Img) (bd:Bod) (t:List St) (i:Nat):Prop:=
 ∀(x:Ins) (s l:L_),bd.code[i]?=some x->t[i]?=some (some (s,l))-> ∃s' l',cX im.zq im.zx bd x s l=some (s',l')/\fL im.zq t (dJ x i).1 (s',l')/\fL im.zq t (dJ x i).2 (s',l')
theorem xd {im:Img} (hW:WfI im) {bd:Bod} (hbd:WfB im.zq im.zx bd) {T T':Tn} {i:Nat} (h:wfT im.zq.length bd.zy.length bd.code.length T.1) (hs:g9 im bd T i=some T') (hb:T'.2.2=false):
  ez im.zq T.1 T'.1/\((T'=T/\qb im bd T.1 i)\/(T'.2.1=true/\mu T'.1<mu T.1)):=by
 cases hx:bd.code[i]? with
 |none=>
  have:g9 im bd T i=some T:=by unfold g9;rw[hx]
  rw[this]at hs;injection hs with hs;subst hs;exact⟨eh _,Or.inl ⟨rfl,λx s l h1=>by rw[hx]at h1;cases h1⟩⟩
 |some x=>
  cases ho:T.1.getD i none with
  |none=>
   have:g9 im bd T i=some T:=by unfold g9;rw[hx,ho]
   rw[this]at hs;injection hs with hs;subst hs;refine⟨eh _,Or.inl ⟨rfl,λx s l _ h2=> ?_⟩⟩;rw[getD_some.2 h2]at ho
   cases ho
  |some p=>
   obtain⟨s,l⟩:=p;have f:=getD_some.1 ho
   cases he:cX im.zq im.zx bd x s l with
   |none=>rw[wP hx f he]at hs;cases hs
   |some q=>
    obtain⟨s',l'⟩:=q;rw[pZ hx f he]at hs;injection hs with hs;subst hs;have k:=h.2 i s l f;have b:=nB hW (hbd.code x (a9 hx)) k.1 he;have d:s'.length<=kH T.1:=by omega
    have w1:=kk hW.nc hW.cls (j:=(dJ x i).1) h b.1 d;have c2:=mT hW.cls hW.nc hbd.loc.1 hbd.len.2 w1.1 b.1 (by omega) hb;have c1:=mT hW.cls hW.nc hbd.loc.1 hbd.len.2 h b.1 d c2.1;refine⟨iB hW.cls c1.2.1 c2.2.1,?_⟩;obtain⟨e,g⟩ | ⟨e,g⟩:=c1.2.2
    .obtain⟨a,c⟩ | ⟨a,c⟩:=c2.2.2
     .left
      rw[e]at a c⊢;refine⟨a,λx' s'' l'' h1 h2=> ?_⟩;rw[hx]at h1;injection h1 with h1;rw[f]at h2;injection h2 with h2;injection h2 with h2;injection h2 with h2 h3;subst h1 h2 h3;exact⟨s',l',he,g,c⟩
     .right
      refine⟨a,?_⟩;rw[e]at c⊢;exact c
    .right
     obtain⟨a,c⟩ | ⟨a,c⟩:=c2.2.2
     .rw[a];exact⟨e,g⟩
     .exact⟨a,by omega⟩
theorem zn {cs:List Cls} {T:Tn} {j:Int} {sb lb:L_} (h:T.2.2=true):cH cs T j sb lb=T:=by
 unfold cH;rw[if_pos (Or.inl h)]
theorem uD {im:Img} (hW:WfI im) {bd:Bod} (hbd:WfB im.zq im.zx bd): ∀{f i:Nat} {T T':Tn},wfT im.zq.length bd.zy.length bd.code.length T.1->fe im bd f i T=some T'->T'.2.2=false->
  ez im.zq T.1 T'.1/\((T'=T/\ ∀k,i<=k->k<i+f->qb im bd T.1 k)\/(T'.2.1=true/\mu T'.1<mu T.1)):=by
 intro f
 induction f with
 |zero=>
  intro i T T' h a hb;simp[fe]at a;subst a;exact⟨eh _,Or.inl ⟨rfl,λk h1 h2=>by omega⟩⟩
 |succ f ih=>
  intro i T T' h a hb
  by_cases hbt:T.2.2=true
  .rw[pY _ _ _ _ _ hbt]at a;injection a with a;subst a;rw[hbt]at hb
   cases hb
  .have d:T.2.2=false:=by simpa using hbt
   cases h1:g9 im bd T i with
   |none=>rw[ut d h1]at a;cases a
   |some T1=>
    rw[o7 d h1]at a
    have b:T1.2.2=false:=by
     by_cases b:T1.2.2=true
     .rw[pY _ _ _ _ _ b]at a;injection a with a;subst a;exact hb
     .simpa using b
    have c1:=xd hW hbd h h1 b;have c2:=ih (ur hW hbd h h1) a hb;refine⟨iB hW.cls c1.1 c2.1,?_⟩;obtain⟨g,j⟩ | ⟨g,j⟩:=c1.2
    .subst g;obtain⟨c,e⟩ |e:=c2.2
     .left
      refine⟨c,λk hk1 hk2=> ?_⟩
      by_cases hk:k=i
      .subst hk;exact j
      .exact e k (by omega) (by omega)
     .exact Or.inr e
    .right
     obtain⟨c,e⟩ | ⟨c,e⟩:=c2.2
     .rw[c];exact⟨g,j⟩
     .exact⟨c,by omega⟩
theorem sX {im:Img} (hW:WfI im) {bd:Bod} (hbd:WfB im.zq im.zx bd): ∀{f:Nat} {tb:List St} {ch:Bool} {t:List St},wfT im.zq.length bd.zy.length bd.code.length tb->
  (ch=false-> ∀k,k<bd.code.length->qb im bd tb k)->(ch=true->mu tb<f)->fY im bd f (tb,ch,false)=some t->ez im.zq tb t/\ ∀k,k<bd.code.length->qb im bd t k:=by
 intro f
 induction f with
 |zero=>
  intro tb ch t h d b a
  cases ch with
  |false=>
   rw[kJ]at a;injection a with a;subst a;exact⟨eh _,d rfl⟩
  |true=>exact absurd (b rfl) (by omega)
 |succ f ih=>
  intro tb ch t h d b a
  cases ch with
  |false=>
   rw[kJ]at a;injection a with a;subst a;exact⟨eh _,d rfl⟩
  |true=>
   rw[pX]at a
   cases hs:fe im bd bd.code.length 0 (tb,false,false)with
   |none=>rw[hs]at a;cases a
   |some T1=>
    rw[hs]at a;obtain⟨t1,c1,b1⟩:=T1;simp only[mQ]at a
    cases b1 with
    |true=>simp at a
    |false=>
     simp only[dx,if_false]at a;have c:=uD hW hbd (T:=(tb,false,false)) h hs rfl;have g:=rS hW hbd (T:=(tb,false,false)) h hs;obtain⟨e,r⟩ | ⟨e,r⟩:=c.2
     .injection e with e1 e2;injection e2 with e2 _;subst e1 e2;have:=ih g (λ_ k hk=>r k (by omega) (by omega)) (λh=>by cases h) a;exact this
     .simp only at e r;subst e;have hm:=b rfl;have:=ih g (λh=>by cases h) (λ_=>by show mu t1<f;omega) a;exact⟨iB hW.cls c.1 this.1,this.2⟩
theorem uE {im:Img} {bd:Bod} (hbd:WfB im.zq im.zx bd):mu (di bd)<80000:=by
 have h:mu (di bd)<=700*(di bd).length:=by
  apply D8
  intro o c
  cases o with
  |none=>simp[wt]
  |some p=>
   obtain⟨s,l⟩:=p;obtain⟨k,b⟩:=List.mem_iff_getElem?.1 c;have a:=(iz hbd).okS hbd.len.2 k s l b;have e:=nG s;have s2:=nG l;have:=a.2.2.1;have:=a.2.2.2;have:=hbd.loc.1;simp only[wt];omega
 have d:(di bd).length=bd.code.length:=(iz hbd).1;have:=hbd.len.2;omega
theorem lJ {im:Img} (hW:WfI im) {bd:Bod} (hbd:WfB im.zq im.zx bd) {t:List St} (h:dP im bd=some t):oJ im bd t:=by
 have hc:=sX hW hbd (iz hbd) (λh=>by cases h) (λ_=>uE hbd) h;have hl:=(oH hW hbd h).1;refine⟨hl,?_,λi x s l hx b=>hc.2 i (bn hx).1 x s l hx b⟩;have a:=hc.1.2 0
 have b:(di bd).getD 0 none=some ([],bd.zy):=by
  unfold di;simp[List.getD,hbd.len.1]
 rw[b]at a
 cases ht:t.getD 0 none with
 |none=>rw[ht]at a;exact a.elim
 |some s0=>rw[ht]at a;exact⟨s0,getD_some.1 ht,a⟩
theorem uF {im:Img} (hW:WfI im) {bd:Bod} (hbd:WfB im.zq im.zx bd) {t:List St} (hG:oJ im bd t) (hm: ∀H,oJ im bd H->ez im.zq t H):dP im bd=some t:=by
 obtain⟨u,b,a⟩:=nE hW.cls hG;rw[b,wY hW.cls a (hm u (lJ hW hbd b))]
theorem uG {im:Img} (hW:WfI im) {bd:Bod} (hbd:WfB im.zq im.zx bd) (h: ∀H,¬oJ im bd H):dP im bd=none:=by
 cases hu:dP im bd with
 |none=>rfl
 |some u=>exact absurd (lJ hW hbd hu) (h u)
abbrev Wn:=List St×List Bool×Bool
def bq (cs:List Cls) (W:Wn) (j:Nat) (sb lb:L_):Wn:=
 ((cH cs (W.1,false,W.2.2) j sb lb).1,if(cH cs (W.1,false,W.2.2) j sb lb).2.1=true then W.2.1.set j true else W.2.1,(cH cs (W.1,false,W.2.2) j sb lb).2.2)
structure qc (im:Img) (bd:Bod) (X:Nat->Prop) (W:Wn):Prop where
 wf:wfT im.zq.length bd.zy.length bd.code.length W.1
 wl:W.2.1.length=bd.code.length
 start:ez im.zq (di bd) W.1
 stab:W.2.2=false-> ∀k,k<bd.code.length-> ¬X k->W.2.1.getD k false=false->qb im bd W.1 k
def zo (im:Img) (bd:Bod) (W:Wn):Prop:= ∀H,oJ im bd H->W.2.2=false/\ez im.zq W.1 H
def qd (l:List Bool):Nat:=l.countP id
def muW (W:Wn):Nat:=2*mu W.1+qd W.2.1
theorem qe (l:List Bool) (j:Nat):qd (l.set j true)<=qd l+1:=by
 unfold qd
 by_cases h:j<l.length
 .rw[List.countP_set h];split<;>simp<;>omega
 .rw[List.set_eq_of_length_le (by omega)];omega
theorem ld {l:List Bool} {j:Nat} (h:l.getD j false=true):qd (l.set j false)<qd l:=by
 have a:j<l.length:=by
  by_cases a:j<l.length
  .exact a
  .simp[List.getD,List.getElem?_eq_none (by omega:l.length<=j)]at h
 have b:l[j]=true:=by simpa[List.getD,a]using h
 unfold qd;rw[List.countP_set a];have:0<l.countP id:=List.countP_pos_iff.2 ⟨_,cS a,b⟩;simp[b];omega
theorem qf {cs:List Cls} (hw:WfC cs) {t u:List St} {j:Int} {st:Sp2} (h:ez cs t u) (hr:fL cs t j st):fL cs u j st:=by
 obtain hr| ⟨st',h1,h2⟩:=hr
 .exact Or.inl hr
 .have a:=h.2 j.toNat;rw[getD_some.2 h1]at a
  cases hu:u.getD j.toNat none with
  |none=>rw[hu]at a;exact a.elim
  |some q=>rw[hu]at a;exact Or.inr ⟨q,getD_some.1 hu,mj hw h2 a⟩
theorem uH {cs:List Cls} {T:Tn} {j:Nat} {sb lb:L_} {k:Nat} (hk:k≠j):(cH cs T j sb lb).1[k]?=T.1[k]?:=by
 unfold cH
 split
 .rfl
 split
 .rfl
 split
 .rfl
 split
 .rfl
 .simp[List.getElem?_set,show¬j=k from λh=>hk h.symm]
theorem uI {im:Img} (hW:WfI im) {bd:Bod} (hbd:WfB im.zq im.zx bd) {n:Nat} {T:Tn} {j:Nat} {sb lb:L_} (h:wfT im.zq.length bd.zy.length n T.1) (hz:okZ im.zq.length bd.zy.length sb lb) (b:(cH im.zq T j sb lb).2.2=false):
  fL im.zq (cH im.zq T j sb lb).1 j (sb,lb):=by
 revert b;unfold cH
 split
 .rename_i h1
  intro b;obtain h1|h1:=h1
  .rw[b]at h1;cases h1
  .omega
 split
 .intro b;cases b
 rename_i h1 h2
 have c:(j:Int).toNat<T.1.length:=by omega
 split
 .intro b;cases b
 rename_i m hm
 have d: ∀s l,T.1.getD (j:Int).toNat none=some (s,l)->l.length=lb.length:=λs l hh=>by
  have:=(h.2 _ s l (getD_some.1 hh)).1.2.2;rw[this,hz.2.2]
 have a:=mS hW.cls d hm
 split
 .rename_i hs
  intro _;exact Or.inr ⟨m,getD_some.1 hs.symm,a.2.1⟩
 .intro _;exact Or.inr ⟨m,by simp only;rw[List.getElem?_set,if_pos rfl];simp only[c,if_true],a.2.1⟩
theorem uJ {im:Img} (hW:WfI im) {bd:Bod} (hbd:WfB im.zq im.zx bd) {X:Nat->Prop} {W:Wn} {j:Nat} {sb lb:L_} (hf:W.2.2=false) (hI:qc im bd X W) (hz:okZ im.zq.length bd.zy.length sb lb) (hl:sb.length<=kH W.1)
  (hr:(bq im.zq W j sb lb).2.2=false):
  qc im bd X (bq im.zq W j sb lb)/\ez im.zq W.1 (bq im.zq W j sb lb).1/\fL im.zq (bq im.zq W j sb lb).1 j (sb,lb)/\muW (bq im.zq W j sb lb)<=muW W/\kH W.1<=kH (bq im.zq W j sb lb).1/\(∀k,k≠j->(bq im.zq W j sb lb).1[k]?=W.1[k]?)/\((bq im.zq W j sb lb).1[j]?=W.1[j]?\/(bq im.zq W j sb lb).2.1.getD j false=true):=by
 have hc:=mT hW.cls hW.nc hbd.loc.1 hbd.len.2 (T:=(W.1,false,W.2.2)) (j:=(j:Int)) hI.wf hz hl hr;have i:=kk hW.nc hW.cls (T:=(W.1,false,W.2.2)) (j:=(j:Int)) hI.wf hz hl;have c:=λk (q:k≠j)=>uH (cs:=im.zq) (T:=(W.1,false,W.2.2)) (j:=j) (sb:=sb) (lb:=lb) q
 obtain⟨e,r⟩ | ⟨e,r⟩:=hc.2.2
 .have hid:bq im.zq W j sb lb=W:=by
   unfold bq;rw[e];simp
  rw[hid];exact⟨hI,eh _,r,bG _,bG _,λ_ _=>rfl,Or.inl rfl⟩
 .have a:(bq im.zq W j sb lb).2.1=W.2.1.set j true:=by unfold bq;simp only[e,if_true]
  have p:(bq im.zq W j sb lb).1=(cH im.zq (W.1,false,W.2.2) j sb lb).1:=rfl
  have z:j<bd.code.length:=by
   by_cases hj:j<bd.code.length
   .exact hj
   .exfalso
    have:cH im.zq (W.1,false,W.2.2) j sb lb=(W.1,false,true):=by
     unfold cH;have n:=hI.wf.1;rw[if_neg (by simp[hf]),if_pos (by simp only;omega)]
    have f:(cH im.zq (W.1,false,W.2.2) j sb lb).2.2=false:=hr;rw[this]at f
    cases f
  have g:(W.2.1.set j true).getD j false=true:=by
   have:=hI.wl;simp[List.getD,show j<W.2.1.length by omega]
  refine⟨⟨i.1,by rw[a,List.length_set];exact hI.wl,iB hW.cls hI.start hc.2.1,?_⟩,hc.2.1,?_,?_,i.2,c,Or.inr (by rw[a];exact g)⟩
  .intro _ k q y b;rw[a]at b
   by_cases hkj:k=j
   .subst hkj;rw[g]at b;cases b
   .have m:W.2.1.getD k false=false:=by
     simpa[List.getD,List.getElem?_set,show¬j=k from λh=>hkj h.symm]using b
    intro x s l hx t;rw[p,c k hkj]at t;obtain⟨s',l',n,f,v⟩:=hI.stab hf k q y m x s l hx t;exact⟨s',l',n,qf hW.cls hc.2.1 f,qf hW.cls hc.2.1 v⟩
  · --the state is there now
   have d:=uI (T:=(W.1,false,W.2.2)) hW hbd hI.wf hz hr;exact d
  .have n:mu (bq im.zq W j sb lb).1<mu W.1:=r;have f:=qe W.2.1 j;unfold muW;rw[a];omega
theorem mU {cs:List Cls} {W:Wn} {j:Nat} {sb lb:L_} (h:W.2.2=true):(bq cs W j sb lb).2.2=true:=by
 unfold bq;rw[zn (by exact h)];exact h
theorem sY {cs:List Cls} {W:Wn} {j k:Nat} {sb lb:L_} (h:W.2.1.getD k false=true):(bq cs W j sb lb).2.1.getD k false=true:=by
 unfold bq;simp only
 split
 .simp only[List.getD,List.getElem?_set]
  split
  .rename_i hjk
   subst hjk
   have:j<W.2.1.length:=by
    by_cases hj:j<W.2.1.length
    .exact hj
    .simp[List.getD,List.getElem?_eq_none (by omega:W.2.1.length<=j)]at h
   simp[this]
  .exact h
 .exact h
def jw (x:Ins) (i:Nat):List Nat:=if x.op.toNat=116 then []else if x.op.toNat=106 then [x.b]else if x.op.toNat=102 then [x.b,i+1]else [i+1]
def cZ (cs:List Cls) (sb lb:L_) (W:Wn) (l:List Nat):Wn:=l.foldl (λW j=>bq cs W j sb lb) W
theorem sZ {cs:List Cls} {sb lb:L_}: ∀{l:List Nat} {W:Wn},W.2.2=true->(cZ cs sb lb W l).2.2=true:=by
 intro l
 induction l with
 |nil=>intro W h;exact h
 |cons j l ih=>intro W h;exact ih (W:=bq cs W j sb lb) (mU h)
theorem rt {im:Img} (hW:WfI im) {bd:Bod} (hbd:WfB im.zq im.zx bd) {X:Nat->Prop} {sb lb:L_} (hz:okZ im.zq.length bd.zy.length sb lb) (a:Nat): ∀{l:List Nat} {W:Wn},W.2.2=false->qc im bd X W->sb.length<=kH W.1->(cZ im.zq sb lb W l).2.2=false->
  qc im bd X (cZ im.zq sb lb W l)/\ez im.zq W.1 (cZ im.zq sb lb W l).1/\(∀j∈l,fL im.zq (cZ im.zq sb lb W l).1 (j:Nat) (sb,lb))/\muW (cZ im.zq sb lb W l)<=muW W/\((cZ im.zq sb lb W l).1[a]?=W.1[a]?\/(cZ im.zq sb lb W l).2.1.getD a false=true):=by
 intro l
 induction l with
 |nil=>intro W i g hl f;exact⟨g,eh _,by simp,bG _,Or.inl rfl⟩
 |cons j l ih=>
  intro W i g hl f
  have d:(bq im.zq W j sb lb).2.2=false:=by
   by_cases h:(bq im.zq W j sb lb).2.2=true
   .have:=sZ (cs:=im.zq) (sb:=sb) (lb:=lb) (l:=l) h;rw[show cZ im.zq sb lb W (j::l)=cZ im.zq sb lb (bq im.zq W j sb lb) l from rfl,this]at f
    cases f
   .simpa using h
  obtain⟨k,m,n,p,s,r,e⟩:=uJ hW hbd i g hz hl d;obtain⟨k1,k2,k3,k4,k5⟩:=ih d k (by omega) f;refine⟨k1,iB hW.cls m k2,?_,by exact Nat.le_trans k4 p,?_⟩
  .intro j' b;simp only[List.mem_cons]at b;obtain rfl|b:=b
   .exact qf hW.cls k2 n
   .exact k3 j' b
  .have c:(bq im.zq W j sb lb).2.1.getD a false=true->(cZ im.zq sb lb W (j::l)).2.1.getD a false=true:=by
    have gen: ∀(l:List Nat) (V:Wn),V.2.1.getD a false=true->(cZ im.zq sb lb V l).2.1.getD a false=true:=by
     intro l
     induction l with
     |nil=>intro V h;exact h
     |cons q l ih2=>intro V h;exact ih2 (bq im.zq V q sb lb) (sY h)
    exact gen l _
   obtain k5|k5:=k5
   .by_cases haj:a=j
    .subst haj;obtain e|e:=e
     .left;exact k5.trans e
     .right;exact c e
    .left;exact k5.trans (r a haj)
   .exact Or.inr k5
theorem s7 {im:Img} (hw:WfC im.zq) {bd:Bod} {H:List St} {sb lb:L_}: ∀{l:List Nat} {W:Wn},W.2.2=false->ez im.zq W.1 H->(∀j∈l,fL im.zq H (j:Nat) (sb,lb))->(cZ im.zq sb lb W l).2.2=false/\ez im.zq (cZ im.zq sb lb W l).1 H:=by
 intro l
 induction l with
 |nil=>intro W a h _;exact⟨a,h⟩
 |cons j l ih=>
  intro W a h b;have:=lH hw (T:=(W.1,false,W.2.2)) a h (b j (by simp));exact ih (W:=bq im.zq W j sb lb) this.1 this.2 (λj' hj'=>b j' (by simp[hj']))
theorem rV {cs:List Cls} {H:List St} {x:Ins} {i:Nat} {st:Sp2}:(∀j∈jw x i,fL cs H (j:Nat) st)↔fL cs H (dJ x i).1 st/\fL cs H (dJ x i).2 st:=by
 have neg:fL cs H (-1) st:=Or.inl (by omega);unfold jw dJ
 split
 .simp[neg]
 split
 .simp[neg]
 split
 .simp;exact⟨λh=>⟨h.2,h.1⟩,λh=>⟨h.2,h.1⟩⟩
 .simp[neg]
def iq (im:Img) (bd:Bod) (W:Wn) (a:Nat) (x:Ins) (s l:L_):Wn:=
 match cX im.zq im.zx bd x s l with
 |none=>(W.1,W.2.1.set a false,true)
 |some (s',l')=>cZ im.zq s' l' (W.1,W.2.1.set a false,W.2.2) (jw x a)
theorem uK {im:Img} (hw:WfC im.zq) {bd:Bod} {W:Wn} {a:Nat} {x:Ins} {s l:L_} (hL:zo im bd W) (hx:bd.code[a]?=some x) (hs:W.1[a]?=some (some (s,l))):zo im bd (iq im bd W a x s l):=by
 intro H e;obtain⟨f,d⟩:=hL H e;have b:=d.2 a;rw[getD_some.2 hs]at b
 cases hq:H.getD a none with
 |none=>rw[hq]at b;exact b.elim
 |some q=>
  obtain⟨t,m⟩:=q;rw[hq]at b;obtain⟨t',m',g,h,i⟩:=e.go a x t m hx (getD_some.1 hq);obtain⟨s',l',c,l1,l2⟩:=rU hw b.1 b.2 g;unfold iq;rw[c]
  have low: ∀j,fL im.zq H j (t',m')->fL im.zq H j (s',l'):=λj hj=>by
   obtain hj| ⟨st,e1,e2⟩:=hj
   .exact Or.inl hj
   .exact Or.inr ⟨st,e1,mj hw ⟨l1,l2⟩ e2⟩
  exact s7 hw (W:=(W.1,W.2.1.set a false,W.2.2)) (bd:=bd) f d (rV.2 ⟨low _ h,low _ i⟩)
theorem uL {im:Img} (hW:WfI im) {bd:Bod} (hbd:WfB im.zq im.zx bd) {W:Wn} {a:Nat} {x:Ins} {s l:L_} (hf:W.2.2=false) (hI:qc im bd (λ_=>False) W) (hwt:W.2.1.getD a false=true) (hx:bd.code[a]?=some x) (hs:W.1[a]?=some (some (s,l)))
  (c:(iq im bd W a x s l).2.2=false):qc im bd (λ_=>False) (iq im bd W a x s l)/\muW (iq im bd W a x s l)<muW W:=by
 revert c;unfold iq
 cases he:cX im.zq im.zx bd x s l with
 |none=>intro c;cases c
 |some q=>
  obtain⟨s',l'⟩:=q;simp only;intro c;have j:=hI.wf.2 a s l hs;have g:=nB hW (hbd.code x (a9 hx)) j.1 he
  have e:qc im bd (λk=>k=a) (W.1,W.2.1.set a false,W.2.2):=by
   refine⟨hI.wf,by simp[hI.wl],hI.start,λhb k hk hX hwk=> ?_⟩;refine hI.stab hf k hk (λh=>h) ?_;have f: ¬a=k:=λh=>hX h.symm
   simpa[List.getD,List.getElem?_set,f]using hwk
  have i:muW (W.1,W.2.1.set a false,W.2.2)<muW W:=by
   have:=ld hwt;unfold muW;simp only;omega
  obtain⟨k1,k2,k3,k4,k5⟩:=rt hW hbd g.1 a (W:=(W.1,W.2.1.set a false,W.2.2)) hf e (by simp only;omega) c;refine⟨⟨k1.wf,k1.wl,k1.start,λhb k hk _ hwk=> ?_⟩,by omega⟩
  by_cases hka:k=a
  .subst hka;obtain k5|k5:=k5
   .intro x' s'' l'' d b;rw[hx]at d;injection d with d;rw[k5]at b;simp only at b;rw[hs]at b;injection b with b;injection b with b;injection b with b h3;subst d b h3;have:=rV.1 k3;exact⟨s',l',he,this.1,this.2⟩
   .rw[k5]at hwk;cases hwk
  .exact k1.stab hb k hk hka hwk
theorem qc.done {im:Img} (hW:WfI im) {bd:Bod} (hbd:WfB im.zq im.zx bd) {W:Wn} (hf:W.2.2=false) (hI:qc im bd (λ_=>False) W) (hL:zo im bd W) (hn: ∀k,k<bd.code.length->W.2.1.getD k false=false):dP im bd=some W.1:=by
 apply uF hW hbd
 .refine⟨hI.wf.1,?_,λi x s l hx b=>hI.stab hf i (bn hx).1 (λh=>h) (hn i (bn hx).1) x s l hx b⟩;have a:=hI.start.2 0
  have b:(di bd).getD 0 none=some ([],bd.zy):=by
   unfold di;simp[List.getD,hbd.len.1]
  rw[b]at a
  cases ht:W.1.getD 0 none with
  |none=>rw[ht]at a;exact a.elim
  |some s0=>rw[ht]at a;exact⟨s0,getD_some.1 ht,a⟩
 .exact λH hG=>(hL H hG).2
theorem zo.none {im:Img} (hW:WfI im) {bd:Bod} (hbd:WfB im.zq im.zx bd) {W:Wn} (hL:zo im bd W) (hf:W.2.2=true):dP im bd=none:=by
 apply uG hW hbd
 intro H a;have:=(hL H a).1;rw[hf]at this
 cases this
def cD (cs:List Cls) (gs:List Sig) (b:Bod) (x:Ins):L_:=
 if x.op.toNat=115\/x.op.toNat=100 then [45]else if x.op.toNat=101 then [38,38]else if x.op.toNat=120 then [38]else bv cs gs b x
def ii (cs:List Cls) (a c:UInt8):Bool:=if c.toNat=38 then isR a else bR cs a c
def lh (cs:List Cls) (st asked:L_):Bool:=decide (asked.length<=st.length)&&(List.range asked.length).all λi=>ii cs (st.getD (st.length-asked.length+i) 0) (asked.getD i 0)
def eD (cs:List Cls) (gs:List Sig) (x:Ins) (lo:L_):L_:=if x.op.toNat=108 then [lo.getD x.b 0]else bu cs gs x
def pL (cs:List Cls) (gs:List Sig) (b:Bod) (x:Ins) (st lo:L_):Option (L_×L_):=
 if lh cs st (cD cs gs b x)=false\/(x.op.toNat=108/\(lo.getD x.b 0).toNat=45)then none else
 some (st.take (st.length-(cD cs gs b x).length)++eD cs gs x lo,if x.op.toNat=115 then lo.set x.b (st.getD (st.length-1) 0)else lo)
theorem Bk {cs:List Cls} {st:L_} {c:UInt8}:lh cs st [c]=(decide (1<=st.length)&&ii cs (st.getD (st.length-1) 0) c):=by
 simp[lh,List.range_succ]
theorem FC {cs:List Cls} {st:L_} {c d:UInt8}:lh cs st [c,d]=(decide (2<=st.length)&&(ii cs (st.getD (st.length-2) 0) c&&ii cs (st.getD (st.length-2+1) 0) d)):=by
 simp[lh,List.range_succ]
theorem zp {cs:List Cls} {st wa:L_} (h: ∀c∈wa,c.toNat≠38):lh cs st wa=dz cs st wa:=by
 unfold lh dz
 congr 1
 rw[Bool.eq_iff_iff];simp only[List.all_eq_true,List.mem_range]
 have key: ∀i,i<wa.length->ii cs (st.getD (st.length-wa.length+i) 0) (wa.getD i 0)=bR cs (st.getD (st.length-wa.length+i) 0) (wa.getD i 0):=by
  intro i hi;unfold ii;rw[if_neg];have:wa.getD i 0=wa[i]:=by simp[List.getD,hi]
  rw[this];exact h _ (cS hi)
 exact⟨λhh i hi=>by rw[<-key i hi];exact hh i hi,λhh i hi=>by rw[key i hi];exact hh i hi⟩
theorem uM {cs:List Cls} {gs:List Sig} {b:Bod} {x:Ins} {st lo:L_} (hp: ∀c∈bv cs gs b x,c.toNat≠38):cX cs gs b x st lo=pL cs gs b x st lo:=by
 have top: ∀a:UInt8,ii cs a 45=true:=λa=>by unfold ii;rw[if_neg (by decide)];exact bc.2 (Or.inr (Or.inl rfl))
 have ref: ∀a:UInt8,ii cs a 38=isR a:=λa=>by unfold ii;rw[if_pos (by decide)]
 unfold cX pL cD eD
 by_cases h115:x.op.toNat=115
 .rw[if_pos (Or.inl h115),if_pos (Or.inl h115),Bk,top,Bool.and_true];simp only[h115,eg]
  by_cases hl:st.length<1
  .simp[hl]
  .have:1<=st.length:=by omega
   simp[this,show¬st.length<1 from hl]
 by_cases h100:x.op.toNat=100
 .rw[if_pos (Or.inr (Or.inl h100)),if_pos (Or.inr h100),Bk,top,Bool.and_true];simp only[h100,eg]
  by_cases hl:st.length<1
  .simp[hl]
  .have:1<=st.length:=by omega
   simp[this,show¬st.length<1 from hl]
 have d: ¬(x.op.toNat=115\/x.op.toNat=100):=by omega
 by_cases h101:x.op.toNat=101
 .rw[if_pos (Or.inr (Or.inr (Or.inl h101))),if_neg d,if_pos h101,FC,ref,ref];simp only[h101,eg,if_true]
  by_cases hl:st.length<2
  .simp[hl,show¬2<=st.length by omega]
  .have f:2<=st.length:=by omega
   have e:st.length-2+1=st.length-1:=by omega
   rw[e]
   cases h3:isR (st.getD (st.length-1) 0)<;>cases h4:isR (st.getD (st.length-2) 0)<;>simp[hl,f,h3,h4]
 by_cases h120:x.op.toNat=120
 .rw[if_pos (Or.inr (Or.inr (Or.inr h120))),if_neg d,if_neg h101,if_pos h120,Bk,ref];simp only[h120,eg]
  by_cases hl:st.length<1
  .simp[hl,show¬1<=st.length by omega]
  .have f:1<=st.length:=by omega
   cases h3:isR (st.getD (st.length-1) 0)<;>simp[hl,f,h3]
 have g: ¬(x.op.toNat=115\/x.op.toNat=100\/x.op.toNat=101\/x.op.toNat=120):=by omega
 rw[if_neg g,if_neg d,if_neg h101,if_neg h120,zp hp]
 by_cases h108:x.op.toNat=108
 .have h:bv cs gs b x=[]:=by
   unfold bv;simp[h108,arith]
  rw[if_pos h108,h];simp only[h108,if_true,true_and];have i:dz cs st []=true:=by simp[dz]
  rw[i];simp
 .rw[if_neg h108,if_neg h108];simp only[h108,false_and,or_false]
  cases dz cs st (bv cs gs b x)<;>simp[h115]
theorem uN {im:Img} (hW:WfI im) {bd:Bod} (hbd:WfB im.zq im.zx bd) {x:Ins} (hx:WfX im.zq im.zx.length bd.zy.length x): ∀c∈bv im.zq im.zx bd x,okT im.zq.length c=true:=by
 intro c hc
 have hcl: ∀a,a<im.zq.length->okT im.zq.length (cE a)=true:=by
  intro a ha;have:=hW.nc;rw[ff]
  right;left
  have k:(cE a).toNat=65+a:=by simp[cE];omega
  omega
 have d:okT im.zq.length 105=true:=by simp[ff]
 have f:x.op.toNat=112->okT im.zq.length (dc im.zq x.a x.b)=true:=by
  intro h;have k:=hx.cls (by omega);have l:=hx.fld (by omega);obtain⟨cl,hcl⟩: ∃cl,im.zq[x.a]?=some cl:=⟨_,aM k⟩;unfold dc;rw[hcl];simp only[db,hcl]at l;simp only[Option.map_some,Option.getD_some]at l⊢;have m:=hW.cls x.a cl hcl
  have hm:cl.fields.getD x.b 0∈cl.fields:=by
   have:cl.fields.getD x.b 0=cl.fields[x.b]'(by simpa using l):=by simp[List.getD,l]
   rw[this];exact cS _
  exact kI (gn (by omega) (m.2.2.2 _ hm))
 have e:x.op.toNat=99->okT im.zq.length (jv im.zx x.b)=true:=by
  intro h;obtain⟨g,i⟩: ∃g,im.zx[x.b]?=some g:=⟨_,aM (hx.sig h)⟩;unfold jv;rw[i];exact kI (hW.sig g (a9 i)).1
 have j: ¬bd.cls<0->okT im.zq.length (gI im.zx bd.meth.toNat)=true:=by
  intro h;obtain k|k:=hbd.cls
  .omega
  .obtain⟨g,i⟩: ∃g,im.zx[bd.meth.toNat]?=some g:=⟨_,aM (by omega)⟩;unfold gI;rw[i];exact kI (hW.sig g (a9 i)).2
 unfold bv at hc
 split at hc
 .simp at hc;subst hc;exact d
 split at hc
 .simp at hc;subst hc;exact d
 split at hc
 .rename_i h;simp at hc;subst hc;exact hcl _ (hx.cls (by omega))
 split at hc
 .rename_i h
  simp at hc;obtain rfl|rfl:=hc
  .exact hcl _ (hx.cls (by omega))
  .exact f h
 split at hc
 .rename_i h
  simp at hc;obtain rfl|rfl:=hc
  .exact hcl _ (hx.cls (by omega))
  .exact e h
 split at hc
 .split at hc
  .simp at hc;subst hc;exact d
  .rename_i h;simp at hc;subst hc;exact j h
 .simp at hc
theorem zt {im:Img} (hW:WfI im) {bd:Bod} (hbd:WfB im.zq im.zx bd) {x:Ins} (hx:WfX im.zq im.zx.length bd.zy.length x) (st lo:L_):cX im.zq im.zx bd x st lo=pL im.zq im.zx bd x st lo:=
 uM (λc hc=>by have:=uN hW hbd hx c hc;rw[ff]at this;have:=hW.nc;omega)
end
end Go.Proofs.YtpfkkmacakjmbaaGreatDoor
