import Derived.Test.YtpfkkmacakjmbaaGreatDoorP01
set_option maxRecDepth 100000
set_option maxHeartbeats 6400000
set_option linter.all false
namespace Go.Proofs.YtpfkkmacakjmbaaGreatDoor
section
open Go Sp
def leL (cs:List Cls):L_->L_->Prop
 | [],[]=>True
 |x::a,y::b=>bj cs x y=true/\leL cs a b
 |_,_=>False
theorem bU {cs:List Cls}: ∀a:L_,leL cs a a
 | []=>trivial
 |x::a=>⟨gW x,bU a⟩
theorem jq {cs:List Cls}: ∀{a b:L_},leL cs a b->a.length=b.length
 | [],[],_=>rfl
 |x::a,y::b,h=>by simp[jq h.2]
 | [],_::_,h=>h.elim
 |_::_,[],h=>h.elim
theorem mh {cs:List Cls} (hw:WfC cs): ∀{a b c:L_},leL cs a b->leL cs b c->leL cs a c
 | [],[],[],_,_=>trivial
 |x::a,y::b,z::c,h,k=>⟨mX hw h.1 k.1,mh hw h.2 k.2⟩
 | [],_::_,_,h,_=>h.elim
 |_::_,[],_,h,_=>h.elim
 | [],[],_::_,_,k=>k.elim
 |_::_,_::_,[],_,k=>k.elim
theorem iC {cs:List Cls}: ∀{a b c d:L_},leL cs a b->leL cs c d->leL cs (a++c) (b++d)
 | [],[],_,_,_,k=>k
 |x::a,y::b,_,_,h,k=>⟨h.1,iC h.2 k⟩
 | [],_::_,_,_,h,_=>h.elim
 |_::_,[],_,_,h,_=>h.elim
theorem qn {cs:List Cls}: ∀{a b:L_} (k:Nat),leL cs a b->leL cs (a.take k) (b.take k)
 | [],[],k,_=>by simp[leL]
 |x::a,y::b,0,h=>trivial
 |x::a,y::b,k+1,h=>⟨h.1,qn k h.2⟩
 | [],_::_,_,h=>h.elim
 |_::_,[],_,h=>h.elim
theorem jJ {cs:List Cls}: ∀{a b:L_} (k:Nat),leL cs a b->bj cs (a.getD k 0) (b.getD k 0)=true
 | [],[],k,_=>by simp[gW]
 |x::a,y::b,0,h=>by simpa using h.1
 |x::a,y::b,k+1,h=>by simpa using jJ k h.2
 | [],_::_,_,h=>h.elim
 |_::_,[],_,h=>h.elim
theorem tn {cs:List Cls}: ∀{a b:L_} (k:Nat) {u v:UInt8},leL cs a b->bj cs u v=true->leL cs (a.set k u) (b.set k v)
 | [],[],k,_,_,_,_=>by simp[leL]
 |x::a,y::b,0,_,_,h,hu=>⟨hu,h.2⟩
 |x::a,y::b,k+1,_,_,h,hu=>⟨h.1,tn k h.2 hu⟩
 | [],_::_,_,_,_,h,_=>h.elim
 |_::_,[],_,_,_,h,_=>h.elim
theorem oP {cs:List Cls} (hw:WfC cs): ∀{a b:L_},a.length=b.length->leL cs a (e9 cs a b)/\leL cs b (e9 cs a b)/\ ∀c,leL cs a c->leL cs b c->leL cs (e9 cs a b) c
 | [],[],_=>⟨trivial,trivial,λc h _=>h⟩
 |x::a,y::b,h=>by
  have ih:=oP hw (a:=a) (b:=b) (by simpa using h);have d:=mg hw x y;refine⟨⟨d.1,ih.1⟩,⟨d.2.1,ih.2.1⟩,λc h1 h2=> ?_⟩
  match c,h1,h2 with
  |z::c,h1,h2=>exact⟨d.2.2 z h1.1 h2.1,ih.2.2 c h1.2 h2.2⟩
  | [],h1,_=>exact h1.elim
 | [],_::_,h=>by simp at h
 |_::_,[],h=>by simp at h
abbrev Sp2:=L_×L_
def leS (cs:List Cls) (a b:Sp2):Prop:=leL cs a.1 b.1/\leL cs a.2 b.2
def leO (cs:List Cls):St->St->Prop
 |none,_=>True
 |some a,some b=>leS cs a b
 |some _,none=>False
def ix (cs:List Cls) (t u:List St):Prop:=t.length=u.length/\ ∀k:Nat,leO cs (t.getD k none) (u.getD k none)
theorem sp {cs:List Cls} (hw:WfC cs) {a b c:Sp2} (h:leS cs a b) (k:leS cs b c):leS cs a c:=⟨mh hw h.1 k.1,mh hw h.2 k.2⟩
theorem uU {cs:List Cls} (a:St):leO cs a a:=by
 cases a with
 |none=>trivial
 |some a=>exact⟨bU _,bU _⟩
theorem yR {cs:List Cls} (hw:WfC cs) {a b c:St} (h:leO cs a b) (k:leO cs b c):leO cs a c:=by
 cases a with
 |none=>trivial
 |some a=>
  cases b with
  |none=>exact h.elim
  |some b=>
   cases c with
   |none=>exact k.elim
   |some c=>exact sp hw h k
theorem gG {cs:List Cls} (t:List St):ix cs t t:=⟨rfl,λ_=>uU _⟩
theorem lJ {cs:List Cls} (hw:WfC cs) {t u v:List St} (h:ix cs t u) (k:ix cs u v):ix cs t v:=⟨h.1.trans k.1,λi=>yR hw (h.2 i) (k.2 i)⟩
theorem uV {cs:List Cls} {a b:UInt8} (h:bj cs a b=true) (hb:isR b=true):isR a=true:=by
 rw[aW]at h;simp only[isR,Bool.or_eq_true,dg]at hb⊢;obtain rfl|h| ⟨_,h⟩ | ⟨h,_⟩:=h
 .exact hb
 .obtain hb|hb:=hb
  .omega
  .rw[bL]at hb;omega
 .exact Or.inl h
 .exact Or.inr h
theorem uW {cs:List Cls} {c:Nat} {s t:L_} {k:Nat} (h:leL cs s t) (hk:cY c t=some k):cY c s=some k:=by
 have hl:=jq h;unfold cY at hk⊢;have d1:=λhb=>uV (jJ (t.length-1) h) hb
 have d2:=λhb=>uV (jJ (t.length-2) h) hb
 rw[hl]
 split at hk
 .rename_i h101
  rw[if_pos h101]
  split at hk
  .cases hk
  .rename_i hn
   rw[if_neg]
   .exact hk
   .simp only[not_or,Bool.not_eq_false]at hn⊢;exact⟨hn.1,d1 hn.2.1,d2 hn.2.2⟩
 .rename_i h101
  rw[if_neg h101]
  split at hk
  .cases hk
  .rename_i hn
   rw[if_neg]
   .exact hk
   .simp only[not_or,not_and,Bool.not_eq_false]at hn⊢;exact⟨hn.1,λh120=>d1 (hn.2 h120)⟩
theorem wY {cs:List Cls} (hw:WfC cs) {s t wa:L_} (h:leL cs s t) (hf:cF cs t wa=true):cF cs s wa=true:=by
 have hl:=jq h;unfold cF at hf⊢;simp only[dk,dg,List.all_eq_true,List.mem_range]at hf⊢;rw[hl];exact⟨hf.1,λi hi=>mX hw (jJ _ h) (hf.2 i hi)⟩
theorem yS {cs:List Cls} (hw:WfC cs) {gs:List Sig} {b:Bod} {x:Ins} {s l t m t' m':L_} (h1:leL cs s t) (h2:leL cs l m) (he:cC cs gs b x t m=some (t',m')):
  ∃s' l',cC cs gs b x s l=some (s',l')/\leL cs s' t'/\leL cs l' m':=by
 have hl:=jq h1;unfold cC at he⊢
 split at he
 .rename_i hc
  rw[if_pos hc]
  split at he
  .cases he
  .rename_i k hk
   rw[uW h1 hk];injection he with he;injection he with e1 e2;refine⟨_,_,rfl,?_,?_⟩
   .rw[<-e1,hl];exact iC (qn _ h1) (bU _)
   .rw[<-e2,hl]
    split
    .exact tn _ h2 (jJ _ h1)
    .exact h2
 .rename_i hc
  rw[if_neg hc]
  split at he
  .rename_i h108
   rw[if_pos h108]
   split at he
   .cases he
   .rename_i h45
    injection he with he;injection he with e1 e2;have a:=jJ x.b h2
    have: ¬(l.getD x.b 0).toNat=45:=by
     intro h;rw[aW]at a;obtain a|a| ⟨_,a⟩ | ⟨a,_⟩:=a
     .rw[a]at h;exact h45 h
     .exact h45 a
     .omega
     .rw[bL]at a;omega
    rw[if_neg this];refine⟨_,_,rfl,?_,?_⟩
    .rw[<-e1];exact iC h1 ⟨a,trivial⟩
    .rw[<-e2];exact h2
  .rename_i h108
   rw[if_neg h108]
   split at he
   .rename_i hf
    rw[if_pos (wY hw h1 hf)];injection he with he;injection he with e1 e2;refine⟨_,_,rfl,?_,?_⟩
    .rw[<-e1,hl];exact iC (qn _ h1) (bU _)
    .rw[<-e2];exact h2
   .cases he
def mM (cs:List Cls) (H:List St) (j:Int) (st:Sp2):Prop:=j<0\/ ∃st',H[j.toNat]?=some (some st')/\leS cs st st'
structure tp (im:Img) (bd:Bod) (H:List St):Prop where
 len:H.length=bd.code.length
 start: ∃s0,H[0]?=some (some s0)/\leS im.zq ([],bd.zy) s0
 go: ∀(i:Nat) (x:Ins) (s l:L_),bd.code[i]?=some x->H[i]?=some (some (s,l))-> ∃s' l',cC im.zq im.zx bd x s l=some (s',l')/\mM im.zq H (bR x i).1 (s',l')/\mM im.zq H (bR x i).2 (s',l')
theorem getD_some {t:List St} {k:Nat} {p:Sp2}:t.getD k none=some p↔t[k]?=some (some p):=by
 simp only[List.getD]
 cases h:t[k]? with
 |none=>simp
 |some o=>simp
theorem qo {cs:List Cls} (hw:WfC cs) {o:St} {sb lb:L_} {m:Sp2} (hl: ∀s l,o=some (s,l)->l.length=lb.length) (h:fx cs o sb lb=some m):leO cs o (some m)/\leS cs (sb,lb) m/\ ∀c,leO cs o (some c)->leS cs (sb,lb) c->leS cs m c:=by
 cases o with
 |none=>
  simp[fx]at h;subst h;exact⟨trivial,⟨bU _,bU _⟩,λc _ h=>h⟩
 |some p=>
  obtain⟨sa,la⟩:=p;simp only[fx]at h
  split at h
  .rename_i hlen
   injection h with h;subst h;have a:=oP hw hlen;have b2:=oP hw (hl sa la rfl);exact⟨⟨a.1,b2.1⟩,⟨a.2.1,b2.2.1⟩,λc h k=>⟨a.2.2 _ h.1 k.1,b2.2.2 _ h.2 k.2⟩⟩
  .cases h
theorem pr {cs:List Cls} (hw:WfC cs) {T:Tn} {H:List St} {j:Int} {sb lb:L_} (hb:T.2.2=false) (h:ix cs T.1 H) (hr:mM cs H j (sb,lb)):
  (dl cs T j sb lb).2.2=false/\ix cs (dl cs T j sb lb).1 H:=by
 unfold dl
 split
 .exact⟨hb,h⟩
 rename_i hj
 simp only[hb,false_or,dS]at hj;obtain hr| ⟨st',hst,hle⟩:=hr
 .exact absurd hr hj
 have g:j.toNat<H.length:=(bc hst).1;have b:=h.1
 split
 .omega
 have a:=h.2 j.toNat;rw[getD_some.2 hst]at a
 have d: ∃m,fx cs (T.1.getD j.toNat none) sb lb=some m:=by
  cases hh:T.1.getD j.toNat none with
  |none=>exact⟨_,rfl⟩
  |some p=>
   rw[hh]at a;have f:=jq a.1;have c:=jq hle.1;simp only at c;exact⟨_,by unfold fx;simp only;rw[if_pos (by omega)]⟩
 obtain⟨m,hm⟩:=d;rw[hm];simp only
 split
 .exact⟨hb,h⟩
 .refine⟨rfl,⟨by rw[List.length_set];exact b,λk=> ?_⟩⟩
  by_cases hk:k=j.toNat
  .subst hk;have e:(T.1.set j.toNat (some m)).getD j.toNat none=some m:=by simp[List.getD,show j.toNat<T.1.length by omega]
   rw[e,getD_some.2 hst]
   have hl: ∀s l,T.1.getD j.toNat none=some (s,l)->l.length=lb.length:=λs l hh=>by
    rw[hh]at a;have f:=jq a.2;have c:=jq hle.2;simp only at f c;omega
   exact(qo hw hl hm).2.2 st' a hle
  .have e:(T.1.set j.toNat (some m)).getD k none=T.1.getD k none:=by simp[List.getD,List.getElem?_set,show¬j.toNat=k from λh=>hk h.symm]
   rw[e];exact h.2 k
theorem uX {im:Img} (hw:WfC im.zq) {bd:Bod} {T:Tn} {H:List St} (hG:tp im bd H) (hb:T.2.2=false) (h:ix im.zq T.1 H) (i:Nat):
  ∃T',gV im bd T i=some T'/\T'.2.2=false/\ix im.zq T'.1 H:=by
 cases hx:bd.code[i]? with
 |none=>exact⟨T,by unfold gV;rw[hx],hb,h⟩
 |some x=>
  cases ho:T.1.getD i none with
  |none=>exact⟨T,by unfold gV;rw[hx,ho],hb,h⟩
  |some p=>
   obtain⟨s,l⟩:=p;have a:=h.2 i;rw[ho]at a
   cases hq:H.getD i none with
   |none=>rw[hq]at a;exact a.elim
   |some q=>
    obtain⟨t,m⟩:=q;rw[hq]at a;obtain⟨t',m',d,e,f⟩:=hG.go i x t m hx (getD_some.1 hq);obtain⟨s',l',b,l1,l2⟩:=yS hw a.1 a.2 d;refine⟨_,kN hx (getD_some.1 ho) b,?_⟩
    have low: ∀j,mM im.zq H j (t',m')->mM im.zq H j (s',l'):=λj hj=>by
     obtain hj| ⟨st,h1,h2⟩:=hj
     .exact Or.inl hj
     .exact Or.inr ⟨st,h1,sp hw ⟨l1,l2⟩ h2⟩
    have c:=pr hw hb h (low _ e);exact pr hw c.1 c.2 (low _ f)
theorem tq {im:Img} (hw:WfC im.zq) {bd:Bod} {H:List St} (hG:tp im bd H): ∀{f i:Nat} {T:Tn},T.2.2=false->ix im.zq T.1 H-> ∃T',dL im bd f i T=some T'/\T'.2.2=false/\ix im.zq T'.1 H:=by
 intro f
 induction f with
 |zero=>intro i T a h;exact⟨T,rfl,a,h⟩
 |succ f ih=>
  intro i T a h;obtain⟨k,c,d,e⟩:=uX hw hG a h i;obtain⟨b,g,j⟩:=ih (i:=i+1) d e;exact⟨b,by rw[iZ a c];exact g,j⟩
theorem rQ {im:Img} (hw:WfC im.zq) {bd:Bod} {H:List St} (hG:tp im bd H): ∀{f:Nat} {tb:List St} {ch:Bool},ix im.zq tb H-> ∃t,fe im bd f (tb,ch,false)=some t/\ix im.zq t H:=by
 intro f
 induction f with
 |zero=>intro tb ch h;exact⟨tb,rfl,h⟩
 |succ f ih=>
  intro tb ch h
  cases ch with
  |false=>exact⟨tb,jp im bd _ tb _,h⟩
  |true=>
   obtain⟨c,d,a,b⟩:=tq hw hG (f:=bd.code.length) (i:=0) (T:=(tb,false,false)) rfl h;obtain⟨t1,c1,j⟩:=c;simp only at a b;subst a;obtain⟨t,e,g⟩:=ih (ch:=c1) b;refine⟨t,?_,g⟩;rw[mU,d];simp only[gE];rw[if_neg (by simp)];exact e
theorem qp {im:Img} {bd:Bod} {H:List St} (hG:tp im bd H):ix im.zq (dM bd) H:=by
 obtain⟨d,b,c⟩:=hG.start;refine⟨by unfold dM;simp[hG.len],λk=> ?_⟩;unfold dM;have a:0<bd.code.length:=by rw[<-hG.len];exact(bc b).1
 cases k with
 |zero=>
  have:((List.replicate bd.code.length (none:St)).set 0 (some ([],bd.zy))).getD 0 none=some ([],bd.zy):=by simp[List.getD,a]
  rw[this,getD_some.2 b];exact c
 |succ k=>
  have:((List.replicate bd.code.length (none:St)).set 0 (some ([],bd.zy))).getD (k+1) none=none:=by
   simp only[List.getD,List.getElem?_set];rw[if_neg (by omega)];rw[List.getElem?_replicate]
   split<;>rfl
  rw[this]
  trivial
theorem tr {im:Img} (hw:WfC im.zq) {bd:Bod} {H:List St} (hG:tp im bd H): ∃t,gD im bd=some t/\ix im.zq t H:=
 rQ hw hG (qp hG)
def rk (c:UInt8):Nat:=if c.toNat=45 then 0 else if c.toNat=122 then 5 else if isC c=true then 1+(c.toNat-65)else 1
theorem EW (c:UInt8):rk c<=5:=by
 unfold rk
 split
 .omega
 split
 .omega
 split
 .rename_i h;rw[bL]at h;omega
 .omega
theorem wZ {c:UInt8} (h:isC c=true):rk c=1+(c.toNat-65)/\65<=c.toNat/\c.toNat<=68:=by
 have h':=h;rw[bL]at h';unfold rk;rw[if_neg (by omega),if_neg (by omega),if_pos h];exact⟨rfl,h'.1,h'.2⟩
theorem EX {cs:List Cls} (hw:WfC cs) {a b:UInt8} (h:bj cs a b=true) (hne:a≠b):rk b<rk a:=by
 have c:a.toNat≠b.toNat:=λe=>hne (bJ e)
 rw[aW]at h;obtain h|h| ⟨h1,h2⟩ | ⟨h1,h2,h3⟩:=h
 .exact absurd h hne
 .have d:rk b=0:=by unfold rk;rw[if_pos h]
  have ha:1<=rk a:=by
   unfold rk;rw[if_neg (by omega)]
   split
   .omega
   split<;>omega
  omega
 .have:=wZ h1;have ha:rk a=5:=by unfold rk;rw[if_neg (by omega),if_pos h2]
  omega
 .have c1:=wZ h1;have c2:=wZ h2;have r:=kF hw h1;have:=wT hw 4 (by omega) (by omega) h3;unfold kl at this;omega
def rR (l:L_):Nat:=(l.map rk).sum
theorem nD: ∀l:L_,rR l<=5*l.length
 | []=>by simp[rR]
 |x::l=>by
  have:=nD l;have:=EW x;simp only[rR,List.map_cons,List.sum_cons,iU]at*;omega
theorem oQ {cs:List Cls} (hw:WfC cs): ∀{a b:L_},leL cs a b->rR b<=rR a/\(a≠b->rR b<rR a)
 | [],[],_=>⟨bP _,λh=>absurd rfl h⟩
 |x::a,y::b,h=>by
  have ih:=oQ hw h.2;simp only[rR,List.map_cons,List.sum_cons]at*
  by_cases hxy:x=y
  .subst hxy;refine⟨by omega,λhn=> ?_⟩;have:=ih.2 (λe=>hn (by rw[e]));omega
  .have:=EX hw h.1 hxy;exact⟨by omega,λ_=>by omega⟩
 | [],_::_,h=>h.elim
 |_::_,[],h=>h.elim
def wt:St->Nat
 |none=>700
 |some (s,l)=>rR s+rR l
def mu (t:List St):Nat:=(t.map wt).sum
theorem A5: ∀{t:List St} {j:Nat} (o:St) (hj:j<t.length),mu (t.set j o)+wt t[j]=mu t+wt o
 |x::t,0,o,_=>by simp[mu];omega
 |x::t,j+1,o,h=>by
  have:=A5 (t:=t) (j:=j) o (by simpa using h);simp only[mu,List.set_cons_succ,List.map_cons,List.sum_cons,List.getElem_cons_succ]at*;omega
 | [],_,_,h=>by simp at h
theorem D4: ∀{t:List St},(∀o∈t,wt o<=700)->mu t<=700*t.length
 | [],_=>by simp[mu]
 |x::t,h=>by
  have a:=h x (by simp);have b:=D4 (t:=t) (λo ho=>h o (by simp[ho]));simp only[mu,List.map_cons,List.sum_cons,iU]at*;omega
theorem qq {cs:List Cls} (hw:WfC cs) (hnc:cs.length<=4) {nl n:Nat} (hnl:nl<=5) (hn:n<=100) {T:Tn} {j:Int} {sb lb:L_} (h:wfT cs.length nl n T.1) (hz:okZ cs.length nl sb lb) (hl:sb.length<=rP T.1) (c:(dl cs T j sb lb).2.2=false):
  T.2.2=false/\ix cs T.1 (dl cs T j sb lb).1/\((dl cs T j sb lb=T/\mM cs T.1 j (sb,lb))\/((dl cs T j sb lb).2.1=true/\mu (dl cs T j sb lb).1<mu T.1)):=by
 have d:=(iX hnc hw (j:=j) h hz hl).1;revert c d;unfold dl
 split
 .rename_i h1
  intro c _;refine⟨c,gG _,Or.inl ⟨rfl,?_⟩⟩;obtain h1|h1:=h1
  .rw[c]at h1;cases h1
  .exact Or.inl h1
 rename_i h1
 have e:T.2.2=false:=by have:=(not_or.1 h1).1;simpa using this
 split
 .intro c;cases c
 rename_i h2
 have b:j.toNat<T.1.length:=by omega
 have g:T.1.getD j.toNat none=T.1[j.toNat]:=by simp[List.getD,b]
 split
 .intro c;cases c
 rename_i m hm
 have i: ∀s l,T.1.getD j.toNat none=some (s,l)->l.length=lb.length:=λs l hh=>by
  have:=(h.2 j.toNat s l (getD_some.1 hh)).1.2.2;rw[this,hz.2.2]
 have a:=qo hw i hm
 split
 .rename_i hsame
  intro _ _;refine⟨e,gG _,Or.inl ⟨rfl,Or.inr ⟨m,getD_some.1 hsame.symm,a.2.1⟩⟩⟩
 .rename_i hdiff
  intro _ d;refine⟨e,⟨by simp,λk=> ?_⟩,Or.inr ⟨rfl,?_⟩⟩
  .by_cases hk:k=j.toNat
   .subst hk;have q:(T.1.set j.toNat (some m)).getD j.toNat none=some m:=by simp[List.getD,b]
    simp only;rw[q];exact a.1
   .have q:(T.1.set j.toNat (some m)).getD k none=T.1.getD k none:=by simp[List.getD,List.getElem?_set,show¬j.toNat=k from λh=>hk h.symm]
    simp only;rw[q];exact uU _
  .have v:=A5 (some m) b;simp only;rw[g]at hm hdiff a
   suffices wt (some m)<wt T.1[j.toNat] by omega
   obtain⟨r,t⟩:=m
   cases ho:T.1[j.toNat]with
   |none=>
    have f:=d.okS hn j.toNat r t (by simp only;rw[List.getElem?_set];simp[b]);have x:=nD r;have s2:=nD t;have:=f.2.2.1;have:=f.2.2.2;simp only[wt];omega
   |some p=>
    obtain⟨sa,la⟩:=p;rw[ho]at a hdiff;have d1:=oQ hw a.1.1;have d2:=oQ hw a.1.2;simp only at d1 d2;simp only[wt]
    by_cases e1:sa=r
    .by_cases e2:la=t
     .rw[e1,e2]at hdiff;exact absurd rfl hdiff
     .have:=d2.2 e2;omega
    .have:=d1.2 e1;omega
def tu (im:Img) (bd:Bod) (t:List St) (i:Nat):Prop:=
 ∀(x:Ins) (s l:L_),bd.code[i]?=some x->t[i]?=some (some (s,l))-> ∃s' l',cC im.zq im.zx bd x s l=some (s',l')/\mM im.zq t (bR x i).1 (s',l')/\mM im.zq t (bR x i).2 (s',l')
theorem xb {im:Img} (hW:WfI im) {bd:Bod} (hbd:WfB im.zq im.zx bd) {T T':Tn} {i:Nat} (h:wfT im.zq.length bd.zy.length bd.code.length T.1) (hs:gV im bd T i=some T') (hb:T'.2.2=false):
  ix im.zq T.1 T'.1/\((T'=T/\tu im bd T.1 i)\/(T'.2.1=true/\mu T'.1<mu T.1)):=by
 cases hx:bd.code[i]? with
 |none=>
  have:gV im bd T i=some T:=by unfold gV;rw[hx]
  rw[this]at hs;injection hs with hs;subst hs;exact⟨gG _,Or.inl ⟨rfl,λx s l h1=>by rw[hx]at h1;cases h1⟩⟩
 |some x=>
  cases ho:T.1.getD i none with
  |none=>
   have:gV im bd T i=some T:=by unfold gV;rw[hx,ho]
   rw[this]at hs;injection hs with hs;subst hs;refine⟨gG _,Or.inl ⟨rfl,λx s l _ h2=> ?_⟩⟩;rw[getD_some.2 h2]at ho
   cases ho
  |some p=>
   obtain⟨s,l⟩:=p;have f:=getD_some.1 ho
   cases he:cC im.zq im.zx bd x s l with
   |none=>rw[mW hx f he]at hs;cases hs
   |some q=>
    obtain⟨s',l'⟩:=q;rw[kN hx f he]at hs;injection hs with hs;subst hs;have k:=h.2 i s l f;have b:=pY hW (hbd.code x (bn hx)) k.1 he;have d:s'.length<=rP T.1:=by omega
    have w1:=iX hW.nc hW.cls (j:=(bR x i).1) h b.1 d;have c2:=qq hW.cls hW.nc hbd.loc.1 hbd.len.2 w1.1 b.1 (by omega) hb;have c1:=qq hW.cls hW.nc hbd.loc.1 hbd.len.2 h b.1 d c2.1;refine⟨lJ hW.cls c1.2.1 c2.2.1,?_⟩;obtain⟨e,g⟩ | ⟨e,g⟩:=c1.2.2
    .obtain⟨a,c⟩ | ⟨a,c⟩:=c2.2.2
     .left
      rw[e]at a c⊢;refine⟨a,λx' s'' l'' h1 h2=> ?_⟩;rw[hx]at h1;injection h1 with h1;rw[f]at h2;injection h2 with h2;injection h2 with h2;injection h2 with h2 h3;subst h1 h2 h3;exact⟨s',l',he,g,c⟩
     .right
      refine⟨a,?_⟩;rw[e]at c⊢;exact c
    .right
     obtain⟨a,c⟩ | ⟨a,c⟩:=c2.2.2
     .rw[a];exact⟨e,g⟩
     .exact⟨a,by omega⟩
theorem uY {im:Img} (hW:WfI im) {bd:Bod} (hbd:WfB im.zq im.zx bd): ∀{f i:Nat} {T T':Tn},wfT im.zq.length bd.zy.length bd.code.length T.1->dL im bd f i T=some T'->T'.2.2=false->
  ix im.zq T.1 T'.1/\((T'=T/\ ∀k,i<=k->k<i+f->tu im bd T.1 k)\/(T'.2.1=true/\mu T'.1<mu T.1)):=by
 intro f
 induction f with
 |zero=>
  intro i T T' h a d;simp[dL]at a;subst a;exact⟨gG _,Or.inl ⟨rfl,λk h1 h2=>by omega⟩⟩
 |succ f ih=>
  intro i T T' h a d
  by_cases hbt:T.2.2=true
  .rw[mV _ _ _ _ _ hbt]at a;injection a with a;subst a;rw[hbt]at d
   cases d
  .have e:T.2.2=false:=by simpa using hbt
   cases h1:gV im bd T i with
   |none=>rw[lF e h1]at a;cases a
   |some T1=>
    rw[iZ e h1]at a
    have b:T1.2.2=false:=by
     by_cases b:T1.2.2=true
     .rw[mV _ _ _ _ _ b]at a;injection a with a;subst a;exact d
     .simpa using b
    have c1:=xb hW hbd h h1 b;have c2:=ih (uQ hW hbd h h1) a d;refine⟨lJ hW.cls c1.1 c2.1,?_⟩;obtain⟨j,l⟩ | ⟨j,l⟩:=c1.2
    .subst j;obtain⟨c,g⟩ |g:=c2.2
     .left
      refine⟨c,λk hk1 hk2=> ?_⟩
      by_cases hk:k=i
      .subst hk;exact l
      .exact g k (by omega) (by omega)
     .exact Or.inr g
    .right
     obtain⟨c,g⟩ | ⟨c,g⟩:=c2.2
     .rw[c];exact⟨j,l⟩
     .exact⟨c,by omega⟩
theorem tw {im:Img} (hW:WfI im) {bd:Bod} (hbd:WfB im.zq im.zx bd): ∀{f:Nat} {tb:List St} {ch:Bool} {t:List St},wfT im.zq.length bd.zy.length bd.code.length tb->
  (ch=false-> ∀k,k<bd.code.length->tu im bd tb k)->(ch=true->mu tb<f)->fe im bd f (tb,ch,false)=some t->ix im.zq tb t/\ ∀k,k<bd.code.length->tu im bd t k:=by
 intro f
 induction f with
 |zero=>
  intro tb ch t h d b a
  cases ch with
  |false=>
   rw[jp]at a;injection a with a;subst a;exact⟨gG _,d rfl⟩
  |true=>exact absurd (b rfl) (by omega)
 |succ f ih=>
  intro tb ch t h d b a
  cases ch with
  |false=>
   rw[jp]at a;injection a with a;subst a;exact⟨gG _,d rfl⟩
  |true=>
   rw[mU]at a
   cases hs:dL im bd bd.code.length 0 (tb,false,false)with
   |none=>rw[hs]at a;cases a
   |some T1=>
    rw[hs]at a;obtain⟨t1,c1,i⟩:=T1;simp only[gE]at a
    cases i with
    |true=>simp at a
    |false=>
     simp only[dS,if_false]at a;have c:=uY hW hbd (T:=(tb,false,false)) h hs rfl;have g:=sm hW hbd (T:=(tb,false,false)) h hs;obtain⟨e,r⟩ | ⟨e,r⟩:=c.2
     .injection e with e1 e2;injection e2 with e2 _;subst e1 e2;have:=ih g (λ_ k hk=>r k (by omega) (by omega)) (λh=>by cases h) a;exact this
     .simp only at e r;subst e;have hm:=b rfl;have:=ih g (λh=>by cases h) (λ_=>by show mu t1<f;omega) a;exact⟨lJ hW.cls c.1 this.1,this.2⟩
theorem uZ {im:Img} {bd:Bod} (hbd:WfB im.zq im.zx bd):mu (dM bd)<80000:=by
 have h:mu (dM bd)<=700*(dM bd).length:=by
  apply D4
  intro o c
  cases o with
  |none=>simp[wt]
  |some p=>
   obtain⟨s,l⟩:=p;obtain⟨k,b⟩:=List.mem_iff_getElem?.1 c;have a:=(iY hbd).okS hbd.len.2 k s l b;have e:=nD s;have s2:=nD l;have:=a.2.2.1;have:=a.2.2.2;have:=hbd.loc.1;simp only[wt];omega
 have d:(dM bd).length=bd.code.length:=(iY hbd).1;have:=hbd.len.2;omega
theorem F4 {im:Img} (hW:WfI im) {bd:Bod} (hbd:WfB im.zq im.zx bd) {t:List St} (h:gD im bd=some t):tp im bd t:=by
 have hc:=tw hW hbd (iY hbd) (λh=>by cases h) (λ_=>uZ hbd) h;have hl:=(so hW hbd h).1;refine⟨hl,?_,λi x s l hx b=>hc.2 i (bc hx).1 x s l hx b⟩;have a:=hc.1.2 0
 have b:(dM bd).getD 0 none=some ([],bd.zy):=by
  unfold dM;simp[List.getD,hbd.len.1]
 rw[b]at a
 cases ht:t.getD 0 none with
 |none=>rw[ht]at a;exact a.elim
 |some s0=>rw[ht]at a;exact⟨s0,getD_some.1 ht,a⟩
end
end Go.Proofs.YtpfkkmacakjmbaaGreatDoor
