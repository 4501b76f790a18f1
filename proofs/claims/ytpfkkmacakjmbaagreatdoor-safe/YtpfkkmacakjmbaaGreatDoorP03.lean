import Derived.Test.YtpfkkmacakjmbaaGreatDoorP01
set_option maxRecDepth 100000
set_option maxHeartbeats 6400000
set_option linter.all false
namespace Go.Proofs.YtpfkkmacakjmbaaGreatDoor
section
open Go Sp
def leL (cs:List Cls):L_->L_->Prop
 | [],[]=>True
 |x::a,y::b=>cy cs x y=true/\leL cs a b
 |_,_=>False
theorem iO {cs:List Cls}: ∀a:L_,leL cs a a
 | []=>trivial
 |x::a=>⟨iE x,iO a⟩
theorem iw {cs:List Cls}: ∀{a b:L_},leL cs a b->a.length=b.length
 | [],[],_=>rfl
 |x::a,y::b,h=>by simp[iw h.2]
 | [],_::_,h=>h.elim
 |_::_,[],h=>h.elim
theorem nJ {cs:List Cls} (hw:WfC cs): ∀{a b c:L_},leL cs a b->leL cs b c->leL cs a c
 | [],[],[],_,_=>trivial
 |x::a,y::b,z::c,h,k=>⟨l9 hw h.1 k.1,nJ hw h.2 k.2⟩
 | [],_::_,_,h,_=>h.elim
 |_::_,[],_,h,_=>h.elim
 | [],[],_::_,_,k=>k.elim
 |_::_,_::_,[],_,k=>k.elim
theorem pe {cs:List Cls} (hw:WfC cs): ∀{a b:L_},leL cs a b->leL cs b a->a=b
 | [],[],_,_=>rfl
 |x::a,y::b,h,k=>by rw[qT hw h.1 k.1,pe hw h.2 k.2]
 | [],_::_,h,_=>h.elim
 |_::_,[],h,_=>h.elim
theorem ka {cs:List Cls}: ∀{a b c d:L_},leL cs a b->leL cs c d->leL cs (a++c) (b++d)
 | [],[],_,_,_,k=>k
 |x::a,y::b,_,_,h,k=>⟨h.1,ka h.2 k⟩
 | [],_::_,_,_,h,_=>h.elim
 |_::_,[],_,_,h,_=>h.elim
theorem pg {cs:List Cls}: ∀{a b:L_} (k:Nat),leL cs a b->leL cs (a.take k) (b.take k)
 | [],[],k,_=>by simp[leL]
 |x::a,y::b,0,h=>trivial
 |x::a,y::b,k+1,h=>⟨h.1,pg k h.2⟩
 | [],_::_,_,h=>h.elim
 |_::_,[],_,h=>h.elim
theorem iP {cs:List Cls}: ∀{a b:L_} (k:Nat),leL cs a b->cy cs (a.getD k 0) (b.getD k 0)=true
 | [],[],k,_=>by simp[iE]
 |x::a,y::b,0,h=>by simpa using h.1
 |x::a,y::b,k+1,h=>by simpa using iP k h.2
 | [],_::_,_,h=>h.elim
 |_::_,[],_,h=>h.elim
theorem xg {cs:List Cls}: ∀{a b:L_} (k:Nat) {u v:UInt8},leL cs a b->cy cs u v=true->leL cs (a.set k u) (b.set k v)
 | [],[],k,_,_,_,_=>by simp[leL]
 |x::a,y::b,0,_,_,h,hu=>⟨hu,h.2⟩
 |x::a,y::b,k+1,_,_,h,hu=>⟨h.1,xg k h.2 hu⟩
 | [],_::_,_,_,_,h,_=>h.elim
 |_::_,[],_,_,_,h,_=>h.elim
theorem nK {cs:List Cls} (hw:WfC cs): ∀{a b:L_},a.length=b.length->leL cs a (dU cs a b)/\leL cs b (dU cs a b)/\ ∀c,leL cs a c->leL cs b c->leL cs (dU cs a b) c
 | [],[],_=>⟨trivial,trivial,λc h _=>h⟩
 |x::a,y::b,h=>by
  have ih:=nK hw (a:=a) (b:=b) (by simpa using h);have hj:=nH hw x y;refine⟨⟨hj.1,ih.1⟩,⟨hj.2.1,ih.2.1⟩,λc h1 h2=> ?_⟩
  match c,h1,h2 with
  |z::c,h1,h2=>exact⟨hj.2.2 z h1.1 h2.1,ih.2.2 c h1.2 h2.2⟩
  | [],h1,_=>exact h1.elim
 | [],_::_,h=>by simp at h
 |_::_,[],h=>by simp at h
abbrev Sp2:=L_×L_
def leS (cs:List Cls) (a b:Sp2):Prop:=leL cs a.1 b.1/\leL cs a.2 b.2
def leO (cs:List Cls):St->St->Prop
 |none,_=>True
 |some a,some b=>leS cs a b
 |some _,none=>False
def eh (cs:List Cls) (t u:List St):Prop:=t.length=u.length/\ ∀k:Nat,leO cs (t.getD k none) (u.getD k none)
theorem lB {cs:List Cls} (hw:WfC cs) {a b c:Sp2} (h:leS cs a b) (k:leS cs b c):leS cs a c:=⟨nJ hw h.1 k.1,nJ hw h.2 k.2⟩
theorem tB {cs:List Cls} (a:St):leO cs a a:=by
 cases a with
 |none=>trivial
 |some a=>exact⟨iO _,iO _⟩
theorem xX {cs:List Cls} (hw:WfC cs) {a b c:St} (h:leO cs a b) (k:leO cs b c):leO cs a c:=by
 cases a with
 |none=>trivial
 |some a=>
  cases b with
  |none=>exact h.elim
  |some b=>
   cases c with
   |none=>exact k.elim
   |some c=>exact lB hw h k
theorem Ae {cs:List Cls} (hw:WfC cs) {a b:St} (h:leO cs a b) (k:leO cs b a):a=b:=by
 cases a with
 |none=>
  cases b with
  |none=>rfl
  |some b=>exact k.elim
 |some a=>
  cases b with
  |none=>exact h.elim
  |some b=>
   obtain⟨a1,a2⟩:=a;obtain⟨b1,b2⟩:=b;have h1:a1=b1:=pe hw h.1 k.1;have h2:a2=b2:=pe hw h.2 k.2;rw[h1,h2]
theorem vG {cs:List Cls} (hw:WfC cs) {t u:List St} (h:eh cs t u) (k:eh cs u t):t=u:=by
 apply List.ext_getElem h.1
 intro i h1 h2;have:=Ae hw (h.2 i) (k.2 i);simpa[List.getD,h1,h2]using this
theorem ea {cs:List Cls} (t:List St):eh cs t t:=⟨rfl,λ_=>tB _⟩
theorem g9 {cs:List Cls} (hw:WfC cs) {t u v:List St} (h:eh cs t u) (k:eh cs u v):eh cs t v:=⟨h.1.trans k.1,λi=>xX hw (h.2 i) (k.2 i)⟩
theorem tC {cs:List Cls} {a b:UInt8} (h:cy cs a b=true) (hb:isR b=true):isR a=true:=by
 rw[aY]at h;simp only[isR,Bool.or_eq_true,ed]at hb⊢;obtain rfl|h| ⟨_,h⟩ | ⟨h,_⟩:=h
 .exact hb
 .obtain hb|hb:=hb
  .omega
  .rw[cI]at hb;omega
 .exact Or.inl h
 .exact Or.inr h
theorem tD {cs:List Cls} {c:Nat} {s t:L_} {k:Nat} (h:leL cs s t) (hk:fg c t=some k):fg c s=some k:=by
 have hl:=iw h;unfold fg at hk⊢;have d1:=λhb=>tC (iP (t.length-1) h) hb
 have d2:=λhb=>tC (iP (t.length-2) h) hb
 rw[hl]
 split at hk
 .rename_i h101
  rw[if_pos h101]
  split at hk
  .cases hk
  .rename_i hn
   rw[if_neg]
   .exact hk
   .simp only[not_or,Bool.not_eq_false]at hn⊢;exact⟨hn.1,d1 hn.2.1,d2 hn.2.2⟩
 .rename_i h101
  rw[if_neg h101]
  split at hk
  .cases hk
  .rename_i hn
   rw[if_neg]
   .exact hk
   .simp only[not_or,not_and,Bool.not_eq_false]at hn⊢;exact⟨hn.1,λh120=>d1 (hn.2 h120)⟩
theorem vH {cs:List Cls} (hw:WfC cs) {s t wa:L_} (h:leL cs s t) (hf:eG cs t wa=true):eG cs s wa=true:=by
 have hl:=iw h;unfold eG at hf⊢;simp only[et,ed,List.all_eq_true,List.mem_range]at hf⊢;rw[hl];exact⟨hf.1,λi hi=>l9 hw (iP _ h) (hf.2 i hi)⟩
theorem qU {cs:List Cls} (hw:WfC cs) {gs:List Sig} {b:Bod} {x:Ins} {s l t m t' m':L_} (h1:leL cs s t) (h2:leL cs l m) (he:eN cs gs b x t m=some (t',m')):
  ∃s' l',eN cs gs b x s l=some (s',l')/\leL cs s' t'/\leL cs l' m':=by
 have hl:=iw h1;unfold eN at he⊢
 split at he
 .rename_i hc
  rw[if_pos hc]
  split at he
  .cases he
  .rename_i k hk
   rw[tD h1 hk];injection he with he;injection he with e1 e2;refine⟨_,_,rfl,?_,?_⟩
   .rw[<-e1,hl];exact ka (pg _ h1) (iO _)
   .rw[<-e2,hl]
    split
    .exact xg _ h2 (iP _ h1)
    .exact h2
 .rename_i hc
  rw[if_neg hc]
  split at he
  .rename_i h108
   rw[if_pos h108]
   split at he
   .cases he
   .rename_i h45
    injection he with he;injection he with e1 e2;have hd:=iP x.b h2
    have: ¬(l.getD x.b 0).toNat=45:=by
     intro h;rw[aY]at hd;obtain hd|hd| ⟨_,hd⟩ | ⟨hd,_⟩:=hd
     .rw[hd]at h;exact h45 h
     .exact h45 hd
     .omega
     .rw[cI]at hd;omega
    rw[if_neg this];refine⟨_,_,rfl,?_,?_⟩
    .rw[<-e1];exact ka h1 ⟨hd,trivial⟩
    .rw[<-e2];exact h2
  .rename_i h108
   rw[if_neg h108]
   split at he
   .rename_i hf
    rw[if_pos (vH hw h1 hf)];injection he with he;injection he with e1 e2;refine⟨_,_,rfl,?_,?_⟩
    .rw[<-e1,hl];exact ka (pg _ h1) (iO _)
    .rw[<-e2];exact h2
   .cases he
def fp (cs:List Cls) (H:List St) (j:Int) (st:Sp2):Prop:=j<0\/ ∃st',H[j.toNat]?=some (some st')/\leS cs st st'
structure oJ (im:Img) (bd:Bod) (H:List St):Prop where
 len:H.length=bd.code.length
 start: ∃s0,H[0]?=some (some s0)/\leS im.zz ([],bd.locals) s0
 go: ∀(i:Nat) (x:Ins) (s l:L_),bd.code[i]?=some x->H[i]?=some (some (s,l))-> ∃s' l',eN im.zz im.zj bd x s l=some (s',l')/\fp im.zz H (eC x i).1 (s',l')/\fp im.zz H (eC x i).2 (s',l')
theorem getD_some {t:List St} {k:Nat} {p:Sp2}:t.getD k none=some p↔t[k]?=some (some p):=by
 simp only[List.getD]
 cases h:t[k]? with
 |none=>simp
 |some o=>simp
theorem mf {cs:List Cls} (hw:WfC cs) {o:St} {sb lb:L_} {m:Sp2} (hl: ∀s l,o=some (s,l)->l.length=lb.length) (h:io cs o sb lb=some m):leO cs o (some m)/\leS cs (sb,lb) m/\ ∀c,leO cs o (some c)->leS cs (sb,lb) c->leS cs m c:=by
 cases o with
 |none=>
  simp[io]at h;subst h;exact⟨trivial,⟨iO _,iO _⟩,λc _ h=>h⟩
 |some p=>
  obtain⟨sa,la⟩:=p;simp only[io]at h
  split at h
  .rename_i hlen
   injection h with h;subst h;have b1:=nK hw hlen;have b2:=nK hw (hl sa la rfl);exact⟨⟨b1.1,b2.1⟩,⟨b1.2.1,b2.2.1⟩,λc h k=>⟨b1.2.2 _ h.1 k.1,b2.2.2 _ h.2 k.2⟩⟩
  .cases h
theorem kR {cs:List Cls} (hw:WfC cs) {T:Tn} {H:List St} {j:Int} {sb lb:L_} (hb:T.2.2=false) (h:eh cs T.1 H) (hr:fp cs H j (sb,lb)):
  (cF cs T j sb lb).2.2=false/\eh cs (cF cs T j sb lb).1 H:=by
 unfold cF
 split
 .exact⟨hb,h⟩
 rename_i hj
 simp only[hb,false_or,dj]at hj;obtain hr| ⟨st',hst,hle⟩:=hr
 .exact absurd hr hj
 have a2:j.toNat<H.length:=(bC hst).1;have a0:=h.1
 split
 .omega
 have ho:=h.2 j.toNat;rw[getD_some.2 hst]at ho
 have a1: ∃m,io cs (T.1.getD j.toNat none) sb lb=some m:=by
  cases hh:T.1.getD j.toNat none with
  |none=>exact⟨_,rfl⟩
  |some p=>
   rw[hh]at ho;have e1:=iw ho.1;have e2:=iw hle.1;simp only at e2;exact⟨_,by unfold io;simp only;rw[if_pos (by omega)]⟩
 obtain⟨m,hm⟩:=a1;rw[hm];simp only
 split
 .exact⟨hb,h⟩
 .refine⟨rfl,⟨by rw[List.length_set];exact a0,λk=> ?_⟩⟩
  by_cases hk:k=j.toNat
  .subst hk;have hs:(T.1.set j.toNat (some m)).getD j.toNat none=some m:=by simp[List.getD,show j.toNat<T.1.length by omega]
   rw[hs,getD_some.2 hst]
   have hl: ∀s l,T.1.getD j.toNat none=some (s,l)->l.length=lb.length:=λs l hh=>by
    rw[hh]at ho;have e1:=iw ho.2;have e2:=iw hle.2;simp only at e1 e2;omega
   exact(mf hw hl hm).2.2 st' ho hle
  .have hs:(T.1.set j.toNat (some m)).getD k none=T.1.getD k none:=by simp[List.getD,List.getElem?_set,show¬j.toNat=k from λh=>hk h.symm]
   rw[hs];exact h.2 k
theorem tE {im:Img} (hw:WfC im.zz) {bd:Bod} {T:Tn} {H:List St} (hG:oJ im bd H) (hb:T.2.2=false) (h:eh im.zz T.1 H) (i:Nat):
  ∃T',gE im bd T i=some T'/\T'.2.2=false/\eh im.zz T'.1 H:=by
 cases hx:bd.code[i]? with
 |none=>exact⟨T,by unfold gE;rw[hx],hb,h⟩
 |some x=>
  cases ho:T.1.getD i none with
  |none=>exact⟨T,by unfold gE;rw[hx,ho],hb,h⟩
  |some p=>
   obtain⟨s,l⟩:=p;have hH:=h.2 i;rw[ho]at hH
   cases hq:H.getD i none with
   |none=>rw[hq]at hH;exact hH.elim
   |some q=>
    obtain⟨t,m⟩:=q;rw[hq]at hH;obtain⟨t',m',he,r1,r2⟩:=hG.go i x t m hx (getD_some.1 hq);obtain⟨s',l',a0,l1,l2⟩:=qU hw hH.1 hH.2 he;refine⟨_,pb hx (getD_some.1 ho) a0,?_⟩
    have low: ∀j,fp im.zz H j (t',m')->fp im.zz H j (s',l'):=λj hj=>by
     obtain hj| ⟨st,h1,h2⟩:=hj
     .exact Or.inl hj
     .exact Or.inr ⟨st,h1,lB hw ⟨l1,l2⟩ h2⟩
    have i1:=kR hw hb h (low _ r1);exact kR hw i1.1 i1.2 (low _ r2)
theorem rL {im:Img} (hw:WfC im.zz) {bd:Bod} {H:List St} (hG:oJ im bd H): ∀{f i:Nat} {T:Tn},T.2.2=false->eh im.zz T.1 H-> ∃T',eE im bd f i T=some T'/\T'.2.2=false/\eh im.zz T'.1 H:=by
 intro f
 induction f with
 |zero=>intro i T hb h;exact⟨T,rfl,hb,h⟩
 |succ f ih=>
  intro i T hb h;obtain⟨T1,h1,h2,h3⟩:=tE hw hG hb h i;obtain⟨T2,h4,h5⟩:=ih (i:=i+1) h2 h3;exact⟨T2,by rw[ol hb h1];exact h4,h5⟩
theorem qy {im:Img} (hw:WfC im.zz) {bd:Bod} {H:List St} (hG:oJ im bd H): ∀{f:Nat} {tb:List St} {ch:Bool},eh im.zz tb H-> ∃t,fA im bd f (tb,ch,false)=some t/\eh im.zz t H:=by
 intro f
 induction f with
 |zero=>intro tb ch h;exact⟨tb,rfl,h⟩
 |succ f ih=>
  intro tb ch h
  cases ch with
  |false=>exact⟨tb,j9 im bd _ tb _,h⟩
  |true=>
   obtain⟨T1,h1,h2,h3⟩:=rL hw hG (f:=bd.code.length) (i:=0) (T:=(tb,false,false)) rfl h;obtain⟨t1,c1,b1⟩:=T1;simp only at h2 h3;subst h2;obtain⟨t,h4,h5⟩:=ih (ch:=c1) h3;refine⟨t,?_,h5⟩;rw[o8,h1];simp only[l8];rw[if_neg (by simp)];exact h4
theorem kS {im:Img} {bd:Bod} {H:List St} (hG:oJ im bd H):eh im.zz (dh bd) H:=by
 obtain⟨s0,h0,hs⟩:=hG.start;refine⟨by unfold dh;simp[hG.len],λk=> ?_⟩;unfold dh;have a0:0<bd.code.length:=by rw[<-hG.len];exact(bC h0).1
 cases k with
 |zero=>
  have:((List.replicate bd.code.length (none:St)).set 0 (some ([],bd.locals))).getD 0 none=some ([],bd.locals):=by simp[List.getD,a0]
  rw[this,getD_some.2 h0];exact hs
 |succ k=>
  have:((List.replicate bd.code.length (none:St)).set 0 (some ([],bd.locals))).getD (k+1) none=none:=by
   simp only[List.getD,List.getElem?_set];rw[if_neg (by omega)];rw[List.getElem?_replicate]
   split<;>rfl
  rw[this]
  trivial
theorem rM {im:Img} (hw:WfC im.zz) {bd:Bod} {H:List St} (hG:oJ im bd H): ∃t,dR im bd=some t/\eh im.zz t H:=
 qy hw hG (kS hG)
def rk (c:UInt8):Nat:=if c.toNat=45 then 0 else if c.toNat=122 then 5 else if isC c=true then 1+(c.toNat-65)else 1
theorem D6 (c:UInt8):rk c<=5:=by
 unfold rk
 split
 .omega
 split
 .omega
 split
 .rename_i h;rw[cI]at h;omega
 .omega
theorem vI {c:UInt8} (h:isC c=true):rk c=1+(c.toNat-65)/\65<=c.toNat/\c.toNat<=68:=by
 have h':=h;rw[cI]at h';unfold rk;rw[if_neg (by omega),if_neg (by omega),if_pos h];exact⟨rfl,h'.1,h'.2⟩
theorem D7 {cs:List Cls} (hw:WfC cs) {a b:UInt8} (h:cy cs a b=true) (hne:a≠b):rk b<rk a:=by
 have a0:a.toNat≠b.toNat:=λe=>hne (bS e)
 rw[aY]at h;obtain h|h| ⟨h1,h2⟩ | ⟨h1,h2,h3⟩:=h
 .exact absurd h hne
 .have hb:rk b=0:=by unfold rk;rw[if_pos h]
  have ha:1<=rk a:=by
   unfold rk;rw[if_neg (by omega)]
   split
   .omega
   split<;>omega
  omega
 .have:=vI h1;have ha:rk a=5:=by unfold rk;rw[if_neg (by omega),if_pos h2]
  omega
 .have c1:=vI h1;have c2:=vI h2;have r:=jJ hw h1;have:=vB hw 4 (by omega) (by omega) h3;unfold kl at this;omega
def qz (l:L_):Nat:=(l.map rk).sum
theorem mO: ∀l:L_,qz l<=5*l.length
 | []=>by simp[qz]
 |x::l=>by
  have:=mO l;have:=D6 x;simp only[qz,List.map_cons,List.sum_cons,List.length_cons]at*;omega
theorem nM {cs:List Cls} (hw:WfC cs): ∀{a b:L_},leL cs a b->qz b<=qz a/\(a≠b->qz b<qz a)
 | [],[],_=>⟨b8 _,λh=>absurd rfl h⟩
 |x::a,y::b,h=>by
  have ih:=nM hw h.2;simp only[qz,List.map_cons,List.sum_cons]at*
  by_cases hxy:x=y
  .subst hxy;refine⟨by omega,λhn=> ?_⟩;have:=ih.2 (λe=>hn (by rw[e]));omega
  .have:=D7 hw h.1 hxy;exact⟨by omega,λ_=>by omega⟩
 | [],_::_,h=>h.elim
 |_::_,[],h=>h.elim
def wt:St->Nat
 |none=>700
 |some (s,l)=>qz s+qz l
def mu (t:List St):Nat:=(t.map wt).sum
theorem Af: ∀{t:List St} {j:Nat} (o:St) (hj:j<t.length),mu (t.set j o)+wt t[j]=mu t+wt o
 |x::t,0,o,_=>by simp[mu];omega
 |x::t,j+1,o,h=>by
  have:=Af (t:=t) (j:=j) o (by simpa using h);simp only[mu,List.set_cons_succ,List.map_cons,List.sum_cons,List.getElem_cons_succ]at*;omega
 | [],_,_,h=>by simp at h
theorem CY: ∀{t:List St},(∀o∈t,wt o<=700)->mu t<=700*t.length
 | [],_=>by simp[mu]
 |x::t,h=>by
  have h1:=h x (by simp);have h2:=CY (t:=t) (λo ho=>h o (by simp[ho]));simp only[mu,List.map_cons,List.sum_cons,List.length_cons]at*;omega
theorem mh {cs:List Cls} (hw:WfC cs) (hnc:cs.length<=4) {nl n:Nat} (hnl:nl<=5) (hn:n<=100) {T:Tn} {j:Int} {sb lb:L_} (h:wfT cs.length nl n T.1) (hz:okZ cs.length nl sb lb) (hl:sb.length<=j6 T.1) (hb:(cF cs T j sb lb).2.2=false):
  T.2.2=false/\eh cs T.1 (cF cs T j sb lb).1/\((cF cs T j sb lb=T/\fp cs T.1 j (sb,lb))\/((cF cs T j sb lb).2.1=true/\mu (cF cs T j sb lb).1<mu T.1)):=by
 have a2:=(jI hnc hw (j:=j) h hz hl).1;revert hb a2;unfold cF
 split
 .rename_i h1
  intro hb _;refine⟨hb,ea _,Or.inl ⟨rfl,?_⟩⟩;obtain h1|h1:=h1
  .rw[hb]at h1;cases h1
  .exact Or.inl h1
 rename_i h1
 have a3:T.2.2=false:=by have:=(not_or.1 h1).1;simpa using this
 split
 .intro hb;cases hb
 rename_i h2
 have a1:j.toNat<T.1.length:=by omega
 have a5:T.1.getD j.toNat none=T.1[j.toNat]:=by simp[List.getD,a1]
 split
 .intro hb;cases hb
 rename_i m hm
 have a6: ∀s l,T.1.getD j.toNat none=some (s,l)->l.length=lb.length:=λs l hh=>by
  have:=(h.2 j.toNat s l (getD_some.1 hh)).1.2.2;rw[this,hz.2.2]
 have a0:=mf hw a6 hm
 split
 .rename_i hsame
  intro _ _;refine⟨a3,ea _,Or.inl ⟨rfl,Or.inr ⟨m,getD_some.1 hsame.symm,a0.2.1⟩⟩⟩
 .rename_i hdiff
  intro _ a2;refine⟨a3,⟨by simp,λk=> ?_⟩,Or.inr ⟨rfl,?_⟩⟩
  .by_cases hk:k=j.toNat
   .subst hk;have hs:(T.1.set j.toNat (some m)).getD j.toNat none=some m:=by simp[List.getD,a1]
    simp only;rw[hs];exact a0.1
   .have hs:(T.1.set j.toNat (some m)).getD k none=T.1.getD k none:=by simp[List.getD,List.getElem?_set,show¬j.toNat=k from λh=>hk h.symm]
    simp only;rw[hs];exact tB _
  .have a7:=Af (some m) a1;simp only;rw[a5]at hm hdiff a0
   suffices wt (some m)<wt T.1[j.toNat] by omega
   obtain⟨m1,m2⟩:=m
   cases ho:T.1[j.toNat]with
   |none=>
    have a4:=a2.okS hn j.toNat m1 m2 (by simp only;rw[List.getElem?_set];simp[a1]);have s1:=mO m1;have s2:=mO m2;have:=a4.2.2.1;have:=a4.2.2.2;simp only[wt];omega
   |some p=>
    obtain⟨sa,la⟩:=p;rw[ho]at a0 hdiff;have d1:=nM hw a0.1.1;have d2:=nM hw a0.1.2;simp only at d1 d2;simp only[wt]
    by_cases e1:sa=m1
    .by_cases e2:la=m2
     .rw[e1,e2]at hdiff;exact absurd rfl hdiff
     .have:=d2.2 e2;omega
    .have:=d1.2 e1;omega
def ph (im:Img) (bd:Bod) (t:List St) (i:Nat):Prop:=
 ∀(x:Ins) (s l:L_),bd.code[i]?=some x->t[i]?=some (some (s,l))-> ∃s' l',eN im.zz im.zj bd x s l=some (s',l')/\fp im.zz t (eC x i).1 (s',l')/\fp im.zz t (eC x i).2 (s',l')
theorem vJ {im:Img} (hW:WfI im) {bd:Bod} (hbd:WfB im.zz im.zj bd) {T T':Tn} {i:Nat} (h:wfT im.zz.length bd.locals.length bd.code.length T.1) (hs:gE im bd T i=some T') (hb:T'.2.2=false):
  eh im.zz T.1 T'.1/\((T'=T/\ph im bd T.1 i)\/(T'.2.1=true/\mu T'.1<mu T.1)):=by
 cases hx:bd.code[i]? with
 |none=>
  have:gE im bd T i=some T:=by unfold gE;rw[hx]
  rw[this]at hs;injection hs with hs;subst hs;exact⟨ea _,Or.inl ⟨rfl,λx s l h1=>by rw[hx]at h1;cases h1⟩⟩
 |some x=>
  cases ho:T.1.getD i none with
  |none=>
   have:gE im bd T i=some T:=by unfold gE;rw[hx,ho]
   rw[this]at hs;injection hs with hs;subst hs;refine⟨ea _,Or.inl ⟨rfl,λx s l _ h2=> ?_⟩⟩;rw[getD_some.2 h2]at ho
   cases ho
  |some p=>
   obtain⟨s,l⟩:=p;have hg:=getD_some.1 ho
   cases he:eN im.zz im.zj bd x s l with
   |none=>rw[vy hx hg he]at hs;cases hs
   |some q=>
    obtain⟨s',l'⟩:=q;rw[pb hx hg he]at hs;injection hs with hs;subst hs;have hz:=h.2 i s l hg;have a0:=mL hW (hbd.code x (bp hx)) hz.1 he;have a1:s'.length<=j6 T.1:=by omega
    have w1:=jI hW.nc hW.cls (j:=(eC x i).1) h a0.1 a1;have c2:=mh hW.cls hW.nc hbd.loc.1 hbd.len.2 w1.1 a0.1 (by omega) hb;have c1:=mh hW.cls hW.nc hbd.loc.1 hbd.len.2 h a0.1 a1 c2.1;refine⟨g9 hW.cls c1.2.1 c2.2.1,?_⟩;obtain⟨e1,r1⟩ | ⟨e1,r1⟩:=c1.2.2
    .obtain⟨e2,r2⟩ | ⟨e2,r2⟩:=c2.2.2
     .left
      rw[e1]at e2 r2⊢;refine⟨e2,λx' s'' l'' h1 h2=> ?_⟩;rw[hx]at h1;injection h1 with h1;rw[hg]at h2;injection h2 with h2;injection h2 with h2;injection h2 with h2 h3;subst h1 h2 h3;exact⟨s',l',he,r1,r2⟩
     .right
      refine⟨e2,?_⟩;rw[e1]at r2⊢;exact r2
    .right
     obtain⟨e2,r2⟩ | ⟨e2,r2⟩:=c2.2.2
     .rw[e2];exact⟨e1,r1⟩
     .exact⟨e2,by omega⟩
theorem xY {cs:List Cls} {T:Tn} {j:Int} {sb lb:L_} (h:T.2.2=true):cF cs T j sb lb=T:=by
 unfold cF;rw[if_pos (Or.inl h)]
theorem tF {im:Img} (hW:WfI im) {bd:Bod} (hbd:WfB im.zz im.zj bd): ∀{f i:Nat} {T T':Tn},wfT im.zz.length bd.locals.length bd.code.length T.1->eE im bd f i T=some T'->T'.2.2=false->
  eh im.zz T.1 T'.1/\((T'=T/\ ∀k,i<=k->k<i+f->ph im bd T.1 k)\/(T'.2.1=true/\mu T'.1<mu T.1)):=by
 intro f
 induction f with
 |zero=>
  intro i T T' h hs hb;simp[eE]at hs;subst hs;exact⟨ea _,Or.inl ⟨rfl,λk h1 h2=>by omega⟩⟩
 |succ f ih=>
  intro i T T' h hs hb
  by_cases hbt:T.2.2=true
  .rw[o9 _ _ _ _ _ hbt]at hs;injection hs with hs;subst hs;rw[hbt]at hb
   cases hb
  .have a1:T.2.2=false:=by simpa using hbt
   cases h1:gE im bd T i with
   |none=>rw[tr a1 h1]at hs;cases hs
   |some T1=>
    rw[ol a1 h1]at hs
    have a0:T1.2.2=false:=by
     by_cases a0:T1.2.2=true
     .rw[o9 _ _ _ _ _ a0]at hs;injection hs with hs;subst hs;exact hb
     .simpa using a0
    have c1:=vJ hW hbd h h1 a0;have c2:=ih (tq hW hbd h h1) hs hb;refine⟨g9 hW.cls c1.1 c2.1,?_⟩;obtain⟨e1,r1⟩ | ⟨e1,r1⟩:=c1.2
    .subst e1;obtain⟨e2,r2⟩ |r2:=c2.2
     .left
      refine⟨e2,λk hk1 hk2=> ?_⟩
      by_cases hk:k=i
      .subst hk;exact r1
      .exact r2 k (by omega) (by omega)
     .exact Or.inr r2
    .right
     obtain⟨e2,r2⟩ | ⟨e2,r2⟩:=c2.2
     .rw[e2];exact⟨e1,r1⟩
     .exact⟨e2,by omega⟩
theorem rN {im:Img} (hW:WfI im) {bd:Bod} (hbd:WfB im.zz im.zj bd): ∀{f:Nat} {tb:List St} {ch:Bool} {t:List St},wfT im.zz.length bd.locals.length bd.code.length tb->
  (ch=false-> ∀k,k<bd.code.length->ph im bd tb k)->(ch=true->mu tb<f)->fA im bd f (tb,ch,false)=some t->eh im.zz tb t/\ ∀k,k<bd.code.length->ph im bd t k:=by
 intro f
 induction f with
 |zero=>
  intro tb ch t h a1 a0 hr
  cases ch with
  |false=>
   rw[j9]at hr;injection hr with hr;subst hr;exact⟨ea _,a1 rfl⟩
  |true=>exact absurd (a0 rfl) (by omega)
 |succ f ih=>
  intro tb ch t h a1 a0 hr
  cases ch with
  |false=>
   rw[j9]at hr;injection hr with hr;subst hr;exact⟨ea _,a1 rfl⟩
  |true=>
   rw[o8]at hr
   cases hs:eE im bd bd.code.length 0 (tb,false,false)with
   |none=>rw[hs]at hr;cases hr
   |some T1=>
    rw[hs]at hr;obtain⟨t1,c1,b1⟩:=T1;simp only[l8]at hr
    cases b1 with
    |true=>simp at hr
    |false=>
     simp only[dj,if_false]at hr;have c:=tF hW hbd (T:=(tb,false,false)) h hs rfl;have a2:=qS hW hbd (T:=(tb,false,false)) h hs;obtain⟨e,r⟩ | ⟨e,r⟩:=c.2
     .injection e with e1 e2;injection e2 with e2 _;subst e1 e2;have:=ih a2 (λ_ k hk=>r k (by omega) (by omega)) (λh=>by cases h) hr;exact this
     .simp only at e r;subst e;have hm:=a0 rfl;have:=ih a2 (λh=>by cases h) (λ_=>by show mu t1<f;omega) hr;exact⟨g9 hW.cls c.1 this.1,this.2⟩
theorem tG {im:Img} {bd:Bod} (hbd:WfB im.zz im.zj bd):mu (dh bd)<80000:=by
 have h:mu (dh bd)<=700*(dh bd).length:=by
  apply CY
  intro o ho
  cases o with
  |none=>simp[wt]
  |some p=>
   obtain⟨s,l⟩:=p;obtain⟨k,hk⟩:=List.mem_iff_getElem?.1 ho;have a0:=(g8 hbd).okS hbd.len.2 k s l hk;have s1:=mO s;have s2:=mO l;have:=a0.2.2.1;have:=a0.2.2.2;have:=hbd.loc.1;simp only[wt];omega
 have h1:(dh bd).length=bd.code.length:=(g8 hbd).1;have:=hbd.len.2;omega
theorem kT {im:Img} (hW:WfI im) {bd:Bod} (hbd:WfB im.zz im.zj bd) {t:List St} (h:dR im bd=some t):oJ im bd t:=by
 have hc:=rN hW hbd (g8 hbd) (λh=>by cases h) (λ_=>tG hbd) h;have hl:=(nG hW hbd h).1;refine⟨hl,?_,λi x s l hx hs=>hc.2 i (bC hx).1 x s l hx hs⟩;have h0:=hc.1.2 0
 have hs:(dh bd).getD 0 none=some ([],bd.locals):=by
  unfold dh;simp[List.getD,hbd.len.1]
 rw[hs]at h0
 cases ht:t.getD 0 none with
 |none=>rw[ht]at h0;exact h0.elim
 |some s0=>rw[ht]at h0;exact⟨s0,getD_some.1 ht,h0⟩
theorem tH {im:Img} (hW:WfI im) {bd:Bod} (hbd:WfB im.zz im.zj bd) {t:List St} (hG:oJ im bd t) (hm: ∀H,oJ im bd H->eh im.zz t H):dR im bd=some t:=by
 obtain⟨u,hu,a0⟩:=rM hW.cls hG;rw[hu,vG hW.cls a0 (hm u (kT hW hbd hu))]
theorem tI {im:Img} (hW:WfI im) {bd:Bod} (hbd:WfB im.zz im.zj bd) (h: ∀H,¬oJ im bd H):dR im bd=none:=by
 cases hu:dR im bd with
 |none=>rfl
 |some u=>exact absurd (kT hW hbd hu) (h u)
abbrev Wn:=List St×List Bool×Bool
def a9 (cs:List Cls) (W:Wn) (j:Nat) (sb lb:L_):Wn:=
 ((cF cs (W.1,false,W.2.2) j sb lb).1,if(cF cs (W.1,false,W.2.2) j sb lb).2.1=true then W.2.1.set j true else W.2.1,(cF cs (W.1,false,W.2.2) j sb lb).2.2)
structure pi (im:Img) (bd:Bod) (X:Nat->Prop) (W:Wn):Prop where
 wf:wfT im.zz.length bd.locals.length bd.code.length W.1
 wl:W.2.1.length=bd.code.length
 start:eh im.zz (dh bd) W.1
 stab:W.2.2=false-> ∀k,k<bd.code.length-> ¬X k->W.2.1.getD k false=false->ph im bd W.1 k
def xZ (im:Img) (bd:Bod) (W:Wn):Prop:= ∀H,oJ im bd H->W.2.2=false/\eh im.zz W.1 H
def pj (l:List Bool):Nat:=l.countP id
def muW (W:Wn):Nat:=2*mu W.1+pj W.2.1
theorem pm (l:List Bool) (j:Nat):pj (l.set j true)<=pj l+1:=by
 unfold pj
 by_cases h:j<l.length
 .rw[List.countP_set h];split<;>simp<;>omega
 .rw[List.set_eq_of_length_le (by omega)];omega
theorem kB {l:List Bool} {j:Nat} (h:l.getD j false=true):pj (l.set j false)<pj l:=by
 have hj:j<l.length:=by
  by_cases hj:j<l.length
  .exact hj
  .simp[List.getD,List.getElem?_eq_none (by omega:l.length<=j)]at h
 have hv:l[j]=true:=by simpa[List.getD,hj]using h
 unfold pj;rw[List.countP_set hj];have:0<l.countP id:=List.countP_pos_iff.2 ⟨_,cN hj,hv⟩;simp[hv];omega
theorem po {cs:List Cls} (hw:WfC cs) {t u:List St} {j:Int} {st:Sp2} (h:eh cs t u) (hr:fp cs t j st):fp cs u j st:=by
 obtain hr| ⟨st',h1,h2⟩:=hr
 .exact Or.inl hr
 .have h3:=h.2 j.toNat;rw[getD_some.2 h1]at h3
  cases hu:u.getD j.toNat none with
  |none=>rw[hu]at h3;exact h3.elim
  |some q=>rw[hu]at h3;exact Or.inr ⟨q,getD_some.1 hu,lB hw h2 h3⟩
theorem tJ {cs:List Cls} {T:Tn} {j:Nat} {sb lb:L_} {k:Nat} (hk:k≠j):(cF cs T j sb lb).1[k]?=T.1[k]?:=by
 unfold cF
 split
 .rfl
 split
 .rfl
 split
 .rfl
 split
 .rfl
 .simp[List.getElem?_set,show¬j=k from λh=>hk h.symm]
theorem tK {im:Img} (hW:WfI im) {bd:Bod} (hbd:WfB im.zz im.zj bd) {n:Nat} {T:Tn} {j:Nat} {sb lb:L_} (h:wfT im.zz.length bd.locals.length n T.1) (hz:okZ im.zz.length bd.locals.length sb lb) (hr:(cF im.zz T j sb lb).2.2=false):
  fp im.zz (cF im.zz T j sb lb).1 j (sb,lb):=by
 revert hr;unfold cF
 split
 .rename_i h1
  intro hr;obtain h1|h1:=h1
  .rw[hr]at h1;cases h1
  .omega
 split
 .intro hr;cases hr
 rename_i h1 h2
 have a1:(j:Int).toNat<T.1.length:=by omega
 split
 .intro hr;cases hr
 rename_i m hm
 have a2: ∀s l,T.1.getD (j:Int).toNat none=some (s,l)->l.length=lb.length:=λs l hh=>by
  have:=(h.2 _ s l (getD_some.1 hh)).1.2.2;rw[this,hz.2.2]
 have a0:=mf hW.cls a2 hm
 split
 .rename_i hs
  intro _;exact Or.inr ⟨m,getD_some.1 hs.symm,a0.2.1⟩
 .intro _;exact Or.inr ⟨m,by simp only;rw[List.getElem?_set,if_pos rfl];simp only[a1,if_true],a0.2.1⟩
theorem tL {im:Img} (hW:WfI im) {bd:Bod} (hbd:WfB im.zz im.zj bd) {X:Nat->Prop} {W:Wn} {j:Nat} {sb lb:L_} (hf:W.2.2=false) (hI:pi im bd X W) (hz:okZ im.zz.length bd.locals.length sb lb) (hl:sb.length<=j6 W.1)
  (hr:(a9 im.zz W j sb lb).2.2=false):
  pi im bd X (a9 im.zz W j sb lb)/\eh im.zz W.1 (a9 im.zz W j sb lb).1/\fp im.zz (a9 im.zz W j sb lb).1 j (sb,lb)/\muW (a9 im.zz W j sb lb)<=muW W/\j6 W.1<=j6 (a9 im.zz W j sb lb).1/\(∀k,k≠j->(a9 im.zz W j sb lb).1[k]?=W.1[k]?)/\((a9 im.zz W j sb lb).1[j]?=W.1[j]?\/(a9 im.zz W j sb lb).2.1.getD j false=true):=by
 have hc:=mh hW.cls hW.nc hbd.loc.1 hbd.len.2 (T:=(W.1,false,W.2.2)) (j:=(j:Int)) hI.wf hz hl hr;have a6:=jI hW.nc hW.cls (T:=(W.1,false,W.2.2)) (j:=(j:Int)) hI.wf hz hl;have a1:=λk (hk:k≠j)=>tJ (cs:=im.zz) (T:=(W.1,false,W.2.2)) (j:=j) (sb:=sb) (lb:=lb) hk
 obtain⟨e,r⟩ | ⟨e,r⟩:=hc.2.2
 .have hid:a9 im.zz W j sb lb=W:=by
   unfold a9;rw[e];simp
  rw[hid];exact⟨hI,ea _,r,b8 _,b8 _,λ_ _=>rfl,Or.inl rfl⟩
 .have a2:(a9 im.zz W j sb lb).2.1=W.2.1.set j true:=by unfold a9;simp only[e,if_true]
  have a7:(a9 im.zz W j sb lb).1=(cF im.zz (W.1,false,W.2.2) j sb lb).1:=rfl
  have a8:j<bd.code.length:=by
   by_cases hj:j<bd.code.length
   .exact hj
   .exfalso
    have:cF im.zz (W.1,false,W.2.2) j sb lb=(W.1,false,true):=by
     unfold cF;have h1:=hI.wf.1;rw[if_neg (by simp[hf]),if_pos (by simp only;omega)]
    have h2:(cF im.zz (W.1,false,W.2.2) j sb lb).2.2=false:=hr;rw[this]at h2
    cases h2
  have a5:(W.2.1.set j true).getD j false=true:=by
   have:=hI.wl;simp[List.getD,show j<W.2.1.length by omega]
  refine⟨⟨a6.1,by rw[a2,List.length_set];exact hI.wl,g9 hW.cls hI.start hc.2.1,?_⟩,hc.2.1,?_,?_,a6.2,a1,Or.inr (by rw[a2];exact a5)⟩
  .intro _ k hk hX a3;rw[a2]at a3
   by_cases hkj:k=j
   .subst hkj;rw[a5]at a3;cases a3
   .have a4:W.2.1.getD k false=false:=by
     simpa[List.getD,List.getElem?_set,show¬j=k from λh=>hkj h.symm]using a3
    intro x s l hx hs;rw[a7,a1 k hkj]at hs;obtain⟨s',l',h1,h2,h3⟩:=hI.stab hf k hk hX a4 x s l hx hs;exact⟨s',l',h1,po hW.cls hc.2.1 h2,po hW.cls hc.2.1 h3⟩
  · --the state is there now
   have a0:=tK (T:=(W.1,false,W.2.2)) hW hbd hI.wf hz hr;exact a0
  .have h1:mu (a9 im.zz W j sb lb).1<mu W.1:=r;have h2:=pm W.2.1 j;unfold muW;rw[a2];omega
theorem mi {cs:List Cls} {W:Wn} {j:Nat} {sb lb:L_} (h:W.2.2=true):(a9 cs W j sb lb).2.2=true:=by
 unfold a9;rw[xY (by exact h)];exact h
theorem rO {cs:List Cls} {W:Wn} {j k:Nat} {sb lb:L_} (h:W.2.1.getD k false=true):(a9 cs W j sb lb).2.1.getD k false=true:=by
 unfold a9;simp only
 split
 .simp only[List.getD,List.getElem?_set]
  split
  .rename_i hjk
   subst hjk
   have:j<W.2.1.length:=by
    by_cases hj:j<W.2.1.length
    .exact hj
    .simp[List.getD,List.getElem?_eq_none (by omega:W.2.1.length<=j)]at h
   simp[this]
  .exact h
 .exact h
def jb (x:Ins) (i:Nat):List Nat:=if x.op.toNat=116 then []else if x.op.toNat=106 then [x.b]else if x.op.toNat=102 then [x.b,i+1]else [i+1]
def da (cs:List Cls) (sb lb:L_) (W:Wn) (l:List Nat):Wn:=l.foldl (λW j=>a9 cs W j sb lb) W
theorem rP {cs:List Cls} {sb lb:L_}: ∀{l:List Nat} {W:Wn},W.2.2=true->(da cs sb lb W l).2.2=true:=by
 intro l
 induction l with
 |nil=>intro W h;exact h
 |cons j l ih=>intro W h;exact ih (W:=a9 cs W j sb lb) (mi h)
theorem qA {im:Img} (hW:WfI im) {bd:Bod} (hbd:WfB im.zz im.zj bd) {X:Nat->Prop} {sb lb:L_} (hz:okZ im.zz.length bd.locals.length sb lb) (a:Nat): ∀{l:List Nat} {W:Wn},W.2.2=false->pi im bd X W->sb.length<=j6 W.1->(da im.zz sb lb W l).2.2=false->
  pi im bd X (da im.zz sb lb W l)/\eh im.zz W.1 (da im.zz sb lb W l).1/\(∀j∈l,fp im.zz (da im.zz sb lb W l).1 (j:Nat) (sb,lb))/\muW (da im.zz sb lb W l)<=muW W/\((da im.zz sb lb W l).1[a]?=W.1[a]?\/(da im.zz sb lb W l).2.1.getD a false=true):=by
 intro l
 induction l with
 |nil=>intro W hf hI hl hr;exact⟨hI,ea _,by simp,b8 _,Or.inl rfl⟩
 |cons j l ih=>
  intro W hf hI hl hr
  have a2:(a9 im.zz W j sb lb).2.2=false:=by
   by_cases h:(a9 im.zz W j sb lb).2.2=true
   .have:=rP (cs:=im.zz) (sb:=sb) (lb:=lb) (l:=l) h;rw[show da im.zz sb lb W (j::l)=da im.zz sb lb (a9 im.zz W j sb lb) l from rfl,this]at hr
    cases hr
   .simpa using h
  obtain⟨i1,i2,i3,i4,i5,i6,i7⟩:=tL hW hbd hf hI hz hl a2;obtain⟨k1,k2,k3,k4,k5⟩:=ih a2 i1 (by omega) hr;refine⟨k1,g9 hW.cls i2 k2,?_,by exact Nat.le_trans k4 i4,?_⟩
  .intro j' a1;simp only[List.mem_cons]at a1;obtain rfl|a1:=a1
   .exact po hW.cls k2 i3
   .exact k3 j' a1
  .have a0:(a9 im.zz W j sb lb).2.1.getD a false=true->(da im.zz sb lb W (j::l)).2.1.getD a false=true:=by
    have gen: ∀(l:List Nat) (V:Wn),V.2.1.getD a false=true->(da im.zz sb lb V l).2.1.getD a false=true:=by
     intro l
     induction l with
     |nil=>intro V h;exact h
     |cons q l ih2=>intro V h;exact ih2 (a9 im.zz V q sb lb) (rO h)
    exact gen l _
   obtain k5|k5:=k5
   .by_cases haj:a=j
    .subst haj;obtain i7|i7:=i7
     .left;exact k5.trans i7
     .right;exact a0 i7
    .left;exact k5.trans (i6 a haj)
   .exact Or.inr k5
theorem rQ {im:Img} (hw:WfC im.zz) {bd:Bod} {H:List St} {sb lb:L_}: ∀{l:List Nat} {W:Wn},W.2.2=false->eh im.zz W.1 H->(∀j∈l,fp im.zz H (j:Nat) (sb,lb))->(da im.zz sb lb W l).2.2=false/\eh im.zz (da im.zz sb lb W l).1 H:=by
 intro l
 induction l with
 |nil=>intro W hf h _;exact⟨hf,h⟩
 |cons j l ih=>
  intro W hf h hr;have:=kR hw (T:=(W.1,false,W.2.2)) hf h (hr j (by simp));exact ih (W:=a9 im.zz W j sb lb) this.1 this.2 (λj' hj'=>hr j' (by simp[hj']))
theorem qV {cs:List Cls} {H:List St} {x:Ins} {i:Nat} {st:Sp2}:(∀j∈jb x i,fp cs H (j:Nat) st)↔fp cs H (eC x i).1 st/\fp cs H (eC x i).2 st:=by
 have neg:fp cs H (-1) st:=Or.inl (by omega);unfold jb eC
 split
 .simp[neg]
 split
 .simp[neg]
 split
 .simp;exact⟨λh=>⟨h.2,h.1⟩,λh=>⟨h.2,h.1⟩⟩
 .simp[neg]
def gT (im:Img) (bd:Bod) (W:Wn) (a:Nat) (x:Ins) (s l:L_):Wn:=
 match eN im.zz im.zj bd x s l with
 |none=>(W.1,W.2.1.set a false,true)
 |some (s',l')=>da im.zz s' l' (W.1,W.2.1.set a false,W.2.2) (jb x a)
theorem tM {im:Img} (hw:WfC im.zz) {bd:Bod} {W:Wn} {a:Nat} {x:Ins} {s l:L_} (hL:xZ im bd W) (hx:bd.code[a]?=some x) (hs:W.1[a]?=some (some (s,l))):xZ im bd (gT im bd W a x s l):=by
 intro H hG;obtain⟨h1,h2⟩:=hL H hG;have hH:=h2.2 a;rw[getD_some.2 hs]at hH
 cases hq:H.getD a none with
 |none=>rw[hq]at hH;exact hH.elim
 |some q=>
  obtain⟨t,m⟩:=q;rw[hq]at hH;obtain⟨t',m',he,r1,r2⟩:=hG.go a x t m hx (getD_some.1 hq);obtain⟨s',l',a0,l1,l2⟩:=qU hw hH.1 hH.2 he;unfold gT;rw[a0]
  have low: ∀j,fp im.zz H j (t',m')->fp im.zz H j (s',l'):=λj hj=>by
   obtain hj| ⟨st,e1,e2⟩:=hj
   .exact Or.inl hj
   .exact Or.inr ⟨st,e1,lB hw ⟨l1,l2⟩ e2⟩
  exact rQ hw (W:=(W.1,W.2.1.set a false,W.2.2)) (bd:=bd) h1 h2 (qV.2 ⟨low _ r1,low _ r2⟩)
theorem tN {im:Img} (hW:WfI im) {bd:Bod} (hbd:WfB im.zz im.zj bd) {W:Wn} {a:Nat} {x:Ins} {s l:L_} (hf:W.2.2=false) (hI:pi im bd (λ_=>False) W) (hwt:W.2.1.getD a false=true) (hx:bd.code[a]?=some x) (hs:W.1[a]?=some (some (s,l)))
  (hr:(gT im bd W a x s l).2.2=false):pi im bd (λ_=>False) (gT im bd W a x s l)/\muW (gT im bd W a x s l)<muW W:=by
 revert hr;unfold gT
 cases he:eN im.zz im.zj bd x s l with
 |none=>intro hr;cases hr
 |some q=>
  obtain⟨s',l'⟩:=q;simp only;intro hr;have hz:=hI.wf.2 a s l hs;have a2:=mL hW (hbd.code x (bp hx)) hz.1 he
  have a0:pi im bd (λk=>k=a) (W.1,W.2.1.set a false,W.2.2):=by
   refine⟨hI.wf,by simp[hI.wl],hI.start,λhb k hk hX hwk=> ?_⟩;refine hI.stab hf k hk (λh=>h) ?_;have a1: ¬a=k:=λh=>hX h.symm
   simpa[List.getD,List.getElem?_set,a1]using hwk
  have a3:muW (W.1,W.2.1.set a false,W.2.2)<muW W:=by
   have:=kB hwt;unfold muW;simp only;omega
  obtain⟨k1,k2,k3,k4,k5⟩:=qA hW hbd a2.1 a (W:=(W.1,W.2.1.set a false,W.2.2)) hf a0 (by simp only;omega) hr;refine⟨⟨k1.wf,k1.wl,k1.start,λhb k hk _ hwk=> ?_⟩,by omega⟩
  by_cases hka:k=a
  .subst hka;obtain k5|k5:=k5
   .intro x' s'' l'' h1 h2;rw[hx]at h1;injection h1 with h1;rw[k5]at h2;simp only at h2;rw[hs]at h2;injection h2 with h2;injection h2 with h2;injection h2 with h2 h3;subst h1 h2 h3;have:=qV.1 k3;exact⟨s',l',he,this.1,this.2⟩
   .rw[k5]at hwk;cases hwk
  .exact k1.stab hb k hk hka hwk
theorem pi.done {im:Img} (hW:WfI im) {bd:Bod} (hbd:WfB im.zz im.zj bd) {W:Wn} (hf:W.2.2=false) (hI:pi im bd (λ_=>False) W) (hL:xZ im bd W) (hn: ∀k,k<bd.code.length->W.2.1.getD k false=false):dR im bd=some W.1:=by
 apply tH hW hbd
 .refine⟨hI.wf.1,?_,λi x s l hx hs=>hI.stab hf i (bC hx).1 (λh=>h) (hn i (bC hx).1) x s l hx hs⟩;have h0:=hI.start.2 0
  have hs:(dh bd).getD 0 none=some ([],bd.locals):=by
   unfold dh;simp[List.getD,hbd.len.1]
  rw[hs]at h0
  cases ht:W.1.getD 0 none with
  |none=>rw[ht]at h0;exact h0.elim
  |some s0=>rw[ht]at h0;exact⟨s0,getD_some.1 ht,h0⟩
 .exact λH hG=>(hL H hG).2
theorem xZ.none {im:Img} (hW:WfI im) {bd:Bod} (hbd:WfB im.zz im.zj bd) {W:Wn} (hL:xZ im bd W) (hf:W.2.2=true):dR im bd=none:=by
 apply tI hW hbd
 intro H hG;have:=(hL H hG).1;rw[hf]at this
 cases this
def cw (cs:List Cls) (gs:List Sig) (b:Bod) (x:Ins):L_:=
 if x.op.toNat=115\/x.op.toNat=100 then [45]else if x.op.toNat=101 then [38,38]else if x.op.toNat=120 then [38]else bQ cs gs b x
def gM (cs:List Cls) (a c:UInt8):Bool:=if c.toNat=38 then isR a else cy cs a c
def kD (cs:List Cls) (st asked:L_):Bool:=decide (asked.length<=st.length)&&(List.range asked.length).all λi=>gM cs (st.getD (st.length-asked.length+i) 0) (asked.getD i 0)
def ei (cs:List Cls) (gs:List Sig) (x:Ins) (lo:L_):L_:=if x.op.toNat=108 then [lo.getD x.b 0]else bZ cs gs x
def oS (cs:List Cls) (gs:List Sig) (b:Bod) (x:Ins) (st lo:L_):Option (L_×L_):=
 if kD cs st (cw cs gs b x)=false\/(x.op.toNat=108/\(lo.getD x.b 0).toNat=45)then none else
 some (st.take (st.length-(cw cs gs b x).length)++ei cs gs x lo,if x.op.toNat=115 then lo.set x.b (st.getD (st.length-1) 0)else lo)
theorem Ag {cs:List Cls} {st:L_} {c:UInt8}:kD cs st [c]=(decide (1<=st.length)&&gM cs (st.getD (st.length-1) 0) c):=by
 simp[kD,List.range_succ]
theorem D8 {cs:List Cls} {st:L_} {c d:UInt8}:kD cs st [c,d]=(decide (2<=st.length)&&(gM cs (st.getD (st.length-2) 0) c&&gM cs (st.getD (st.length-2+1) 0) d)):=by
 simp[kD,List.range_succ]
theorem ya {cs:List Cls} {st wa:L_} (h: ∀c∈wa,c.toNat≠38):kD cs st wa=eG cs st wa:=by
 unfold kD eG
 congr 1
 rw[Bool.eq_iff_iff];simp only[List.all_eq_true,List.mem_range]
 have key: ∀i,i<wa.length->gM cs (st.getD (st.length-wa.length+i) 0) (wa.getD i 0)=cy cs (st.getD (st.length-wa.length+i) 0) (wa.getD i 0):=by
  intro i hi;unfold gM;rw[if_neg];have:wa.getD i 0=wa[i]:=by simp[List.getD,hi]
  rw[this];exact h _ (cN hi)
 exact⟨λhh i hi=>by rw[<-key i hi];exact hh i hi,λhh i hi=>by rw[key i hi];exact hh i hi⟩
theorem tO {cs:List Cls} {gs:List Sig} {b:Bod} {x:Ins} {st lo:L_} (hp: ∀c∈bQ cs gs b x,c.toNat≠38):eN cs gs b x st lo=oS cs gs b x st lo:=by
 have top: ∀a:UInt8,gM cs a 45=true:=λa=>by unfold gM;rw[if_neg (by decide)];exact aY.2 (Or.inr (Or.inl rfl))
 have ref: ∀a:UInt8,gM cs a 38=isR a:=λa=>by unfold gM;rw[if_pos (by decide)]
 unfold eN oS cw ei
 by_cases h115:x.op.toNat=115
 .rw[if_pos (Or.inl h115),if_pos (Or.inl h115),Ag,top,Bool.and_true];simp only[h115,fg]
  by_cases hl:st.length<1
  .simp[hl]
  .have:1<=st.length:=by omega
   simp[this,show¬st.length<1 from hl]
 by_cases h100:x.op.toNat=100
 .rw[if_pos (Or.inr (Or.inl h100)),if_pos (Or.inr h100),Ag,top,Bool.and_true];simp only[h100,fg]
  by_cases hl:st.length<1
  .simp[hl]
  .have:1<=st.length:=by omega
   simp[this,show¬st.length<1 from hl]
 have a0: ¬(x.op.toNat=115\/x.op.toNat=100):=by omega
 by_cases h101:x.op.toNat=101
 .rw[if_pos (Or.inr (Or.inr (Or.inl h101))),if_neg a0,if_pos h101,D8,ref,ref];simp only[h101,fg,if_true]
  by_cases hl:st.length<2
  .simp[hl,show¬2<=st.length by omega]
  .have h2:2<=st.length:=by omega
   have e:st.length-2+1=st.length-1:=by omega
   rw[e]
   cases h3:isR (st.getD (st.length-1) 0)<;>cases h4:isR (st.getD (st.length-2) 0)<;>simp[hl,h2,h3,h4]
 by_cases h120:x.op.toNat=120
 .rw[if_pos (Or.inr (Or.inr (Or.inr h120))),if_neg a0,if_neg h101,if_pos h120,Ag,ref];simp only[h120,fg]
  by_cases hl:st.length<1
  .simp[hl,show¬1<=st.length by omega]
  .have h2:1<=st.length:=by omega
   cases h3:isR (st.getD (st.length-1) 0)<;>simp[hl,h2,h3]
 have a1: ¬(x.op.toNat=115\/x.op.toNat=100\/x.op.toNat=101\/x.op.toNat=120):=by omega
 rw[if_neg a1,if_neg a0,if_neg h101,if_neg h120,ya hp]
 by_cases h108:x.op.toNat=108
 .have a2:bQ cs gs b x=[]:=by
   unfold bQ;simp[h108,arith]
  rw[if_pos h108,a2];simp only[h108,if_true,true_and];have hf:eG cs st []=true:=by simp[eG]
  rw[hf];simp
 .rw[if_neg h108,if_neg h108];simp only[h108,false_and,or_false]
  cases eG cs st (bQ cs gs b x)<;>simp[h115]
theorem tP {im:Img} (hW:WfI im) {bd:Bod} (hbd:WfB im.zz im.zj bd) {x:Ins} (hx:WfX im.zz im.zj.length bd.locals.length x): ∀c∈bQ im.zz im.zj bd x,okT im.zz.length c=true:=by
 intro c hc
 have a1: ∀a,a<im.zz.length->okT im.zz.length (dI a)=true:=by
  intro a ha;have:=hW.nc;rw[eF]
  right;left
  have h1:(dI a).toNat=65+a:=by simp[dI];omega
  omega
 have a0:okT im.zz.length 105=true:=by simp[eF]
 have a3:x.op.toNat=112->okT im.zz.length (cO im.zz x.a x.b)=true:=by
  intro h;have h1:=hx.cls (by omega);have h2:=hx.fld (by omega);obtain⟨cl,a1⟩: ∃cl,im.zz[x.a]?=some cl:=⟨_,aH h1⟩;unfold cO;rw[a1];simp only[bH,a1]at h2;simp only[Option.map_some,Option.getD_some]at h2⊢;have hf:=hW.cls x.a cl a1
  have hm:cl.fields.getD x.b 0∈cl.fields:=by
   have:cl.fields.getD x.b 0=cl.fields[x.b]'(by simpa using h2):=by simp[List.getD,h2]
   rw[this];exact cN _
  exact j8 (fK (by omega) (hf.2.2.2 _ hm))
 have a2:x.op.toNat=99->okT im.zz.length (gY im.zj x.b)=true:=by
  intro h;obtain⟨g,hg⟩: ∃g,im.zj[x.b]?=some g:=⟨_,aH (hx.sig h)⟩;unfold gY;rw[hg];exact j8 (hW.sig g (bp hg)).1
 have a4: ¬bd.cls<0->okT im.zz.length (gZ im.zj bd.meth.toNat)=true:=by
  intro h;obtain h1|h1:=hbd.cls
  .omega
  .obtain⟨g,hg⟩: ∃g,im.zj[bd.meth.toNat]?=some g:=⟨_,aH (by omega)⟩;unfold gZ;rw[hg];exact j8 (hW.sig g (bp hg)).2
 unfold bQ at hc
 split at hc
 .simp at hc;subst hc;exact a0
 split at hc
 .simp at hc;subst hc;exact a0
 split at hc
 .rename_i h;simp at hc;subst hc;exact a1 _ (hx.cls (by omega))
 split at hc
 .rename_i h
  simp at hc;obtain rfl|rfl:=hc
  .exact a1 _ (hx.cls (by omega))
  .exact a3 h
 split at hc
 .rename_i h
  simp at hc;obtain rfl|rfl:=hc
  .exact a1 _ (hx.cls (by omega))
  .exact a2 h
 split at hc
 .split at hc
  .simp at hc;subst hc;exact a0
  .rename_i h;simp at hc;subst hc;exact a4 h
 .simp at hc
theorem yb {im:Img} (hW:WfI im) {bd:Bod} (hbd:WfB im.zz im.zj bd) {x:Ins} (hx:WfX im.zz im.zj.length bd.locals.length x) (st lo:L_):eN im.zz im.zj bd x st lo=oS im.zz im.zj bd x st lo:=
 tO (λc hc=>by have:=tP hW hbd hx c hc;rw[eF]at this;have:=hW.nc;omega)
end
end Go.Proofs.YtpfkkmacakjmbaaGreatDoor
