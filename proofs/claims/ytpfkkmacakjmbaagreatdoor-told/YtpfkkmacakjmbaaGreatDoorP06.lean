import Derived.Test.YtpfkkmacakjmbaaGreatDoorP03
set_option maxRecDepth 100000
set_option maxHeartbeats 6400000
set_option linter.unusedSimpArgs false
set_option linter.unusedVariables false
namespace Go.Proofs.YtpfkkmacakjmbaaGreatDoor
section
open Go Sp
def leL (cs:List Cls):List UInt8→List UInt8→Prop
 | [],[]=>True
 |x::a,y::b=>bP cs x y=true∧leL cs a b
 |_,_=>False
theorem fT {cs:List Cls}: ∀a:List UInt8,leL cs a a
 | []=>trivial
 |x::a=>⟨fG x,fT a⟩
theorem fB {cs:List Cls}: ∀{a b:List UInt8},leL cs a b→a.length=b.length
 | [],[],_=>rfl
 |x::a,y::b,h=>by simp[fB h.2]
 | [],_::_,h=>h.elim
 |_::_,[],h=>h.elim
theorem lF {cs:List Cls} (hw:WfC cs): ∀{a b c:List UInt8},leL cs a b→leL cs b c→leL cs a c
 | [],[],[],_,_=>trivial
 |x::a,y::b,z::c,h,k=>⟨kt hw h.1 k.1,lF hw h.2 k.2⟩
 | [],_::_,_,h,_=>h.elim
 |_::_,[],_,h,_=>h.elim
 | [],[],_::_,_,k=>k.elim
 |_::_,_::_,[],_,k=>k.elim
theorem mT {cs:List Cls} (hw:WfC cs): ∀{a b:List UInt8},leL cs a b→leL cs b a→a=b
 | [],[],_,_=>rfl
 |x::a,y::b,h,k=>by rw[oY hw h.1 k.1,mT hw h.2 k.2]
 | [],_::_,h,_=>h.elim
 |_::_,[],h,_=>h.elim
theorem iE {cs:List Cls}: ∀{a b c d:List UInt8},leL cs a b→leL cs c d→leL cs (a++c) (b++d)
 | [],[],_,_,_,k=>k
 |x::a,y::b,_,_,h,k=>⟨h.1,iE h.2 k⟩
 | [],_::_,_,_,h,_=>h.elim
 |_::_,[],_,_,h,_=>h.elim
theorem mU {cs:List Cls}: ∀{a b:List UInt8} (k:Nat),leL cs a b→leL cs (a.take k) (b.take k)
 | [],[],k,_=>by simp[leL]
 |x::a,y::b,0,h=>trivial
 |x::a,y::b,k+1,h=>⟨h.1,mU k h.2⟩
 | [],_::_,_,h=>h.elim
 |_::_,[],_,h=>h.elim
theorem fU {cs:List Cls}: ∀{a b:List UInt8} (k:Nat),leL cs a b→bP cs (a.getD k 0) (b.getD k 0)=true
 | [],[],k,_=>by simp[fG]
 |x::a,y::b,0,h=>by simpa using h.1
 |x::a,y::b,k+1,h=>by simpa using fU k h.2
 | [],_::_,_,h=>h.elim
 |_::_,[],_,h=>h.elim
theorem uJ {cs:List Cls}: ∀{a b:List UInt8} (k:Nat) {u v:UInt8},leL cs a b→bP cs u v=true→leL cs (a.set k u) (b.set k v)
 | [],[],k,_,_,_,_=>by simp[leL]
 |x::a,y::b,0,_,_,h,hu=>⟨hu,h.2⟩
 |x::a,y::b,k+1,_,_,h,hu=>⟨h.1,uJ k h.2 hu⟩
 | [],_::_,_,_,_,h,_=>h.elim
 |_::_,[],_,_,_,h,_=>h.elim
theorem lG {cs:List Cls} (hw:WfC cs): ∀{a b:List UInt8},a.length=b.length→leL cs a (dh cs a b)∧leL cs b (dh cs a b)∧ ∀c,leL cs a c→leL cs b c→leL cs (dh cs a b) c
 | [],[],_=>⟨trivial,trivial,fun c h _=>h⟩
 |x::a,y::b,h=>by
  have ih:=lG hw (a:=a) (b:=b) (by simpa using h);have hj:=lE hw x y;refine⟨⟨hj.1,ih.1⟩,⟨hj.2.1,ih.2.1⟩,fun c h1 h2=> ?_⟩
  match c,h1,h2 with
  |z::c,h1,h2=>exact⟨hj.2.2 z h1.1 h2.1,ih.2.2 c h1.2 h2.2⟩
  | [],h1,_=>exact h1.elim
 | [],_::_,h=>by simp at h
 |_::_,[],h=>by simp at h
abbrev Sp2:=List UInt8×List UInt8
def leS (cs:List Cls) (a b:Sp2):Prop:=leL cs a.1 b.1∧leL cs a.2 b.2
def leO (cs:List Cls):St→St→Prop
 |none,_=>True
 |some a,some b=>leS cs a b
 |some _,none=>False
def dt (cs:List Cls) (t u:List St):Prop:=t.length=u.length∧ ∀k:Nat,leO cs (t.getD k none) (u.getD k none)
theorem jP {cs:List Cls} (hw:WfC cs) {a b c:Sp2} (h:leS cs a b) (k:leS cs b c):leS cs a c:=⟨lF hw h.1 k.1,lF hw h.2 k.2⟩
theorem rf {cs:List Cls} (a:St):leO cs a a:=by
 cases a with
 |none=>trivial
 |some a=>exact⟨fT _,fT _⟩
theorem vk {cs:List Cls} (hw:WfC cs) {a b c:St} (h:leO cs a b) (k:leO cs b c):leO cs a c:=by
 cases a with
 |none=>trivial
 |some a=>
  cases b with
  |none=>exact h.elim
  |some b=>
   cases c with
   |none=>exact k.elim
   |some c=>exact jP hw h k
theorem xB {cs:List Cls} (hw:WfC cs) {a b:St} (h:leO cs a b) (k:leO cs b a):a=b:=by
 cases a with
 |none=>
  cases b with
  |none=>rfl
  |some b=>exact k.elim
 |some a=>
  cases b with
  |none=>exact h.elim
  |some b=>
   obtain⟨a1,a2⟩:=a;obtain⟨b1,b2⟩:=b;have h1:a1=b1:=mT hw h.1 k.1;have h2:a2=b2:=mT hw h.2 k.2;rw[h1,h2]
theorem tr {cs:List Cls} (hw:WfC cs) {t u:List St} (h:dt cs t u) (k:dt cs u t):t=u:=by
 apply List.ext_getElem h.1
 intro i h1 h2;have:=xB hw (h.2 i) (k.2 i);simpa[List.getD,h1,h2]using this
theorem dq {cs:List Cls} (t:List St):dt cs t t:=⟨rfl,fun _=>rf _⟩
theorem fj {cs:List Cls} (hw:WfC cs) {t u v:List St} (h:dt cs t u) (k:dt cs u v):dt cs t v:=⟨h.1.trans k.1,fun i=>vk hw (h.2 i) (k.2 i)⟩
theorem rg {cs:List Cls} {a b:UInt8} (h:bP cs a b=true) (hb:isR b=true):isR a=true:=by
 rw[aR]at h;simp only[isR,Bool.or_eq_true,decide_eq_true_eq]at hb⊢;rcases h with rfl|h| ⟨_,h⟩ | ⟨h,_⟩
 ·exact hb
 ·rcases hb with hb|hb
  ·omega
  ·rw[bL]at hb;omega
 ·exact Or.inl h
 ·exact Or.inr h
theorem rh {cs:List Cls} {c:Nat} {s t:List UInt8} {k:Nat} (h:leL cs s t) (hk:d7 c t=some k):d7 c s=some k:=by
 have hl:=fB h;unfold d7 at hk⊢;have d1:=fun hb=>rg (fU (t.length-1) h) hb
 have d2:=fun hb=>rg (fU (t.length-2) h) hb
 rw[hl]
 split at hk
 ·rename_i h101
  rw[if_pos h101]
  split at hk
  ·cases hk
  ·rename_i hn
   rw[if_neg]
   ·exact hk
   ·simp only[not_or,Bool.not_eq_false]at hn⊢;exact⟨hn.1,d1 hn.2.1,d2 hn.2.2⟩
 ·rename_i h101
  rw[if_neg h101]
  split at hk
  ·cases hk
  ·rename_i hn
   rw[if_neg]
   ·exact hk
   ·simp only[not_or,not_and,Bool.not_eq_false]at hn⊢;exact⟨hn.1,fun h120=>d1 (hn.2 h120)⟩
theorem tu {cs:List Cls} (hw:WfC cs) {s t wa:List UInt8} (h:leL cs s t) (hf:dJ cs t wa=true):dJ cs s wa=true:=by
 have hl:=fB h;unfold dJ at hf⊢;simp only[Bool.and_eq_true,decide_eq_true_eq,List.all_eq_true,List.mem_range]at hf⊢;rw[hl];exact⟨hf.1,fun i hi=>kt hw (fU _ h) (hf.2 i hi)⟩
theorem oZ {cs:List Cls} (hw:WfC cs) {gs:List Sig} {b:Bod} {x:Ins} {s l t m t' m':List UInt8} (h1:leL cs s t) (h2:leL cs l m) (he:dP cs gs b x t m=some (t',m')):
  ∃s' l',dP cs gs b x s l=some (s',l')∧leL cs s' t'∧leL cs l' m':=by
 have hl:=fB h1;unfold dP at he⊢
 split at he
 ·rename_i hc
  rw[if_pos hc]
  split at he
  ·cases he
  ·rename_i k hk
   rw[rh h1 hk];injection he with he;injection he with e1 e2;refine⟨_,_,rfl,?_,?_⟩
   ·rw[←e1,hl];exact iE (mU _ h1) (fT _)
   ·rw[←e2,hl]
    split
    ·exact uJ _ h2 (fU _ h1)
    ·exact h2
 ·rename_i hc
  rw[if_neg hc]
  split at he
  ·rename_i h108
   rw[if_pos h108]
   split at he
   ·cases he
   ·rename_i h45
    injection he with he;injection he with e1 e2;have hd:=fU x.b h2
    have: ¬(l.getD x.b 0).toNat=45:=by
     intro h;rw[aR]at hd;rcases hd with hd|hd| ⟨_,hd⟩ | ⟨hd,_⟩
     ·rw[hd]at h;exact h45 h
     ·exact h45 hd
     ·omega
     ·rw[bL]at hd;omega
    rw[if_neg this];refine⟨_,_,rfl,?_,?_⟩
    ·rw[←e1];exact iE h1 ⟨hd,trivial⟩
    ·rw[←e2];exact h2
  ·rename_i h108
   rw[if_neg h108]
   split at he
   ·rename_i hf
    rw[if_pos (tu hw h1 hf)];injection he with he;injection he with e1 e2;refine⟨_,_,rfl,?_,?_⟩
    ·rw[←e1,hl];exact iE (mU _ h1) (fT _)
    ·rw[←e2];exact h2
   ·cases he
def ee (cs:List Cls) (H:List St) (j:Int) (st:Sp2):Prop:=j<0∨ ∃st',H[j.toNat]?=some (some st')∧leS cs st st'
structure mB (im:Img) (bd:Bod) (H:List St):Prop where
 len:H.length=bd.code.length
 start: ∃s0,H[0]?=some (some s0)∧leS im.classes ([],bd.locals) s0
 go: ∀(i:Nat) (x:Ins) (s l:List UInt8),bd.code[i]?=some x→H[i]?=some (some (s,l))→ ∃s' l',dP im.classes im.sigs bd x s l=some (s',l')∧ee im.classes H (dG x i).1 (s',l')∧ee im.classes H (dG x i).2 (s',l')
theorem getD_some {t:List St} {k:Nat} {p:Sp2}:t.getD k none=some p↔t[k]?=some (some p):=by
 simp only[List.getD]
 cases h:t[k]? with
 |none=>simp
 |some o=>simp
theorem ku {cs:List Cls} (hw:WfC cs) {o:St} {sb lb:List UInt8} {m:Sp2} (hl: ∀s l,o=some (s,l)→l.length=lb.length) (h:fx cs o sb lb=some m):leO cs o (some m)∧leS cs (sb,lb) m∧ ∀c,leO cs o (some c)→leS cs (sb,lb) c→leS cs m c:=by
 cases o with
 |none=>
  simp[fx]at h;subst h;exact⟨trivial,⟨fT _,fT _⟩,fun c _ h=>h⟩
 |some p=>
  obtain⟨sa,la⟩:=p;simp only[fx]at h
  split at h
  ·rename_i hlen
   injection h with h;subst h;have b1:=lG hw hlen;have b2:=lG hw (hl sa la rfl);exact⟨⟨b1.1,b2.1⟩,⟨b1.2.1,b2.2.1⟩,fun c h k=>⟨b1.2.2 _ h.1 k.1,b2.2.2 _ h.2 k.2⟩⟩
  ·cases h
theorem jn {cs:List Cls} (hw:WfC cs) {T:Tn} {H:List St} {j:Int} {sb lb:List UInt8} (hb:T.2.2=false) (h:dt cs T.1 H) (hr:ee cs H j (sb,lb)):
  (bS cs T j sb lb).2.2=false∧dt cs (bS cs T j sb lb).1 H:=by
 unfold bS
 split
 ·exact⟨hb,h⟩
 rename_i hj
 simp only[hb,false_or,Bool.false_eq_true]at hj;rcases hr with hr| ⟨st',a2,a0⟩
 ·exact absurd hr hj
 have a4:j.toNat<H.length:=(List.getElem?_eq_some_iff.1 a2).1;have a1:=h.1
 split
 ·omega
 have ho:=h.2 j.toNat;rw[getD_some.2 a2]at ho
 have a3: ∃m,fx cs (T.1.getD j.toNat none) sb lb=some m:=by
  cases hh:T.1.getD j.toNat none with
  |none=>exact⟨_,rfl⟩
  |some p=>
   rw[hh]at ho;have e1:=fB ho.1;have e2:=fB a0.1;simp only at e2;exact⟨_,by unfold fx;simp only;rw[if_pos (by omega)]⟩
 obtain⟨m,hm⟩:=a3;rw[hm];simp only
 split
 ·exact⟨hb,h⟩
 ·refine⟨rfl,⟨by rw[List.length_set];exact a1,fun k=> ?_⟩⟩
  by_cases hk:k=j.toNat
  ·subst hk;have hs:(T.1.set j.toNat (some m)).getD j.toNat none=some m:=by simp[List.getD,show j.toNat<T.1.length by omega]
   rw[hs,getD_some.2 a2]
   have hl: ∀s l,T.1.getD j.toNat none=some (s,l)→l.length=lb.length:=fun s l hh=>by
    rw[hh]at ho;have e1:=fB ho.2;have e2:=fB a0.2;simp only at e1 e2;omega
   exact(ku hw hl hm).2.2 st' ho a0
  ·have hs:(T.1.set j.toNat (some m)).getD k none=T.1.getD k none:=by simp[List.getD,List.getElem?_set,show¬j.toNat=k from fun h=>hk h.symm]
   rw[hs];exact h.2 k
theorem ri {im:Img} (hw:WfC im.classes) {bd:Bod} {T:Tn} {H:List St} (hG:mB im bd H) (hb:T.2.2=false) (h:dt im.classes T.1 H) (i:Nat):
  ∃T',eP im bd T i=some T'∧T'.2.2=false∧dt im.classes T'.1 H:=by
 cases hx:bd.code[i]? with
 |none=>exact⟨T,by unfold eP;rw[hx],hb,h⟩
 |some x=>
  cases ho:T.1.getD i none with
  |none=>exact⟨T,by unfold eP;rw[hx,ho],hb,h⟩
  |some p=>
   obtain⟨s,l⟩:=p;have hH:=h.2 i;rw[ho]at hH
   cases hq:H.getD i none with
   |none=>rw[hq]at hH;exact hH.elim
   |some q=>
    obtain⟨t,m⟩:=q;rw[hq]at hH;obtain⟨t',m',he,r1,r2⟩:=hG.go i x t m hx (getD_some.1 hq);obtain⟨s',l',a0,l1,l2⟩:=oZ hw hH.1 hH.2 he;refine⟨_,mR hx (getD_some.1 ho) a0,?_⟩
    have low: ∀j,ee im.classes H j (t',m')→ee im.classes H j (s',l'):=fun j hj=>by
     rcases hj with hj| ⟨st,h1,h2⟩
     ·exact Or.inl hj
     ·exact Or.inr ⟨st,h1,jP hw ⟨l1,l2⟩ h2⟩
    have i1:=jn hw hb h (low _ r1);exact jn hw i1.1 i1.2 (low _ r2)
theorem pS {im:Img} (hw:WfC im.classes) {bd:Bod} {H:List St} (hG:mB im bd H): ∀{f i:Nat} {T:Tn},T.2.2=false→dt im.classes T.1 H→ ∃T',dH im bd f i T=some T'∧T'.2.2=false∧dt im.classes T'.1 H:=by
 intro f
 induction f with
 |zero=>intro i T hb h;exact⟨T,rfl,hb,h⟩
 |succ f ih=>
  intro i T hb h;obtain⟨T1,h1,h2,h3⟩:=ri hw hG hb h i;obtain⟨T2,h4,h5⟩:=ih (i:=i+1) h2 h3;exact⟨T2,by rw[lX hb h1];exact h4,h5⟩
theorem oB {im:Img} (hw:WfC im.classes) {bd:Bod} {H:List St} (hG:mB im bd H): ∀{f:Nat} {tb:List St} {ch:Bool},dt im.classes tb H→ ∃t,el im bd f (tb,ch,false)=some t∧dt im.classes t H:=by
 intro f
 induction f with
 |zero=>intro tb ch h;exact⟨tb,rfl,h⟩
 |succ f ih=>
  intro tb ch h
  cases ch with
  |false=>exact⟨tb,iC im bd _ tb _,h⟩
  |true=>
   obtain⟨T1,h1,h2,h3⟩:=pS hw hG (f:=bd.code.length) (i:=0) (T:=(tb,false,false)) rfl h;obtain⟨t1,c1,b1⟩:=T1;simp only at h2 h3;subst h2;obtain⟨t,h4,h5⟩:=ih (ch:=c1) h3;refine⟨t,?_,h5⟩;rw[mP,h1];simp only[kq];rw[if_neg (by simp)];exact h4
theorem jo {im:Img} {bd:Bod} {H:List St} (hG:mB im bd H):dt im.classes (cq bd) H:=by
 obtain⟨s0,h0,hs⟩:=hG.start;refine⟨by unfold cq;simp[hG.len],fun k=> ?_⟩;unfold cq;have a0:0<bd.code.length:=by rw[←hG.len];exact(List.getElem?_eq_some_iff.1 h0).1
 cases k with
 |zero=>
  have:((List.replicate bd.code.length (none:St)).set 0 (some ([],bd.locals))).getD 0 none=some ([],bd.locals):=by simp[List.getD,a0]
  rw[this,getD_some.2 h0];exact hs
 |succ k=>
  have:((List.replicate bd.code.length (none:St)).set 0 (some ([],bd.locals))).getD (k+1) none=none:=by
   simp only[List.getD,List.getElem?_set];rw[if_neg (by omega)];rw[List.getElem?_replicate]
   split<;>rfl
  rw[this]
  trivial
theorem pT {im:Img} (hw:WfC im.classes) {bd:Bod} {H:List St} (hG:mB im bd H): ∃t,de im bd=some t∧dt im.classes t H:=
 oB hw hG (jo hG)
def rk (c:UInt8):Nat:=if c.toNat=45 then 0 else if c.toNat=122 then 5 else if isC c=true then 1+(c.toNat-65)else 1
theorem BH (c:UInt8):rk c≤5:=by
 unfold rk
 split
 ·omega
 split
 ·omega
 split
 ·rename_i h;rw[bL]at h;omega
 ·omega
theorem tw {c:UInt8} (h:isC c=true):rk c=1+(c.toNat-65)∧65≤c.toNat∧c.toNat≤68:=by
 have h':=h;rw[bL]at h';unfold rk;rw[if_neg (by omega),if_neg (by omega),if_pos h];exact⟨rfl,h'.1,h'.2⟩
theorem BI {cs:List Cls} (hw:WfC cs) {a b:UInt8} (h:bP cs a b=true) (hne:a≠b):rk b<rk a:=by
 have a0:a.toNat≠b.toNat:=fun e=>hne (UInt8.toNat_inj.1 e)
 rw[aR]at h;rcases h with h|h| ⟨h1,h2⟩ | ⟨h1,h2,h3⟩
 ·exact absurd h hne
 ·have hb:rk b=0:=by unfold rk;rw[if_pos h]
  have ha:1≤rk a:=by
   unfold rk;rw[if_neg (by omega)]
   split
   ·omega
   split<;>omega
  omega
 ·have:=tw h1;have ha:rk a=5:=by unfold rk;rw[if_neg (by omega),if_pos h2]
  omega
 ·have c1:=tw h1;have c2:=tw h2;have r:=ii hw h1;have:=tk hw 4 (by omega) (by omega) h3;unfold kl at this;omega
def oC (l:List UInt8):Nat:=(l.map rk).sum
theorem kP: ∀l:List UInt8,oC l≤5*l.length
 | []=>by simp[oC]
 |x::l=>by
  have:=kP l;have:=BH x;simp only[oC,List.map_cons,List.sum_cons,List.length_cons]at*;omega
theorem lH {cs:List Cls} (hw:WfC cs): ∀{a b:List UInt8},leL cs a b→oC b≤oC a∧(a≠b→oC b<oC a)
 | [],[],_=>⟨Nat.le_refl _,fun h=>absurd rfl h⟩
 |x::a,y::b,h=>by
  have ih:=lH hw h.2;simp only[oC,List.map_cons,List.sum_cons]at*
  by_cases hxy:x=y
  ·subst hxy;refine⟨by omega,fun hn=> ?_⟩;have:=ih.2 (fun e=>hn (by rw[e]));omega
  ·have:=BI hw h.1 hxy;exact⟨by omega,fun _=>by omega⟩
 | [],_::_,h=>h.elim
 |_::_,[],h=>h.elim
def wt:St→Nat
 |none=>700
 |some (s,l)=>oC s+oC l
def mu (t:List St):Nat:=(t.map wt).sum
theorem xC: ∀{t:List St} {j:Nat} (o:St) (hj:j<t.length),mu (t.set j o)+wt t[j]=mu t+wt o
 |x::t,0,o,_=>by simp[mu];omega
 |x::t,j+1,o,h=>by
  have:=xC (t:=t) (j:=j) o (by simpa using h);simp only[mu,List.set_cons_succ,List.map_cons,List.sum_cons,List.getElem_cons_succ]at*;omega
 | [],_,_,h=>by simp at h
theorem Au: ∀{t:List St},(∀o∈t,wt o≤700)→mu t≤700*t.length
 | [],_=>by simp[mu]
 |x::t,h=>by
  have h1:=h x (by simp);have h2:=Au (t:=t) (fun o ho=>h o (by simp[ho]));simp only[mu,List.map_cons,List.sum_cons,List.length_cons]at*;omega
theorem kv {cs:List Cls} (hw:WfC cs) (hnc:cs.length≤4) {nl n:Nat} (hnl:nl≤5) (hn:n≤100) {T:Tn} {j:Int} {sb lb:List UInt8} (h:wfT cs.length nl n T.1) (hz:okZ cs.length nl sb lb) (hl:sb.length≤iA T.1) (hb:(bS cs T j sb lb).2.2=false):
  T.2.2=false∧dt cs T.1 (bS cs T j sb lb).1∧((bS cs T j sb lb=T∧ee cs T.1 j (sb,lb))∨((bS cs T j sb lb).2.1=true∧mu (bS cs T j sb lb).1<mu T.1)):=by
 have a2:=(ig hnc hw (j:=j) h hz hl).1;revert hb a2;unfold bS
 split
 ·rename_i h1
  intro hb _;refine⟨hb,dq _,Or.inl ⟨rfl,?_⟩⟩;rcases h1 with h1|h1
  ·rw[hb]at h1;cases h1
  ·exact Or.inl h1
 rename_i h1
 have a3:T.2.2=false:=by have:=(not_or.1 h1).1;simpa using this
 split
 ·intro hb;cases hb
 rename_i h2
 have a1:j.toNat<T.1.length:=by omega
 have a5:T.1.getD j.toNat none=T.1[j.toNat]:=by simp[List.getD,a1]
 split
 ·intro hb;cases hb
 rename_i m hm
 have a6: ∀s l,T.1.getD j.toNat none=some (s,l)→l.length=lb.length:=fun s l hh=>by
  have:=(h.2 j.toNat s l (getD_some.1 hh)).1.2.2;rw[this,hz.2.2]
 have a0:=ku hw a6 hm
 split
 ·rename_i hsame
  intro _ _;refine⟨a3,dq _,Or.inl ⟨rfl,Or.inr ⟨m,getD_some.1 hsame.symm,a0.2.1⟩⟩⟩
 ·rename_i hdiff
  intro _ a2;refine⟨a3,⟨by simp,fun k=> ?_⟩,Or.inr ⟨rfl,?_⟩⟩
  ·by_cases hk:k=j.toNat
   ·subst hk;have hs:(T.1.set j.toNat (some m)).getD j.toNat none=some m:=by simp[List.getD,a1]
    simp only;rw[hs];exact a0.1
   ·have hs:(T.1.set j.toNat (some m)).getD k none=T.1.getD k none:=by simp[List.getD,List.getElem?_set,show¬j.toNat=k from fun h=>hk h.symm]
    simp only;rw[hs];exact rf _
  ·have a7:=xC (some m) a1;simp only;rw[a5]at hm hdiff a0
   suffices wt (some m)<wt T.1[j.toNat] by omega
   obtain⟨m1,m2⟩:=m
   cases ho:T.1[j.toNat]with
   |none=>
    have a4:=a2.okS hn j.toNat m1 m2 (by simp only;rw[List.getElem?_set];simp[a1]);have s1:=kP m1;have s2:=kP m2;have:=a4.2.2.1;have:=a4.2.2.2;simp only[wt];omega
   |some p=>
    obtain⟨sa,la⟩:=p;rw[ho]at a0 hdiff;have d1:=lH hw a0.1.1;have d2:=lH hw a0.1.2;simp only at d1 d2;simp only[wt]
    by_cases e1:sa=m1
    ·by_cases e2:la=m2
     ·rw[e1,e2]at hdiff;exact absurd rfl hdiff
     ·have:=d2.2 e2;omega
    ·have:=d1.2 e1;omega
def mV (im:Img) (bd:Bod) (t:List St) (i:Nat):Prop:=
 ∀(x:Ins) (s l:List UInt8),bd.code[i]?=some x→t[i]?=some (some (s,l))→ ∃s' l',dP im.classes im.sigs bd x s l=some (s',l')∧ee im.classes t (dG x i).1 (s',l')∧ee im.classes t (dG x i).2 (s',l')
theorem tz {im:Img} (hW:WfI im) {bd:Bod} (hbd:WfB im.classes im.sigs bd) {T T':Tn} {i:Nat} (h:wfT im.classes.length bd.locals.length bd.code.length T.1) (hs:eP im bd T i=some T') (hb:T'.2.2=false):
  dt im.classes T.1 T'.1∧((T'=T∧mV im bd T.1 i)∨(T'.2.1=true∧mu T'.1<mu T.1)):=by
 cases hx:bd.code[i]? with
 |none=>
  have:eP im bd T i=some T:=by unfold eP;rw[hx]
  rw[this]at hs;injection hs with hs;subst hs;exact⟨dq _,Or.inl ⟨rfl,fun x s l h1=>by rw[hx]at h1;cases h1⟩⟩
 |some x=>
  cases ho:T.1.getD i none with
  |none=>
   have:eP im bd T i=some T:=by unfold eP;rw[hx,ho]
   rw[this]at hs;injection hs with hs;subst hs;refine⟨dq _,Or.inl ⟨rfl,fun x s l _ h2=> ?_⟩⟩;rw[getD_some.2 h2]at ho
   cases ho
  |some p=>
   obtain⟨s,l⟩:=p;have hg:=getD_some.1 ho
   cases he:dP im.classes im.sigs bd x s l with
   |none=>rw[th hx hg he]at hs;cases hs
   |some q=>
    obtain⟨s',l'⟩:=q;rw[mR hx hg he]at hs;injection hs with hs;subst hs;have hz:=h.2 i s l hg;have a0:=kM hW (hbd.code x (List.mem_of_getElem? hx)) hz.1 he;have a1:s'.length≤iA T.1:=by omega
    have w1:=ig hW.nc hW.cls (j:=(dG x i).1) h a0.1 a1;have c2:=kv hW.cls hW.nc hbd.loc.1 hbd.len.2 w1.1 a0.1 (by omega) hb;have c1:=kv hW.cls hW.nc hbd.loc.1 hbd.len.2 h a0.1 a1 c2.1;refine⟨fj hW.cls c1.2.1 c2.2.1,?_⟩;rcases c1.2.2 with⟨e1,r1⟩ | ⟨e1,r1⟩
    ·rcases c2.2.2 with⟨e2,r2⟩ | ⟨e2,r2⟩
     ·left
      rw[e1]at e2 r2⊢;refine⟨e2,fun x' s'' l'' h1 h2=> ?_⟩;rw[hx]at h1;injection h1 with h1;rw[hg]at h2;injection h2 with h2;injection h2 with h2;injection h2 with h2 h3;subst h1 h2 h3;exact⟨s',l',he,r1,r2⟩
     ·right
      refine⟨e2,?_⟩;rw[e1]at r2⊢;exact r2
    ·right
     rcases c2.2.2 with⟨e2,r2⟩ | ⟨e2,r2⟩
     ·rw[e2];exact⟨e1,r1⟩
     ·exact⟨e2,by omega⟩
theorem vm {cs:List Cls} {T:Tn} {j:Int} {sb lb:List UInt8} (h:T.2.2=true):bS cs T j sb lb=T:=by
 unfold bS;rw[if_pos (Or.inl h)]
theorem rj {im:Img} (hW:WfI im) {bd:Bod} (hbd:WfB im.classes im.sigs bd): ∀{f i:Nat} {T T':Tn},wfT im.classes.length bd.locals.length bd.code.length T.1→dH im bd f i T=some T'→T'.2.2=false→
  dt im.classes T.1 T'.1∧((T'=T∧ ∀k,i≤k→k<i+f→mV im bd T.1 k)∨(T'.2.1=true∧mu T'.1<mu T.1)):=by
 intro f
 induction f with
 |zero=>
  intro i T T' h hs hb;simp[dH]at hs;subst hs;exact⟨dq _,Or.inl ⟨rfl,fun k h1 h2=>by omega⟩⟩
 |succ f ih=>
  intro i T T' h hs hb
  by_cases hbt:T.2.2=true
  ·rw[mQ _ _ _ _ _ hbt]at hs;injection hs with hs;subst hs;rw[hbt]at hb
   cases hb
  ·have a1:T.2.2=false:=by simpa using hbt
   cases h1:eP im bd T i with
   |none=>rw[qX a1 h1]at hs;cases hs
   |some T1=>
    rw[lX a1 h1]at hs
    have a0:T1.2.2=false:=by
     by_cases a0:T1.2.2=true
     ·rw[mQ _ _ _ _ _ a0]at hs;injection hs with hs;subst hs;exact hb
     ·simpa using a0
    have c1:=tz hW hbd h h1 a0;have c2:=ih (qW hW hbd h h1) hs hb;refine⟨fj hW.cls c1.1 c2.1,?_⟩;rcases c1.2 with⟨e1,r1⟩ | ⟨e1,r1⟩
    ·subst e1;rcases c2.2 with⟨e2,r2⟩ |r2
     ·left
      refine⟨e2,fun k hk1 hk2=> ?_⟩
      by_cases hk:k=i
      ·subst hk;exact r1
      ·exact r2 k (by omega) (by omega)
     ·exact Or.inr r2
    ·right
     rcases c2.2 with⟨e2,r2⟩ | ⟨e2,r2⟩
     ·rw[e2];exact⟨e1,r1⟩
     ·exact⟨e2,by omega⟩
theorem pV {im:Img} (hW:WfI im) {bd:Bod} (hbd:WfB im.classes im.sigs bd): ∀{f:Nat} {tb:List St} {ch:Bool} {t:List St},wfT im.classes.length bd.locals.length bd.code.length tb→
  (ch=false→ ∀k,k<bd.code.length→mV im bd tb k)→(ch=true→mu tb<f)→el im bd f (tb,ch,false)=some t→dt im.classes tb t∧ ∀k,k<bd.code.length→mV im bd t k:=by
 intro f
 induction f with
 |zero=>
  intro tb ch t h a1 a0 hr
  cases ch with
  |false=>
   rw[iC]at hr;injection hr with hr;subst hr;exact⟨dq _,a1 rfl⟩
  |true=>exact absurd (a0 rfl) (by omega)
 |succ f ih=>
  intro tb ch t h a1 a0 hr
  cases ch with
  |false=>
   rw[iC]at hr;injection hr with hr;subst hr;exact⟨dq _,a1 rfl⟩
  |true=>
   rw[mP]at hr
   cases hs:dH im bd bd.code.length 0 (tb,false,false)with
   |none=>rw[hs]at hr;cases hr
   |some T1=>
    rw[hs]at hr;obtain⟨t1,c1,b1⟩:=T1;simp only[kq]at hr
    cases b1 with
    |true=>simp at hr
    |false=>
     simp only[Bool.false_eq_true,if_false]at hr;have c:=rj hW hbd (T:=(tb,false,false)) h hs rfl;have a2:=oW hW hbd (T:=(tb,false,false)) h hs;rcases c.2 with⟨e,r⟩ | ⟨e,r⟩
     ·injection e with e1 e2;injection e2 with e2 _;subst e1 e2;have:=ih a2 (fun _ k hk=>r k (by omega) (by omega)) (fun h=>by cases h) hr;exact this
     ·simp only at e r;subst e;have hm:=a0 rfl;have:=ih a2 (fun h=>by cases h) (fun _=>by show mu t1<f;omega) hr;exact⟨fj hW.cls c.1 this.1,this.2⟩
theorem rl {im:Img} {bd:Bod} (hbd:WfB im.classes im.sigs bd):mu (cq bd)<80000:=by
 have h:mu (cq bd)≤700*(cq bd).length:=by
  apply Au
  intro o ho
  cases o with
  |none=>simp[wt]
  |some p=>
   obtain⟨s,l⟩:=p;obtain⟨k,hk⟩:=List.mem_iff_getElem?.1 ho;have a0:=(fi hbd).okS hbd.len.2 k s l hk;have s1:=kP s;have s2:=kP l;have:=a0.2.2.1;have:=a0.2.2.2;have:=hbd.loc.1;simp only[wt];omega
 have h1:(cq bd).length=bd.code.length:=(fi hbd).1;have:=hbd.len.2;omega
theorem jp {im:Img} (hW:WfI im) {bd:Bod} (hbd:WfB im.classes im.sigs bd) {t:List St} (h:de im bd=some t):mB im bd t:=by
 have hc:=pV hW hbd (fi hbd) (fun h=>by cases h) (fun _=>rl hbd) h;have hl:=(lD hW hbd h).1;refine⟨hl,?_,fun i x s l hx hs=>hc.2 i (List.getElem?_eq_some_iff.1 hx).1 x s l hx hs⟩;have h0:=hc.1.2 0
 have hs:(cq bd).getD 0 none=some ([],bd.locals):=by
  unfold cq;simp[List.getD,hbd.len.1]
 rw[hs]at h0
 cases ht:t.getD 0 none with
 |none=>rw[ht]at h0;exact h0.elim
 |some s0=>rw[ht]at h0;exact⟨s0,getD_some.1 ht,h0⟩
theorem rm {im:Img} (hW:WfI im) {bd:Bod} (hbd:WfB im.classes im.sigs bd) {t:List St} (hG:mB im bd t) (hm: ∀H,mB im bd H→dt im.classes t H):de im bd=some t:=by
 obtain⟨u,hu,a0⟩:=pT hW.cls hG;rw[hu,tr hW.cls a0 (hm u (jp hW hbd hu))]
theorem ro {im:Img} (hW:WfI im) {bd:Bod} (hbd:WfB im.classes im.sigs bd) (h: ∀H,¬mB im bd H):de im bd=none:=by
 cases hu:de im bd with
 |none=>rfl
 |some u=>exact absurd (jp hW hbd hu) (h u)
abbrev Wn:=List St×List Bool×Bool
def aU (cs:List Cls) (W:Wn) (j:Nat) (sb lb:List UInt8):Wn:=
 ((bS cs (W.1,false,W.2.2) j sb lb).1,if(bS cs (W.1,false,W.2.2) j sb lb).2.1=true then W.2.1.set j true else W.2.1,(bS cs (W.1,false,W.2.2) j sb lb).2.2)
structure mW (im:Img) (bd:Bod) (X:Nat→Prop) (W:Wn):Prop where
 wf:wfT im.classes.length bd.locals.length bd.code.length W.1
 wl:W.2.1.length=bd.code.length
 start:dt im.classes (cq bd) W.1
 stab:W.2.2=false→ ∀k,k<bd.code.length→ ¬X k→W.2.1.getD k false=false→mV im bd W.1 k
def vn (im:Img) (bd:Bod) (W:Wn):Prop:= ∀H,mB im bd H→W.2.2=false∧dt im.classes W.1 H
def mX (l:List Bool):Nat:=l.countP id
def muW (W:Wn):Nat:=2*mu W.1+mX W.2.1
theorem mY (l:List Bool) (j:Nat):mX (l.set j true)≤mX l+1:=by
 unfold mX
 by_cases h:j<l.length
 ·rw[List.countP_set h];split<;>simp<;>omega
 ·rw[List.set_eq_of_length_le (by omega)];omega
theorem iT {l:List Bool} {j:Nat} (h:l.getD j false=true):mX (l.set j false)<mX l:=by
 have hj:j<l.length:=by
  by_cases hj:j<l.length
  ·exact hj
  ·simp[List.getD,List.getElem?_eq_none (by omega:l.length≤j)]at h
 have hv:l[j]=true:=by simpa[List.getD,hj]using h
 unfold mX;rw[List.countP_set hj];have:0<l.countP id:=List.countP_pos_iff.2 ⟨_,List.getElem_mem hj,hv⟩;simp[hv];omega
theorem mZ {cs:List Cls} (hw:WfC cs) {t u:List St} {j:Int} {st:Sp2} (h:dt cs t u) (hr:ee cs t j st):ee cs u j st:=by
 rcases hr with hr| ⟨st',h1,h2⟩
 ·exact Or.inl hr
 ·have h3:=h.2 j.toNat;rw[getD_some.2 h1]at h3
  cases hu:u.getD j.toNat none with
  |none=>rw[hu]at h3;exact h3.elim
  |some q=>rw[hu]at h3;exact Or.inr ⟨q,getD_some.1 hu,jP hw h2 h3⟩
theorem rp {cs:List Cls} {T:Tn} {j:Nat} {sb lb:List UInt8} {k:Nat} (hk:k≠j):(bS cs T j sb lb).1[k]?=T.1[k]?:=by
 unfold bS
 split
 ·rfl
 split
 ·rfl
 split
 ·rfl
 split
 ·rfl
 ·simp[List.getElem?_set,show¬j=k from fun h=>hk h.symm]
theorem rq {im:Img} (hW:WfI im) {bd:Bod} (hbd:WfB im.classes im.sigs bd) {n:Nat} {T:Tn} {j:Nat} {sb lb:List UInt8} (h:wfT im.classes.length bd.locals.length n T.1) (hz:okZ im.classes.length bd.locals.length sb lb) (hr:(bS im.classes T j sb lb).2.2=false):
  ee im.classes (bS im.classes T j sb lb).1 j (sb,lb):=by
 revert hr;unfold bS
 split
 ·rename_i h1
  intro hr;rcases h1 with h1|h1
  ·rw[hr]at h1;cases h1
  ·omega
 split
 ·intro hr;cases hr
 rename_i h1 h2
 have a1:(j:Int).toNat<T.1.length:=by omega
 split
 ·intro hr;cases hr
 rename_i m hm
 have a2: ∀s l,T.1.getD (j:Int).toNat none=some (s,l)→l.length=lb.length:=fun s l hh=>by
  have:=(h.2 _ s l (getD_some.1 hh)).1.2.2;rw[this,hz.2.2]
 have a0:=ku hW.cls a2 hm
 split
 ·rename_i hs
  intro _;exact Or.inr ⟨m,getD_some.1 hs.symm,a0.2.1⟩
 ·intro _;exact Or.inr ⟨m,by simp only;rw[List.getElem?_set,if_pos rfl];simp only[a1,if_true],a0.2.1⟩
theorem rt {im:Img} (hW:WfI im) {bd:Bod} (hbd:WfB im.classes im.sigs bd) {X:Nat→Prop} {W:Wn} {j:Nat} {sb lb:List UInt8} (hf:W.2.2=false) (hI:mW im bd X W) (hz:okZ im.classes.length bd.locals.length sb lb) (hl:sb.length≤iA W.1)
  (hr:(aU im.classes W j sb lb).2.2=false):
  mW im bd X (aU im.classes W j sb lb)∧dt im.classes W.1 (aU im.classes W j sb lb).1∧ee im.classes (aU im.classes W j sb lb).1 j (sb,lb)∧muW (aU im.classes W j sb lb)≤muW W∧iA W.1≤iA (aU im.classes W j sb lb).1∧(∀k,k≠j→(aU im.classes W j sb lb).1[k]?=W.1[k]?)∧((aU im.classes W j sb lb).1[j]?=W.1[j]?∨(aU im.classes W j sb lb).2.1.getD j false=true):=by
 have hc:=kv hW.cls hW.nc hbd.loc.1 hbd.len.2 (T:=(W.1,false,W.2.2)) (j:=(j:Int)) hI.wf hz hl hr;have a6:=ig hW.nc hW.cls (T:=(W.1,false,W.2.2)) (j:=(j:Int)) hI.wf hz hl;have a1:=fun k (hk:k≠j)=>rp (cs:=im.classes) (T:=(W.1,false,W.2.2)) (j:=j) (sb:=sb) (lb:=lb) hk
 rcases hc.2.2 with⟨e,r⟩ | ⟨e,r⟩
 ·have hid:aU im.classes W j sb lb=W:=by
   unfold aU;rw[e];simp
  rw[hid];exact⟨hI,dq _,r,Nat.le_refl _,Nat.le_refl _,fun _ _=>rfl,Or.inl rfl⟩
 ·have a2:(aU im.classes W j sb lb).2.1=W.2.1.set j true:=by unfold aU;simp only[e,if_true]
  have a7:(aU im.classes W j sb lb).1=(bS im.classes (W.1,false,W.2.2) j sb lb).1:=rfl
  have a8:j<bd.code.length:=by
   by_cases hj:j<bd.code.length
   ·exact hj
   ·exfalso
    have:bS im.classes (W.1,false,W.2.2) j sb lb=(W.1,false,true):=by
     unfold bS;have h1:=hI.wf.1;rw[if_neg (by simp[hf]),if_pos (by simp only;omega)]
    have h2:(bS im.classes (W.1,false,W.2.2) j sb lb).2.2=false:=hr;rw[this]at h2
    cases h2
  have a5:(W.2.1.set j true).getD j false=true:=by
   have:=hI.wl;simp[List.getD,show j<W.2.1.length by omega]
  refine⟨⟨a6.1,by rw[a2,List.length_set];exact hI.wl,fj hW.cls hI.start hc.2.1,?_⟩,hc.2.1,?_,?_,a6.2,a1,Or.inr (by rw[a2];exact a5)⟩
  ·intro _ k hk hX a3;rw[a2]at a3
   by_cases hkj:k=j
   ·subst hkj;rw[a5]at a3;cases a3
   ·have a4:W.2.1.getD k false=false:=by
     simpa[List.getD,List.getElem?_set,show¬j=k from fun h=>hkj h.symm]using a3
    intro x s l hx hs;rw[a7,a1 k hkj]at hs;obtain⟨s',l',h1,h2,h3⟩:=hI.stab hf k hk hX a4 x s l hx hs;exact⟨s',l',h1,mZ hW.cls hc.2.1 h2,mZ hW.cls hc.2.1 h3⟩
  · --the state is there now
   have a0:=rq (T:=(W.1,false,W.2.2)) hW hbd hI.wf hz hr;exact a0
  ·have h1:mu (aU im.classes W j sb lb).1<mu W.1:=r;have h2:=mY W.2.1 j;unfold muW;rw[a2];omega
theorem kw {cs:List Cls} {W:Wn} {j:Nat} {sb lb:List UInt8} (h:W.2.2=true):(aU cs W j sb lb).2.2=true:=by
 unfold aU;rw[vm (by exact h)];exact h
theorem pW {cs:List Cls} {W:Wn} {j k:Nat} {sb lb:List UInt8} (h:W.2.1.getD k false=true):(aU cs W j sb lb).2.1.getD k false=true:=by
 unfold aU;simp only
 split
 ·simp only[List.getD,List.getElem?_set]
  split
  ·rename_i hjk
   subst hjk
   have:j<W.2.1.length:=by
    by_cases hj:j<W.2.1.length
    ·exact hj
    ·simp[List.getD,List.getElem?_eq_none (by omega:W.2.1.length≤j)]at h
   simp[this]
  ·exact h
 ·exact h
def gr (x:Ins) (i:Nat):List Nat:=if x.op.toNat=116 then []else if x.op.toNat=106 then [x.b]else if x.op.toNat=102 then [x.b,i+1]else [i+1]
def cd (cs:List Cls) (sb lb:List UInt8) (W:Wn) (l:List Nat):Wn:=l.foldl (fun W j=>aU cs W j sb lb) W
theorem pX {cs:List Cls} {sb lb:List UInt8}: ∀{l:List Nat} {W:Wn},W.2.2=true→(cd cs sb lb W l).2.2=true:=by
 intro l
 induction l with
 |nil=>intro W h;exact h
 |cons j l ih=>intro W h;exact ih (W:=aU cs W j sb lb) (kw h)
theorem oD {im:Img} (hW:WfI im) {bd:Bod} (hbd:WfB im.classes im.sigs bd) {X:Nat→Prop} {sb lb:List UInt8} (hz:okZ im.classes.length bd.locals.length sb lb) (a:Nat): ∀{l:List Nat} {W:Wn},W.2.2=false→mW im bd X W→sb.length≤iA W.1→(cd im.classes sb lb W l).2.2=false→
  mW im bd X (cd im.classes sb lb W l)∧dt im.classes W.1 (cd im.classes sb lb W l).1∧(∀j∈l,ee im.classes (cd im.classes sb lb W l).1 (j:Nat) (sb,lb))∧muW (cd im.classes sb lb W l)≤muW W∧((cd im.classes sb lb W l).1[a]?=W.1[a]?∨(cd im.classes sb lb W l).2.1.getD a false=true):=by
 intro l
 induction l with
 |nil=>intro W hf hI hl hr;exact⟨hI,dq _,by simp,Nat.le_refl _,Or.inl rfl⟩
 |cons j l ih=>
  intro W hf hI hl hr
  have a2:(aU im.classes W j sb lb).2.2=false:=by
   by_cases h:(aU im.classes W j sb lb).2.2=true
   ·have:=pX (cs:=im.classes) (sb:=sb) (lb:=lb) (l:=l) h;rw[show cd im.classes sb lb W (j::l)=cd im.classes sb lb (aU im.classes W j sb lb) l from rfl,this]at hr
    cases hr
   ·simpa using h
  obtain⟨i1,i2,i3,i4,i5,i6,i7⟩:=rt hW hbd hf hI hz hl a2;obtain⟨k1,k2,k3,k4,k5⟩:=ih a2 i1 (by omega) hr;refine⟨k1,fj hW.cls i2 k2,?_,by exact Nat.le_trans k4 i4,?_⟩
  ·intro j' a1;simp only[List.mem_cons]at a1;rcases a1 with rfl|a1
   ·exact mZ hW.cls k2 i3
   ·exact k3 j' a1
  ·have a0:(aU im.classes W j sb lb).2.1.getD a false=true→(cd im.classes sb lb W (j::l)).2.1.getD a false=true:=by
    have gen: ∀(l:List Nat) (V:Wn),V.2.1.getD a false=true→(cd im.classes sb lb V l).2.1.getD a false=true:=by
     intro l
     induction l with
     |nil=>intro V h;exact h
     |cons q l ih2=>intro V h;exact ih2 (aU im.classes V q sb lb) (pW h)
    exact gen l _
   rcases k5 with k5|k5
   ·by_cases haj:a=j
    ·subst haj;rcases i7 with i7|i7
     ·left;exact k5.trans i7
     ·right;exact a0 i7
    ·left;exact k5.trans (i6 a haj)
   ·exact Or.inr k5
theorem pY {im:Img} (hw:WfC im.classes) {bd:Bod} {H:List St} {sb lb:List UInt8}: ∀{l:List Nat} {W:Wn},W.2.2=false→dt im.classes W.1 H→(∀j∈l,ee im.classes H (j:Nat) (sb,lb))→(cd im.classes sb lb W l).2.2=false∧dt im.classes (cd im.classes sb lb W l).1 H:=by
 intro l
 induction l with
 |nil=>intro W hf h _;exact⟨hf,h⟩
 |cons j l ih=>
  intro W hf h hr;have:=jn hw (T:=(W.1,false,W.2.2)) hf h (hr j (by simp));exact ih (W:=aU im.classes W j sb lb) this.1 this.2 (fun j' hj'=>hr j' (by simp[hj']))
theorem o7 {cs:List Cls} {H:List St} {x:Ins} {i:Nat} {st:Sp2}:(∀j∈gr x i,ee cs H (j:Nat) st)↔ee cs H (dG x i).1 st∧ee cs H (dG x i).2 st:=by
 have neg:ee cs H (-1) st:=Or.inl (by omega);unfold gr dG
 split
 ·simp[neg]
 split
 ·simp[neg]
 split
 ·simp;exact⟨fun h=>⟨h.2,h.1⟩,fun h=>⟨h.2,h.1⟩⟩
 ·simp[neg]
def fc (im:Img) (bd:Bod) (W:Wn) (a:Nat) (x:Ins) (s l:List UInt8):Wn:=
 match dP im.classes im.sigs bd x s l with
 |none=>(W.1,W.2.1.set a false,true)
 |some (s',l')=>cd im.classes s' l' (W.1,W.2.1.set a false,W.2.2) (gr x a)
theorem ru {im:Img} (hw:WfC im.classes) {bd:Bod} {W:Wn} {a:Nat} {x:Ins} {s l:List UInt8} (hL:vn im bd W) (hx:bd.code[a]?=some x) (hs:W.1[a]?=some (some (s,l))):vn im bd (fc im bd W a x s l):=by
 intro H hG;obtain⟨h1,h2⟩:=hL H hG;have hH:=h2.2 a;rw[getD_some.2 hs]at hH
 cases hq:H.getD a none with
 |none=>rw[hq]at hH;exact hH.elim
 |some q=>
  obtain⟨t,m⟩:=q;rw[hq]at hH;obtain⟨t',m',he,r1,r2⟩:=hG.go a x t m hx (getD_some.1 hq);obtain⟨s',l',a0,l1,l2⟩:=oZ hw hH.1 hH.2 he;unfold fc;rw[a0]
  have low: ∀j,ee im.classes H j (t',m')→ee im.classes H j (s',l'):=fun j hj=>by
   rcases hj with hj| ⟨st,e1,e2⟩
   ·exact Or.inl hj
   ·exact Or.inr ⟨st,e1,jP hw ⟨l1,l2⟩ e2⟩
  exact pY hw (W:=(W.1,W.2.1.set a false,W.2.2)) (bd:=bd) h1 h2 (o7.2 ⟨low _ r1,low _ r2⟩)
theorem rv {im:Img} (hW:WfI im) {bd:Bod} (hbd:WfB im.classes im.sigs bd) {W:Wn} {a:Nat} {x:Ins} {s l:List UInt8} (hf:W.2.2=false) (hI:mW im bd (fun _=>False) W) (hwt:W.2.1.getD a false=true) (hx:bd.code[a]?=some x) (hs:W.1[a]?=some (some (s,l)))
  (hr:(fc im bd W a x s l).2.2=false):mW im bd (fun _=>False) (fc im bd W a x s l)∧muW (fc im bd W a x s l)<muW W:=by
 revert hr;unfold fc
 cases he:dP im.classes im.sigs bd x s l with
 |none=>intro hr;cases hr
 |some q=>
  obtain⟨s',l'⟩:=q;simp only;intro hr;have hz:=hI.wf.2 a s l hs;have a2:=kM hW (hbd.code x (List.mem_of_getElem? hx)) hz.1 he
  have a0:mW im bd (fun k=>k=a) (W.1,W.2.1.set a false,W.2.2):=by
   refine⟨hI.wf,by simp[hI.wl],hI.start,fun hb k hk hX hwk=> ?_⟩;refine hI.stab hf k hk (fun h=>h) ?_;have a1: ¬a=k:=fun h=>hX h.symm
   simpa[List.getD,List.getElem?_set,a1]using hwk
  have a3:muW (W.1,W.2.1.set a false,W.2.2)<muW W:=by
   have:=iT hwt;unfold muW;simp only;omega
  obtain⟨k1,k2,k3,k4,k5⟩:=oD hW hbd a2.1 a (W:=(W.1,W.2.1.set a false,W.2.2)) hf a0 (by simp only;omega) hr;refine⟨⟨k1.wf,k1.wl,k1.start,fun hb k hk _ hwk=> ?_⟩,by omega⟩
  by_cases hka:k=a
  ·subst hka;rcases k5 with k5|k5
   ·intro x' s'' l'' h1 h2;rw[hx]at h1;injection h1 with h1;rw[k5]at h2;simp only at h2;rw[hs]at h2;injection h2 with h2;injection h2 with h2;injection h2 with h2 h3;subst h1 h2 h3;have:=o7.1 k3;exact⟨s',l',he,this.1,this.2⟩
   ·rw[k5]at hwk;cases hwk
  ·exact k1.stab hb k hk hka hwk
theorem mW.done {im:Img} (hW:WfI im) {bd:Bod} (hbd:WfB im.classes im.sigs bd) {W:Wn} (hf:W.2.2=false) (hI:mW im bd (fun _=>False) W) (hL:vn im bd W) (hn: ∀k,k<bd.code.length→W.2.1.getD k false=false):de im bd=some W.1:=by
 apply rm hW hbd
 ·refine⟨hI.wf.1,?_,fun i x s l hx hs=>hI.stab hf i (List.getElem?_eq_some_iff.1 hx).1 (fun h=>h) (hn i (List.getElem?_eq_some_iff.1 hx).1) x s l hx hs⟩;have h0:=hI.start.2 0
  have hs:(cq bd).getD 0 none=some ([],bd.locals):=by
   unfold cq;simp[List.getD,hbd.len.1]
  rw[hs]at h0
  cases ht:W.1.getD 0 none with
  |none=>rw[ht]at h0;exact h0.elim
  |some s0=>rw[ht]at h0;exact⟨s0,getD_some.1 ht,h0⟩
 ·exact fun H hG=>(hL H hG).2
theorem vn.none {im:Img} (hW:WfI im) {bd:Bod} (hbd:WfB im.classes im.sigs bd) {W:Wn} (hL:vn im bd W) (hf:W.2.2=true):de im bd=none:=by
 apply ro hW hbd
 intro H hG;have:=(hL H hG).1;rw[hf]at this
 cases this
def bN (cs:List Cls) (gs:List Sig) (b:Bod) (x:Ins):List UInt8:=
 if x.op.toNat=115∨x.op.toNat=100 then [45]else if x.op.toNat=101 then [38,38]else if x.op.toNat=120 then [38]else bB cs gs b x
def eU (cs:List Cls) (a c:UInt8):Bool:=if c.toNat=38 then isR a else bP cs a c
def iU (cs:List Cls) (st asked:List UInt8):Bool:=decide (asked.length≤st.length)&&(List.range asked.length).all fun i=>eU cs (st.getD (st.length-asked.length+i) 0) (asked.getD i 0)
def du (cs:List Cls) (gs:List Sig) (x:Ins) (lo:List UInt8):List UInt8:=if x.op.toNat=108 then [lo.getD x.b 0]else bG cs gs x
def mG (cs:List Cls) (gs:List Sig) (b:Bod) (x:Ins) (st lo:List UInt8):Option (List UInt8×List UInt8):=
 if iU cs st (bN cs gs b x)=false∨(x.op.toNat=108∧(lo.getD x.b 0).toNat=45)then none else
 some (st.take (st.length-(bN cs gs b x).length)++du cs gs x lo,if x.op.toNat=115 then lo.set x.b (st.getD (st.length-1) 0)else lo)
theorem xD {cs:List Cls} {st:List UInt8} {c:UInt8}:iU cs st [c]=(decide (1≤st.length)&&eU cs (st.getD (st.length-1) 0) c):=by
 simp[iU,List.range_succ]
theorem BJ {cs:List Cls} {st:List UInt8} {c d:UInt8}:iU cs st [c,d]=(decide (2≤st.length)&&(eU cs (st.getD (st.length-2) 0) c&&eU cs (st.getD (st.length-2+1) 0) d)):=by
 simp[iU,List.range_succ]
theorem vp {cs:List Cls} {st wa:List UInt8} (h: ∀c∈wa,c.toNat≠38):iU cs st wa=dJ cs st wa:=by
 unfold iU dJ
 congr 1
 rw[Bool.eq_iff_iff];simp only[List.all_eq_true,List.mem_range]
 have key: ∀i,i<wa.length→eU cs (st.getD (st.length-wa.length+i) 0) (wa.getD i 0)=bP cs (st.getD (st.length-wa.length+i) 0) (wa.getD i 0):=by
  intro i hi;unfold eU;rw[if_neg];have:wa.getD i 0=wa[i]:=by simp[List.getD,hi]
  rw[this];exact h _ (List.getElem_mem hi)
 exact⟨fun hh i hi=>by rw[←key i hi];exact hh i hi,fun hh i hi=>by rw[key i hi];exact hh i hi⟩
theorem rx {cs:List Cls} {gs:List Sig} {b:Bod} {x:Ins} {st lo:List UInt8} (hp: ∀c∈bB cs gs b x,c.toNat≠38):dP cs gs b x st lo=mG cs gs b x st lo:=by
 have top: ∀a:UInt8,eU cs a 45=true:=fun a=>by unfold eU;rw[if_neg (by decide)];exact aR.2 (Or.inr (Or.inl rfl))
 have ref: ∀a:UInt8,eU cs a 38=isR a:=fun a=>by unfold eU;rw[if_pos (by decide)]
 unfold dP mG bN du
 by_cases h115:x.op.toNat=115
 ·rw[if_pos (Or.inl h115),if_pos (Or.inl h115),xD,top,Bool.and_true];simp only[h115,d7]
  by_cases hl:st.length<1
  ·simp[hl]
  ·have:1≤st.length:=by omega
   simp[this,show¬st.length<1 from hl]
 by_cases h100:x.op.toNat=100
 ·rw[if_pos (Or.inr (Or.inl h100)),if_pos (Or.inr h100),xD,top,Bool.and_true];simp only[h100,d7]
  by_cases hl:st.length<1
  ·simp[hl]
  ·have:1≤st.length:=by omega
   simp[this,show¬st.length<1 from hl]
 have a0: ¬(x.op.toNat=115∨x.op.toNat=100):=by omega
 by_cases h101:x.op.toNat=101
 ·rw[if_pos (Or.inr (Or.inr (Or.inl h101))),if_neg a0,if_pos h101,BJ,ref,ref];simp only[h101,d7,if_true]
  by_cases hl:st.length<2
  ·simp[hl,show¬2≤st.length by omega]
  ·have h2:2≤st.length:=by omega
   have e:st.length-2+1=st.length-1:=by omega
   rw[e]
   cases h3:isR (st.getD (st.length-1) 0)<;>cases h4:isR (st.getD (st.length-2) 0)<;>simp[hl,h2,h3,h4]
 by_cases h120:x.op.toNat=120
 ·rw[if_pos (Or.inr (Or.inr (Or.inr h120))),if_neg a0,if_neg h101,if_pos h120,xD,ref];simp only[h120,d7]
  by_cases hl:st.length<1
  ·simp[hl,show¬1≤st.length by omega]
  ·have h2:1≤st.length:=by omega
   cases h3:isR (st.getD (st.length-1) 0)<;>simp[hl,h2,h3]
 have a1: ¬(x.op.toNat=115∨x.op.toNat=100∨x.op.toNat=101∨x.op.toNat=120):=by omega
 rw[if_neg a1,if_neg a0,if_neg h101,if_neg h120,vp hp]
 by_cases h108:x.op.toNat=108
 ·have a2:bB cs gs b x=[]:=by
   unfold bB;simp[h108,arith]
  rw[if_pos h108,a2];simp only[h108,if_true,true_and];have hf:dJ cs st []=true:=by simp[dJ]
  rw[hf];simp
 ·rw[if_neg h108,if_neg h108];simp only[h108,false_and,or_false]
  cases dJ cs st (bB cs gs b x)<;>simp[h115]
theorem ry {im:Img} (hW:WfI im) {bd:Bod} (hbd:WfB im.classes im.sigs bd) {x:Ins} (hx:WfX im.classes im.sigs.length bd.locals.length x): ∀c∈bB im.classes im.sigs bd x,okT im.classes.length c=true:=by
 intro c hc
 have hcl: ∀a,a<im.classes.length→okT im.classes.length (cL a)=true:=by
  intro a ha;have:=hW.nc;rw[dI]
  right;left
  have h1:(cL a).toNat=65+a:=by simp[cL];omega
  omega
 have a0:okT im.classes.length 105=true:=by simp[dI]
 have a2:x.op.toNat=112→okT im.classes.length (cz im.classes x.a x.b)=true:=by
  intro h;have h1:=hx.cls (by omega);have h2:=hx.fld (by omega);obtain⟨cl,hcl⟩: ∃cl,im.classes[x.a]?=some cl:=⟨_,List.getElem?_eq_getElem h1⟩;unfold cz;rw[hcl];simp only[cF,hcl]at h2;simp only[Option.map_some,Option.getD_some]at h2⊢;have hf:=hW.cls x.a cl hcl
  have hm:cl.fields.getD x.b 0∈cl.fields:=by
   have:cl.fields.getD x.b 0=cl.fields[x.b]'(by simpa using h2):=by simp[List.getD,h2]
   rw[this];exact List.getElem_mem _
  exact iB (ew (by omega) (hf.2.2.2 _ hm))
 have a1:x.op.toNat=99→okT im.classes.length (gU im.sigs x.b)=true:=by
  intro h;obtain⟨g,hg⟩: ∃g,im.sigs[x.b]?=some g:=⟨_,List.getElem?_eq_getElem (hx.sig h)⟩;unfold gU;rw[hg];exact iB (hW.sig g (List.mem_of_getElem? hg)).1
 have a3: ¬bd.cls<0→okT im.classes.length (fh im.sigs bd.meth.toNat)=true:=by
  intro h;rcases hbd.cls with h1|h1
  ·omega
  ·obtain⟨g,hg⟩: ∃g,im.sigs[bd.meth.toNat]?=some g:=⟨_,List.getElem?_eq_getElem (by omega)⟩;unfold fh;rw[hg];exact iB (hW.sig g (List.mem_of_getElem? hg)).2
 unfold bB at hc
 split at hc
 ·simp at hc;subst hc;exact a0
 split at hc
 ·simp at hc;subst hc;exact a0
 split at hc
 ·rename_i h;simp at hc;subst hc;exact hcl _ (hx.cls (by omega))
 split at hc
 ·rename_i h
  simp at hc;rcases hc with rfl|rfl
  ·exact hcl _ (hx.cls (by omega))
  ·exact a2 h
 split at hc
 ·rename_i h
  simp at hc;rcases hc with rfl|rfl
  ·exact hcl _ (hx.cls (by omega))
  ·exact a1 h
 split at hc
 ·split at hc
  ·simp at hc;subst hc;exact a0
  ·rename_i h;simp at hc;subst hc;exact a3 h
 ·simp at hc
theorem vq {im:Img} (hW:WfI im) {bd:Bod} (hbd:WfB im.classes im.sigs bd) {x:Ins} (hx:WfX im.classes im.sigs.length bd.locals.length x) (st lo:List UInt8):dP im.classes im.sigs bd x st lo=mG im.classes im.sigs bd x st lo:=
 rx (fun c hc=>by have:=ry hW hbd hx c hc;rw[dI]at this;have:=hW.nc;omega)
end
end Go.Proofs.YtpfkkmacakjmbaaGreatDoor
