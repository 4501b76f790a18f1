import Derived.Test.YtpfkkmacakjmbaaGreatDoorP02
set_option maxRecDepth 100000
set_option maxHeartbeats 6400000
set_option linter.unusedSimpArgs false
set_option linter.unusedVariables false
namespace Go.Proofs.YtpfkkmacakjmbaaGreatDoor
section
open Go Sp
def leL (cs:List Cls):List UInt8→List UInt8→Prop
 | [],[]=>True
 |x::a,y::b=>bv cs x y=true∧leL cs a b
 |_,_=>False
theorem fG {cs:List Cls}: ∀a:List UInt8,leL cs a a
 | []=>trivial
 |x::a=>⟨fA x,fG a⟩
theorem dY {cs:List Cls}: ∀{a b:List UInt8},leL cs a b→a.length=b.length
 | [],[],_=>rfl
 |x::a,y::b,h=>by simp[dY h.2]
 | [],_::_,h=>h.elim
 |_::_,[],h=>h.elim
theorem kS {cs:List Cls} (hw:WfC cs): ∀{a b c:List UInt8},leL cs a b→leL cs b c→leL cs a c
 | [],[],[],_,_=>trivial
 |x::a,y::b,z::c,h,k=>⟨jO hw h.1 k.1,kS hw h.2 k.2⟩
 | [],_::_,_,h,_=>h.elim
 |_::_,[],_,h,_=>h.elim
 | [],[],_::_,_,k=>k.elim
 |_::_,_::_,[],_,k=>k.elim
theorem mq {cs:List Cls} (hw:WfC cs): ∀{a b:List UInt8},leL cs a b→leL cs b a→a=b
 | [],[],_,_=>rfl
 |x::a,y::b,h,k=>by rw[oo hw h.1 k.1,mq hw h.2 k.2]
 | [],_::_,h,_=>h.elim
 |_::_,[],h,_=>h.elim
theorem ik {cs:List Cls}: ∀{a b c d:List UInt8},leL cs a b→leL cs c d→leL cs (a++c) (b++d)
 | [],[],_,_,_,k=>k
 |x::a,y::b,_,_,h,k=>⟨h.1,ik h.2 k⟩
 | [],_::_,_,_,h,_=>h.elim
 |_::_,[],_,_,h,_=>h.elim
theorem mw {cs:List Cls}: ∀{a b:List UInt8} (k:Nat),leL cs a b→leL cs (a.take k) (b.take k)
 | [],[],k,_=>by simp[leL]
 |x::a,y::b,0,h=>trivial
 |x::a,y::b,k+1,h=>⟨h.1,mw k h.2⟩
 | [],_::_,_,h=>h.elim
 |_::_,[],_,h=>h.elim
theorem fH {cs:List Cls}: ∀{a b:List UInt8} (k:Nat),leL cs a b→bv cs (a.getD k 0) (b.getD k 0)=true
 | [],[],k,_=>by simp[fA]
 |x::a,y::b,0,h=>by simpa using h.1
 |x::a,y::b,k+1,h=>by simpa using fH k h.2
 | [],_::_,_,h=>h.elim
 |_::_,[],_,h=>h.elim
theorem t9 {cs:List Cls}: ∀{a b:List UInt8} (k:Nat) {u v:UInt8},leL cs a b→bv cs u v=true→leL cs (a.set k u) (b.set k v)
 | [],[],k,_,_,_,_=>by simp[leL]
 |x::a,y::b,0,_,_,h,hu=>⟨hu,h.2⟩
 |x::a,y::b,k+1,_,_,h,hu=>⟨h.1,t9 k h.2 hu⟩
 | [],_::_,_,_,_,h,_=>h.elim
 |_::_,[],_,_,_,h,_=>h.elim
theorem kT {cs:List Cls} (hw:WfC cs): ∀{a b:List UInt8},a.length=b.length→leL cs a (cS cs a b)∧leL cs b (cS cs a b)∧ ∀c,leL cs a c→leL cs b c→leL cs (cS cs a b) c
 | [],[],_=>⟨trivial,trivial,fun c h _=>h⟩
 |x::a,y::b,h=>by
  have ih:=kT hw (a:=a) (b:=b) (by simpa using h);have hj:=kQ hw x y;refine⟨⟨hj.1,ih.1⟩,⟨hj.2.1,ih.2.1⟩,fun c h1 h2=> ?_⟩
  match c,h1,h2 with
  |z::c,h1,h2=>exact⟨hj.2.2 z h1.1 h2.1,ih.2.2 c h1.2 h2.2⟩
  | [],h1,_=>exact h1.elim
 | [],_::_,h=>by simp at h
 |_::_,[],h=>by simp at h
abbrev Sp2:=List UInt8×List UInt8
def leS (cs:List Cls) (a b:Sp2):Prop:=leL cs a.1 b.1∧leL cs a.2 b.2
def leO (cs:List Cls):St→St→Prop
 |none,_=>True
 |some a,some b=>leS cs a b
 |some _,none=>False
def db (cs:List Cls) (t u:List St):Prop:=t.length=u.length∧ ∀k:Nat,leO cs (t.getD k none) (u.getD k none)
theorem jp {cs:List Cls} (hw:WfC cs) {a b c:Sp2} (h:leS cs a b) (k:leS cs b c):leS cs a c:=⟨kS hw h.1 k.1,kS hw h.2 k.2⟩
theorem qH {cs:List Cls} (a:St):leO cs a a:=by
 cases a with
 |none=>trivial
 |some a=>exact⟨fG _,fG _⟩
theorem uy {cs:List Cls} (hw:WfC cs) {a b c:St} (h:leO cs a b) (k:leO cs b c):leO cs a c:=by
 cases a with
 |none=>trivial
 |some a=>
  cases b with
  |none=>exact h.elim
  |some b=>
   cases c with
   |none=>exact k.elim
   |some c=>exact jp hw h k
theorem wM {cs:List Cls} (hw:WfC cs) {a b:St} (h:leO cs a b) (k:leO cs b a):a=b:=by
 cases a with
 |none=>
  cases b with
  |none=>rfl
  |some b=>exact k.elim
 |some a=>
  cases b with
  |none=>exact h.elim
  |some b=>
   obtain⟨a1,a2⟩:=a;obtain⟨b1,b2⟩:=b;have h1:a1=b1:=mq hw h.1 k.1;have h2:a2=b2:=mq hw h.2 k.2;rw[h1,h2]
theorem sJ {cs:List Cls} (hw:WfC cs) {t u:List St} (h:db cs t u) (k:db cs u t):t=u:=by
 apply List.ext_getElem h.1
 intro i h1 h2;have:=wM hw (h.2 i) (k.2 i);simpa[List.getD,h1,h2]using this
theorem c9 {cs:List Cls} (t:List St):db cs t t:=⟨rfl,fun _=>qH _⟩
theorem eV {cs:List Cls} (hw:WfC cs) {t u v:List St} (h:db cs t u) (k:db cs u v):db cs t v:=⟨h.1.trans k.1,fun i=>uy hw (h.2 i) (k.2 i)⟩
theorem qI {cs:List Cls} {a b:UInt8} (h:bv cs a b=true) (hb:isR b=true):isR a=true:=by
 rw[aO]at h;simp only[isR,Bool.or_eq_true,decide_eq_true_eq]at hb⊢;rcases h with rfl|h| ⟨_,h⟩ | ⟨h,_⟩
 ·exact hb
 ·rcases hb with hb|hb
  ·omega
  ·rw[bB]at hb;omega
 ·exact Or.inl h
 ·exact Or.inr h
theorem qJ {cs:List Cls} {c:Nat} {s t:List UInt8} {k:Nat} (h:leL cs s t) (hk:cP c t=some k):cP c s=some k:=by
 have hl:=dY h;unfold cP at hk⊢;have d1:=fun hb=>qI (fH (t.length-1) h) hb
 have d2:=fun hb=>qI (fH (t.length-2) h) hb
 rw[hl]
 split at hk
 ·rename_i h101
  rw[if_pos h101]
  split at hk
  ·cases hk
  ·rename_i hn
   rw[if_neg]
   ·exact hk
   ·simp only[not_or,Bool.not_eq_false]at hn⊢;exact⟨hn.1,d1 hn.2.1,d2 hn.2.2⟩
 ·rename_i h101
  rw[if_neg h101]
  split at hk
  ·cases hk
  ·rename_i hn
   rw[if_neg]
   ·exact hk
   ·simp only[not_or,not_and,Bool.not_eq_false]at hn⊢;exact⟨hn.1,fun h120=>d1 (hn.2 h120)⟩
theorem sK {cs:List Cls} (hw:WfC cs) {s t wa:List UInt8} (h:leL cs s t) (hf:cr cs t wa=true):cr cs s wa=true:=by
 have hl:=dY h;unfold cr at hf⊢;simp only[Bool.and_eq_true,decide_eq_true_eq,List.all_eq_true,List.mem_range]at hf⊢;rw[hl];exact⟨hf.1,fun i hi=>jO hw (fH _ h) (hf.2 i hi)⟩
theorem ot {cs:List Cls} (hw:WfC cs) {gs:List Sig} {b:Bod} {x:Ins} {s l t m t' m':List UInt8} (h1:leL cs s t) (h2:leL cs l m) (he:df cs gs b x t m=some (t',m')):
  ∃s' l',df cs gs b x s l=some (s',l')∧leL cs s' t'∧leL cs l' m':=by
 have hl:=dY h1;unfold df at he⊢
 split at he
 ·rename_i hc
  rw[if_pos hc]
  split at he
  ·cases he
  ·rename_i k hk
   rw[qJ h1 hk];injection he with he;injection he with e1 e2;refine⟨_,_,rfl,?_,?_⟩
   ·rw[←e1,hl];exact ik (mw _ h1) (fG _)
   ·rw[←e2,hl]
    split
    ·exact t9 _ h2 (fH _ h1)
    ·exact h2
 ·rename_i hc
  rw[if_neg hc]
  split at he
  ·rename_i h108
   rw[if_pos h108]
   split at he
   ·cases he
   ·rename_i h45
    injection he with he;injection he with e1 e2;have hd:=fH x.b h2
    have: ¬(l.getD x.b 0).toNat=45:=by
     intro h;rw[aO]at hd;rcases hd with hd|hd| ⟨_,hd⟩ | ⟨hd,_⟩
     ·rw[hd]at h;exact h45 h
     ·exact h45 hd
     ·omega
     ·rw[bB]at hd;omega
    rw[if_neg this];refine⟨_,_,rfl,?_,?_⟩
    ·rw[←e1];exact ik h1 ⟨hd,trivial⟩
    ·rw[←e2];exact h2
  ·rename_i h108
   rw[if_neg h108]
   split at he
   ·rename_i hf
    rw[if_pos (sK hw h1 hf)];injection he with he;injection he with e1 e2;refine⟨_,_,rfl,?_,?_⟩
    ·rw[←e1,hl];exact ik (mw _ h1) (fG _)
    ·rw[←e2];exact h2
   ·cases he
def dS (cs:List Cls) (H:List St) (j:Int) (st:Sp2):Prop:=j<0∨ ∃st',H[j.toNat]?=some (some st')∧leS cs st st'
structure kU (im:Img) (bd:Bod) (H:List St):Prop where
 len:H.length=bd.code.length
 start: ∃s0,H[0]?=some (some s0)∧leS im.classes ([],bd.locals) s0
 go: ∀(i:Nat) (x:Ins) (s l:List UInt8),bd.code[i]?=some x→H[i]?=some (some (s,l))→ ∃s' l',df im.classes im.sigs bd x s l=some (s',l')∧dS im.classes H (eg x i).1 (s',l')∧dS im.classes H (eg x i).2 (s',l')
theorem getD_some {t:List St} {k:Nat} {p:Sp2}:t.getD k none=some p↔t[k]?=some (some p):=by
 simp only[List.getD]
 cases h:t[k]? with
 |none=>simp
 |some o=>simp
theorem jP {cs:List Cls} (hw:WfC cs) {o:St} {sb lb:List UInt8} {m:Sp2} (hl: ∀s l,o=some (s,l)→l.length=lb.length) (h:fd cs o sb lb=some m):leO cs o (some m)∧leS cs (sb,lb) m∧ ∀c,leO cs o (some c)→leS cs (sb,lb) c→leS cs m c:=by
 cases o with
 |none=>
  simp[fd]at h;subst h;exact⟨trivial,⟨fG _,fG _⟩,fun c _ h=>h⟩
 |some p=>
  obtain⟨sa,la⟩:=p;simp only[fd]at h
  split at h
  ·rename_i hlen
   injection h with h;subst h;have b1:=kT hw hlen;have b2:=kT hw (hl sa la rfl);exact⟨⟨b1.1,b2.1⟩,⟨b1.2.1,b2.2.1⟩,fun c h k=>⟨b1.2.2 _ h.1 k.1,b2.2.2 _ h.2 k.2⟩⟩
  ·cases h
theorem iS {cs:List Cls} (hw:WfC cs) {T:Tn} {H:List St} {j:Int} {sb lb:List UInt8} (hb:T.2.2=false) (h:db cs T.1 H) (hr:dS cs H j (sb,lb)):
  (bJ cs T j sb lb).2.2=false∧db cs (bJ cs T j sb lb).1 H:=by
 unfold bJ
 split
 ·exact⟨hb,h⟩
 rename_i hj
 simp only[hb,false_or,Bool.false_eq_true]at hj;rcases hr with hr| ⟨st',a2,a0⟩
 ·exact absurd hr hj
 have a4:j.toNat<H.length:=(List.getElem?_eq_some_iff.1 a2).1;have a1:=h.1
 split
 ·omega
 have ho:=h.2 j.toNat;rw[getD_some.2 a2]at ho
 have a3: ∃m,fd cs (T.1.getD j.toNat none) sb lb=some m:=by
  cases hh:T.1.getD j.toNat none with
  |none=>exact⟨_,rfl⟩
  |some p=>
   rw[hh]at ho;have e1:=dY ho.1;have e2:=dY a0.1;simp only at e2;exact⟨_,by unfold fd;simp only;rw[if_pos (by omega)]⟩
 obtain⟨m,hm⟩:=a3;rw[hm];simp only
 split
 ·exact⟨hb,h⟩
 ·refine⟨rfl,⟨by rw[List.length_set];exact a1,fun k=> ?_⟩⟩
  by_cases hk:k=j.toNat
  ·subst hk;have hs:(T.1.set j.toNat (some m)).getD j.toNat none=some m:=by simp[List.getD,show j.toNat<T.1.length by omega]
   rw[hs,getD_some.2 a2]
   have hl: ∀s l,T.1.getD j.toNat none=some (s,l)→l.length=lb.length:=fun s l hh=>by
    rw[hh]at ho;have e1:=dY ho.2;have e2:=dY a0.2;simp only at e1 e2;omega
   exact(jP hw hl hm).2.2 st' ho a0
  ·have hs:(T.1.set j.toNat (some m)).getD k none=T.1.getD k none:=by simp[List.getD,List.getElem?_set,show¬j.toNat=k from fun h=>hk h.symm]
   rw[hs];exact h.2 k
theorem qK {im:Img} (hw:WfC im.classes) {bd:Bod} {T:Tn} {H:List St} (hG:kU im bd H) (hb:T.2.2=false) (h:db im.classes T.1 H) (i:Nat):
  ∃T',eB im bd T i=some T'∧T'.2.2=false∧db im.classes T'.1 H:=by
 cases hx:bd.code[i]? with
 |none=>exact⟨T,by unfold eB;rw[hx],hb,h⟩
 |some x=>
  cases ho:T.1.getD i none with
  |none=>exact⟨T,by unfold eB;rw[hx,ho],hb,h⟩
  |some p=>
   obtain⟨s,l⟩:=p;have hH:=h.2 i;rw[ho]at hH
   cases hq:H.getD i none with
   |none=>rw[hq]at hH;exact hH.elim
   |some q=>
    obtain⟨t,m⟩:=q;rw[hq]at hH;obtain⟨t',m',he,r1,r2⟩:=hG.go i x t m hx (getD_some.1 hq);obtain⟨s',l',a0,l1,l2⟩:=ot hw hH.1 hH.2 he;refine⟨_,mp hx (getD_some.1 ho) a0,?_⟩
    have low: ∀j,dS im.classes H j (t',m')→dS im.classes H j (s',l'):=fun j hj=>by
     rcases hj with hj| ⟨st,h1,h2⟩
     ·exact Or.inl hj
     ·exact Or.inr ⟨st,h1,jp hw ⟨l1,l2⟩ h2⟩
    have i1:=iS hw hb h (low _ r1);exact iS hw i1.1 i1.2 (low _ r2)
theorem ph {im:Img} (hw:WfC im.classes) {bd:Bod} {H:List St} (hG:kU im bd H): ∀{f i:Nat} {T:Tn},T.2.2=false→db im.classes T.1 H→ ∃T',dw im bd f i T=some T'∧T'.2.2=false∧db im.classes T'.1 H:=by
 intro f
 induction f with
 |zero=>intro i T hb h;exact⟨T,rfl,hb,h⟩
 |succ f ih=>
  intro i T hb h;obtain⟨T1,h1,h2,h3⟩:=qK hw hG hb h i;obtain⟨T2,h4,h5⟩:=ih (i:=i+1) h2 h3;exact⟨T2,by rw[ln hb h1];exact h4,h5⟩
theorem nE {im:Img} (hw:WfC im.classes) {bd:Bod} {H:List St} (hG:kU im bd H): ∀{f:Nat} {tb:List St} {ch:Bool},db im.classes tb H→ ∃t,dX im bd f (tb,ch,false)=some t∧db im.classes t H:=by
 intro f
 induction f with
 |zero=>intro tb ch h;exact⟨tb,rfl,h⟩
 |succ f ih=>
  intro tb ch h
  cases ch with
  |false=>exact⟨tb,ii im bd _ tb _,h⟩
  |true=>
   obtain⟨T1,h1,h2,h3⟩:=ph hw hG (f:=bd.code.length) (i:=0) (T:=(tb,false,false)) rfl h;obtain⟨t1,c1,b1⟩:=T1;simp only at h2 h3;subst h2;obtain⟨t,h4,h5⟩:=ih (ch:=c1) h3;refine⟨t,?_,h5⟩;rw[ml,h1];simp only[jN];rw[if_neg (by simp)];exact h4
theorem iT {im:Img} {bd:Bod} {H:List St} (hG:kU im bd H):db im.classes (b9 bd) H:=by
 obtain⟨s0,h0,hs⟩:=hG.start;refine⟨by unfold b9;simp[hG.len],fun k=> ?_⟩;unfold b9;have a0:0<bd.code.length:=by rw[←hG.len];exact(List.getElem?_eq_some_iff.1 h0).1
 cases k with
 |zero=>
  have:((List.replicate bd.code.length (none:St)).set 0 (some ([],bd.locals))).getD 0 none=some ([],bd.locals):=by simp[List.getD,a0]
  rw[this,getD_some.2 h0];exact hs
 |succ k=>
  have:((List.replicate bd.code.length (none:St)).set 0 (some ([],bd.locals))).getD (k+1) none=none:=by
   simp only[List.getD,List.getElem?_set];rw[if_neg (by omega)];rw[List.getElem?_replicate]
   split<;>rfl
  rw[this]
  trivial
theorem pi {im:Img} (hw:WfC im.classes) {bd:Bod} {H:List St} (hG:kU im bd H): ∃t,cZ im bd=some t∧db im.classes t H:=
 nE hw hG (iT hG)
def rk (c:UInt8):Nat:=if c.toNat=45 then 0 else if c.toNat=122 then 5 else if isC c=true then 1+(c.toNat-65)else 1
theorem AV (c:UInt8):rk c≤5:=by
 unfold rk
 split
 ·omega
 split
 ·omega
 split
 ·rename_i h;rw[bB]at h;omega
 ·omega
theorem sL {c:UInt8} (h:isC c=true):rk c=1+(c.toNat-65)∧65≤c.toNat∧c.toNat≤68:=by
 have h':=h;rw[bB]at h';unfold rk;rw[if_neg (by omega),if_neg (by omega),if_pos h];exact⟨rfl,h'.1,h'.2⟩
theorem AW {cs:List Cls} (hw:WfC cs) {a b:UInt8} (h:bv cs a b=true) (hne:a≠b):rk b<rk a:=by
 have a0:a.toNat≠b.toNat:=fun e=>hne (UInt8.toNat_inj.1 e)
 rw[aO]at h;rcases h with h|h| ⟨h1,h2⟩ | ⟨h1,h2,h3⟩
 ·exact absurd h hne
 ·have hb:rk b=0:=by unfold rk;rw[if_pos h]
  have ha:1≤rk a:=by
   unfold rk;rw[if_neg (by omega)]
   split
   ·omega
   split<;>omega
  omega
 ·have:=sL h1;have ha:rk a=5:=by unfold rk;rw[if_neg (by omega),if_pos h2]
  omega
 ·have c1:=sL h1;have c2:=sL h2;have r:=gQ hw h1;have:=sC hw 4 (by omega) (by omega) h3;unfold kl at this;omega
def nG (l:List UInt8):Nat:=(l.map rk).sum
theorem km: ∀l:List UInt8,nG l≤5*l.length
 | []=>by simp[nG]
 |x::l=>by
  have:=km l;have:=AV x;simp only[nG,List.map_cons,List.sum_cons,List.length_cons]at*;omega
theorem kV {cs:List Cls} (hw:WfC cs): ∀{a b:List UInt8},leL cs a b→nG b≤nG a∧(a≠b→nG b<nG a)
 | [],[],_=>⟨Nat.le_refl _,fun h=>absurd rfl h⟩
 |x::a,y::b,h=>by
  have ih:=kV hw h.2;simp only[nG,List.map_cons,List.sum_cons]at*
  by_cases hxy:x=y
  ·subst hxy;refine⟨by omega,fun hn=> ?_⟩;have:=ih.2 (fun e=>hn (by rw[e]));omega
  ·have:=AW hw h.1 hxy;exact⟨by omega,fun _=>by omega⟩
 | [],_::_,h=>h.elim
 |_::_,[],h=>h.elim
def wt:St→Nat
 |none=>700
 |some (s,l)=>nG s+nG l
def mu (t:List St):Nat:=(t.map wt).sum
theorem wN: ∀{t:List St} {j:Nat} (o:St) (hj:j<t.length),mu (t.set j o)+wt t[j]=mu t+wt o
 |x::t,0,o,_=>by simp[mu];omega
 |x::t,j+1,o,h=>by
  have:=wN (t:=t) (j:=j) o (by simpa using h);simp only[mu,List.set_cons_succ,List.map_cons,List.sum_cons,List.getElem_cons_succ]at*;omega
 | [],_,_,h=>by simp at h
theorem zY: ∀{t:List St},(∀o∈t,wt o≤700)→mu t≤700*t.length
 | [],_=>by simp[mu]
 |x::t,h=>by
  have h1:=h x (by simp);have h2:=zY (t:=t) (fun o ho=>h o (by simp[ho]));simp only[mu,List.map_cons,List.sum_cons,List.length_cons]at*;omega
theorem jQ {cs:List Cls} (hw:WfC cs) (hnc:cs.length≤4) {nl n:Nat} (hnl:nl≤5) (hn:n≤100) {T:Tn} {j:Int} {sb lb:List UInt8} (h:wfT cs.length nl n T.1) (hz:okZ cs.length nl sb lb) (hl:sb.length≤ig T.1) (hb:(bJ cs T j sb lb).2.2=false):
  T.2.2=false∧db cs T.1 (bJ cs T j sb lb).1∧((bJ cs T j sb lb=T∧dS cs T.1 j (sb,lb))∨((bJ cs T j sb lb).2.1=true∧mu (bJ cs T j sb lb).1<mu T.1)):=by
 have a2:=(gP hnc hw (j:=j) h hz hl).1;revert hb a2;unfold bJ
 split
 ·rename_i h1
  intro hb _;refine⟨hb,c9 _,Or.inl ⟨rfl,?_⟩⟩;rcases h1 with h1|h1
  ·rw[hb]at h1;cases h1
  ·exact Or.inl h1
 rename_i h1
 have a3:T.2.2=false:=by have:=(not_or.1 h1).1;simpa using this
 split
 ·intro hb;cases hb
 rename_i h2
 have a1:j.toNat<T.1.length:=by omega
 have a5:T.1.getD j.toNat none=T.1[j.toNat]:=by simp[List.getD,a1]
 split
 ·intro hb;cases hb
 rename_i m hm
 have a6: ∀s l,T.1.getD j.toNat none=some (s,l)→l.length=lb.length:=fun s l hh=>by
  have:=(h.2 j.toNat s l (getD_some.1 hh)).1.2.2;rw[this,hz.2.2]
 have a0:=jP hw a6 hm
 split
 ·rename_i hsame
  intro _ _;refine⟨a3,c9 _,Or.inl ⟨rfl,Or.inr ⟨m,getD_some.1 hsame.symm,a0.2.1⟩⟩⟩
 ·rename_i hdiff
  intro _ a2;refine⟨a3,⟨by simp,fun k=> ?_⟩,Or.inr ⟨rfl,?_⟩⟩
  ·by_cases hk:k=j.toNat
   ·subst hk;have hs:(T.1.set j.toNat (some m)).getD j.toNat none=some m:=by simp[List.getD,a1]
    simp only;rw[hs];exact a0.1
   ·have hs:(T.1.set j.toNat (some m)).getD k none=T.1.getD k none:=by simp[List.getD,List.getElem?_set,show¬j.toNat=k from fun h=>hk h.symm]
    simp only;rw[hs];exact qH _
  ·have a7:=wN (some m) a1;simp only;rw[a5]at hm hdiff a0
   suffices wt (some m)<wt T.1[j.toNat] by omega
   obtain⟨m1,m2⟩:=m
   cases ho:T.1[j.toNat]with
   |none=>
    have a4:=a2.okS hn j.toNat m1 m2 (by simp only;rw[List.getElem?_set];simp[a1]);have s1:=km m1;have s2:=km m2;have:=a4.2.2.1;have:=a4.2.2.2;simp only[wt];omega
   |some p=>
    obtain⟨sa,la⟩:=p;rw[ho]at a0 hdiff;have d1:=kV hw a0.1.1;have d2:=kV hw a0.1.2;simp only at d1 d2;simp only[wt]
    by_cases e1:sa=m1
    ·by_cases e2:la=m2
     ·rw[e1,e2]at hdiff;exact absurd rfl hdiff
     ·have:=d2.2 e2;omega
    ·have:=d1.2 e1;omega
def mx (im:Img) (bd:Bod) (t:List St) (i:Nat):Prop:=
 ∀(x:Ins) (s l:List UInt8),bd.code[i]?=some x→t[i]?=some (some (s,l))→ ∃s' l',df im.classes im.sigs bd x s l=some (s',l')∧dS im.classes t (eg x i).1 (s',l')∧dS im.classes t (eg x i).2 (s',l')
theorem sM {im:Img} (hW:WfI im) {bd:Bod} (hbd:WfB im.classes im.sigs bd) {T T':Tn} {i:Nat} (h:wfT im.classes.length bd.locals.length bd.code.length T.1) (hs:eB im bd T i=some T') (hb:T'.2.2=false):
  db im.classes T.1 T'.1∧((T'=T∧mx im bd T.1 i)∨(T'.2.1=true∧mu T'.1<mu T.1)):=by
 cases hx:bd.code[i]? with
 |none=>
  have:eB im bd T i=some T:=by unfold eB;rw[hx]
  rw[this]at hs;injection hs with hs;subst hs;exact⟨c9 _,Or.inl ⟨rfl,fun x s l h1=>by rw[hx]at h1;cases h1⟩⟩
 |some x=>
  cases ho:T.1.getD i none with
  |none=>
   have:eB im bd T i=some T:=by unfold eB;rw[hx,ho]
   rw[this]at hs;injection hs with hs;subst hs;refine⟨c9 _,Or.inl ⟨rfl,fun x s l _ h2=> ?_⟩⟩;rw[getD_some.2 h2]at ho
   cases ho
  |some p=>
   obtain⟨s,l⟩:=p;have hg:=getD_some.1 ho
   cases he:df im.classes im.sigs bd x s l with
   |none=>rw[sy hx hg he]at hs;cases hs
   |some q=>
    obtain⟨s',l'⟩:=q;rw[mp hx hg he]at hs;injection hs with hs;subst hs;have hz:=h.2 i s l hg;have a0:=jo hW (hbd.code x (List.mem_of_getElem? hx)) hz.1 he;have a1:s'.length≤ig T.1:=by omega
    have w1:=gP hW.nc hW.cls (j:=(eg x i).1) h a0.1 a1;have c2:=jQ hW.cls hW.nc hbd.loc.1 hbd.len.2 w1.1 a0.1 (by omega) hb;have c1:=jQ hW.cls hW.nc hbd.loc.1 hbd.len.2 h a0.1 a1 c2.1;refine⟨eV hW.cls c1.2.1 c2.2.1,?_⟩;rcases c1.2.2 with⟨e1,r1⟩ | ⟨e1,r1⟩
    ·rcases c2.2.2 with⟨e2,r2⟩ | ⟨e2,r2⟩
     ·left
      rw[e1]at e2 r2⊢;refine⟨e2,fun x' s'' l'' h1 h2=> ?_⟩;rw[hx]at h1;injection h1 with h1;rw[hg]at h2;injection h2 with h2;injection h2 with h2;injection h2 with h2 h3;subst h1 h2 h3;exact⟨s',l',he,r1,r2⟩
     ·right
      refine⟨e2,?_⟩;rw[e1]at r2⊢;exact r2
    ·right
     rcases c2.2.2 with⟨e2,r2⟩ | ⟨e2,r2⟩
     ·rw[e2];exact⟨e1,r1⟩
     ·exact⟨e2,by omega⟩
theorem uz {cs:List Cls} {T:Tn} {j:Int} {sb lb:List UInt8} (h:T.2.2=true):bJ cs T j sb lb=T:=by
 unfold bJ;rw[if_pos (Or.inl h)]
theorem qL {im:Img} (hW:WfI im) {bd:Bod} (hbd:WfB im.classes im.sigs bd): ∀{f i:Nat} {T T':Tn},wfT im.classes.length bd.locals.length bd.code.length T.1→dw im bd f i T=some T'→T'.2.2=false→
  db im.classes T.1 T'.1∧((T'=T∧ ∀k,i≤k→k<i+f→mx im bd T.1 k)∨(T'.2.1=true∧mu T'.1<mu T.1)):=by
 intro f
 induction f with
 |zero=>
  intro i T T' h hs hb;simp[dw]at hs;subst hs;exact⟨c9 _,Or.inl ⟨rfl,fun k h1 h2=>by omega⟩⟩
 |succ f ih=>
  intro i T T' h hs hb
  by_cases hbt:T.2.2=true
  ·rw[mo _ _ _ _ _ hbt]at hs;injection hs with hs;subst hs;rw[hbt]at hb
   cases hb
  ·have a1:T.2.2=false:=by simpa using hbt
   cases h1:eB im bd T i with
   |none=>rw[qy a1 h1]at hs;cases hs
   |some T1=>
    rw[ln a1 h1]at hs
    have a0:T1.2.2=false:=by
     by_cases a0:T1.2.2=true
     ·rw[mo _ _ _ _ _ a0]at hs;injection hs with hs;subst hs;exact hb
     ·simpa using a0
    have c1:=sM hW hbd h h1 a0;have c2:=ih (qx hW hbd h h1) hs hb;refine⟨eV hW.cls c1.1 c2.1,?_⟩;rcases c1.2 with⟨e1,r1⟩ | ⟨e1,r1⟩
    ·subst e1;rcases c2.2 with⟨e2,r2⟩ |r2
     ·left
      refine⟨e2,fun k hk1 hk2=> ?_⟩
      by_cases hk:k=i
      ·subst hk;exact r1
      ·exact r2 k (by omega) (by omega)
     ·exact Or.inr r2
    ·right
     rcases c2.2 with⟨e2,r2⟩ | ⟨e2,r2⟩
     ·rw[e2];exact⟨e1,r1⟩
     ·exact⟨e2,by omega⟩
theorem pj {im:Img} (hW:WfI im) {bd:Bod} (hbd:WfB im.classes im.sigs bd): ∀{f:Nat} {tb:List St} {ch:Bool} {t:List St},wfT im.classes.length bd.locals.length bd.code.length tb→
  (ch=false→ ∀k,k<bd.code.length→mx im bd tb k)→(ch=true→mu tb<f)→dX im bd f (tb,ch,false)=some t→db im.classes tb t∧ ∀k,k<bd.code.length→mx im bd t k:=by
 intro f
 induction f with
 |zero=>
  intro tb ch t h a1 a0 hr
  cases ch with
  |false=>
   rw[ii]at hr;injection hr with hr;subst hr;exact⟨c9 _,a1 rfl⟩
  |true=>exact absurd (a0 rfl) (by omega)
 |succ f ih=>
  intro tb ch t h a1 a0 hr
  cases ch with
  |false=>
   rw[ii]at hr;injection hr with hr;subst hr;exact⟨c9 _,a1 rfl⟩
  |true=>
   rw[ml]at hr
   cases hs:dw im bd bd.code.length 0 (tb,false,false)with
   |none=>rw[hs]at hr;cases hr
   |some T1=>
    rw[hs]at hr;obtain⟨t1,c1,b1⟩:=T1;simp only[jN]at hr
    cases b1 with
    |true=>simp at hr
    |false=>
     simp only[Bool.false_eq_true,if_false]at hr;have c:=qL hW hbd (T:=(tb,false,false)) h hs rfl;have a2:=om hW hbd (T:=(tb,false,false)) h hs;rcases c.2 with⟨e,r⟩ | ⟨e,r⟩
     ·injection e with e1 e2;injection e2 with e2 _;subst e1 e2;have:=ih a2 (fun _ k hk=>r k (by omega) (by omega)) (fun h=>by cases h) hr;exact this
     ·simp only at e r;subst e;have hm:=a0 rfl;have:=ih a2 (fun h=>by cases h) (fun _=>by show mu t1<f;omega) hr;exact⟨eV hW.cls c.1 this.1,this.2⟩
theorem qM {im:Img} {bd:Bod} (hbd:WfB im.classes im.sigs bd):mu (b9 bd)<80000:=by
 have h:mu (b9 bd)≤700*(b9 bd).length:=by
  apply zY
  intro o ho
  cases o with
  |none=>simp[wt]
  |some p=>
   obtain⟨s,l⟩:=p;obtain⟨k,hk⟩:=List.mem_iff_getElem?.1 ho;have a0:=(eU hbd).okS hbd.len.2 k s l hk;have s1:=km s;have s2:=km l;have:=a0.2.2.1;have:=a0.2.2.2;have:=hbd.loc.1;simp only[wt];omega
 have h1:(b9 bd).length=bd.code.length:=(eU hbd).1;have:=hbd.len.2;omega
theorem iU {im:Img} (hW:WfI im) {bd:Bod} (hbd:WfB im.classes im.sigs bd) {t:List St} (h:cZ im bd=some t):kU im bd t:=by
 have hc:=pj hW hbd (eU hbd) (fun h=>by cases h) (fun _=>qM hbd) h;have hl:=(kP hW hbd h).1;refine⟨hl,?_,fun i x s l hx hs=>hc.2 i (List.getElem?_eq_some_iff.1 hx).1 x s l hx hs⟩;have h0:=hc.1.2 0
 have hs:(b9 bd).getD 0 none=some ([],bd.locals):=by
  unfold b9;simp[List.getD,hbd.len.1]
 rw[hs]at h0
 cases ht:t.getD 0 none with
 |none=>rw[ht]at h0;exact h0.elim
 |some s0=>rw[ht]at h0;exact⟨s0,getD_some.1 ht,h0⟩
theorem qN {im:Img} (hW:WfI im) {bd:Bod} (hbd:WfB im.classes im.sigs bd) {t:List St} (hG:kU im bd t) (hm: ∀H,kU im bd H→db im.classes t H):cZ im bd=some t:=by
 obtain⟨u,hu,a0⟩:=pi hW.cls hG;rw[hu,sJ hW.cls a0 (hm u (iU hW hbd hu))]
theorem qO {im:Img} (hW:WfI im) {bd:Bod} (hbd:WfB im.classes im.sigs bd) (h: ∀H,¬kU im bd H):cZ im bd=none:=by
 cases hu:cZ im bd with
 |none=>rfl
 |some u=>exact absurd (iU hW hbd hu) (h u)
abbrev Wn:=List St×List Bool×Bool
def aP (cs:List Cls) (W:Wn) (j:Nat) (sb lb:List UInt8):Wn:=
 ((bJ cs (W.1,false,W.2.2) j sb lb).1,if(bJ cs (W.1,false,W.2.2) j sb lb).2.1=true then W.2.1.set j true else W.2.1,(bJ cs (W.1,false,W.2.2) j sb lb).2.2)
structure my (im:Img) (bd:Bod) (X:Nat→Prop) (W:Wn):Prop where
 wf:wfT im.classes.length bd.locals.length bd.code.length W.1
 wl:W.2.1.length=bd.code.length
 start:db im.classes (b9 bd) W.1
 stab:W.2.2=false→ ∀k,k<bd.code.length→ ¬X k→W.2.1.getD k false=false→mx im bd W.1 k
def uA (im:Img) (bd:Bod) (W:Wn):Prop:= ∀H,kU im bd H→W.2.2=false∧db im.classes W.1 H
def mz (l:List Bool):Nat:=l.countP id
def muW (W:Wn):Nat:=2*mu W.1+mz W.2.1
theorem mA (l:List Bool) (j:Nat):mz (l.set j true)≤mz l+1:=by
 unfold mz
 by_cases h:j<l.length
 ·rw[List.countP_set h];split<;>simp<;>omega
 ·rw[List.set_eq_of_length_le (by omega)];omega
theorem iE {l:List Bool} {j:Nat} (h:l.getD j false=true):mz (l.set j false)<mz l:=by
 have hj:j<l.length:=by
  by_cases hj:j<l.length
  ·exact hj
  ·simp[List.getD,List.getElem?_eq_none (by omega:l.length≤j)]at h
 have hv:l[j]=true:=by simpa[List.getD,hj]using h
 unfold mz;rw[List.countP_set hj];have:0<l.countP id:=List.countP_pos_iff.2 ⟨_,List.getElem_mem hj,hv⟩;simp[hv];omega
theorem mB {cs:List Cls} (hw:WfC cs) {t u:List St} {j:Int} {st:Sp2} (h:db cs t u) (hr:dS cs t j st):dS cs u j st:=by
 rcases hr with hr| ⟨st',h1,h2⟩
 ·exact Or.inl hr
 ·have h3:=h.2 j.toNat;rw[getD_some.2 h1]at h3
  cases hu:u.getD j.toNat none with
  |none=>rw[hu]at h3;exact h3.elim
  |some q=>rw[hu]at h3;exact Or.inr ⟨q,getD_some.1 hu,jp hw h2 h3⟩
theorem qP {cs:List Cls} {T:Tn} {j:Nat} {sb lb:List UInt8} {k:Nat} (hk:k≠j):(bJ cs T j sb lb).1[k]?=T.1[k]?:=by
 unfold bJ
 split
 ·rfl
 split
 ·rfl
 split
 ·rfl
 split
 ·rfl
 ·simp[List.getElem?_set,show¬j=k from fun h=>hk h.symm]
theorem qQ {im:Img} (hW:WfI im) {bd:Bod} (hbd:WfB im.classes im.sigs bd) {n:Nat} {T:Tn} {j:Nat} {sb lb:List UInt8} (h:wfT im.classes.length bd.locals.length n T.1) (hz:okZ im.classes.length bd.locals.length sb lb) (hr:(bJ im.classes T j sb lb).2.2=false):
  dS im.classes (bJ im.classes T j sb lb).1 j (sb,lb):=by
 revert hr;unfold bJ
 split
 ·rename_i h1
  intro hr;rcases h1 with h1|h1
  ·rw[hr]at h1;cases h1
  ·omega
 split
 ·intro hr;cases hr
 rename_i h1 h2
 have a1:(j:Int).toNat<T.1.length:=by omega
 split
 ·intro hr;cases hr
 rename_i m hm
 have a2: ∀s l,T.1.getD (j:Int).toNat none=some (s,l)→l.length=lb.length:=fun s l hh=>by
  have:=(h.2 _ s l (getD_some.1 hh)).1.2.2;rw[this,hz.2.2]
 have a0:=jP hW.cls a2 hm
 split
 ·rename_i hs
  intro _;exact Or.inr ⟨m,getD_some.1 hs.symm,a0.2.1⟩
 ·intro _;exact Or.inr ⟨m,by simp only;rw[List.getElem?_set,if_pos rfl];simp only[a1,if_true],a0.2.1⟩
theorem qR {im:Img} (hW:WfI im) {bd:Bod} (hbd:WfB im.classes im.sigs bd) {X:Nat→Prop} {W:Wn} {j:Nat} {sb lb:List UInt8} (hf:W.2.2=false) (hI:my im bd X W) (hz:okZ im.classes.length bd.locals.length sb lb) (hl:sb.length≤ig W.1)
  (hr:(aP im.classes W j sb lb).2.2=false):
  my im bd X (aP im.classes W j sb lb)∧db im.classes W.1 (aP im.classes W j sb lb).1∧dS im.classes (aP im.classes W j sb lb).1 j (sb,lb)∧muW (aP im.classes W j sb lb)≤muW W∧ig W.1≤ig (aP im.classes W j sb lb).1∧(∀k,k≠j→(aP im.classes W j sb lb).1[k]?=W.1[k]?)∧((aP im.classes W j sb lb).1[j]?=W.1[j]?∨(aP im.classes W j sb lb).2.1.getD j false=true):=by
 have hc:=jQ hW.cls hW.nc hbd.loc.1 hbd.len.2 (T:=(W.1,false,W.2.2)) (j:=(j:Int)) hI.wf hz hl hr;have a6:=gP hW.nc hW.cls (T:=(W.1,false,W.2.2)) (j:=(j:Int)) hI.wf hz hl;have a1:=fun k (hk:k≠j)=>qP (cs:=im.classes) (T:=(W.1,false,W.2.2)) (j:=j) (sb:=sb) (lb:=lb) hk
 rcases hc.2.2 with⟨e,r⟩ | ⟨e,r⟩
 ·have hid:aP im.classes W j sb lb=W:=by
   unfold aP;rw[e];simp
  rw[hid];exact⟨hI,c9 _,r,Nat.le_refl _,Nat.le_refl _,fun _ _=>rfl,Or.inl rfl⟩
 ·have a2:(aP im.classes W j sb lb).2.1=W.2.1.set j true:=by unfold aP;simp only[e,if_true]
  have a7:(aP im.classes W j sb lb).1=(bJ im.classes (W.1,false,W.2.2) j sb lb).1:=rfl
  have a8:j<bd.code.length:=by
   by_cases hj:j<bd.code.length
   ·exact hj
   ·exfalso
    have:bJ im.classes (W.1,false,W.2.2) j sb lb=(W.1,false,true):=by
     unfold bJ;have h1:=hI.wf.1;rw[if_neg (by simp[hf]),if_pos (by simp only;omega)]
    have h2:(bJ im.classes (W.1,false,W.2.2) j sb lb).2.2=false:=hr;rw[this]at h2
    cases h2
  have a5:(W.2.1.set j true).getD j false=true:=by
   have:=hI.wl;simp[List.getD,show j<W.2.1.length by omega]
  refine⟨⟨a6.1,by rw[a2,List.length_set];exact hI.wl,eV hW.cls hI.start hc.2.1,?_⟩,hc.2.1,?_,?_,a6.2,a1,Or.inr (by rw[a2];exact a5)⟩
  ·intro _ k hk hX a3;rw[a2]at a3
   by_cases hkj:k=j
   ·subst hkj;rw[a5]at a3;cases a3
   ·have a4:W.2.1.getD k false=false:=by
     simpa[List.getD,List.getElem?_set,show¬j=k from fun h=>hkj h.symm]using a3
    intro x s l hx hs;rw[a7,a1 k hkj]at hs;obtain⟨s',l',h1,h2,h3⟩:=hI.stab hf k hk hX a4 x s l hx hs;exact⟨s',l',h1,mB hW.cls hc.2.1 h2,mB hW.cls hc.2.1 h3⟩
  · --the state is there now
   have a0:=qQ (T:=(W.1,false,W.2.2)) hW hbd hI.wf hz hr;exact a0
  ·have h1:mu (aP im.classes W j sb lb).1<mu W.1:=r;have h2:=mA W.2.1 j;unfold muW;rw[a2];omega
theorem jR {cs:List Cls} {W:Wn} {j:Nat} {sb lb:List UInt8} (h:W.2.2=true):(aP cs W j sb lb).2.2=true:=by
 unfold aP;rw[uz (by exact h)];exact h
theorem pm {cs:List Cls} {W:Wn} {j k:Nat} {sb lb:List UInt8} (h:W.2.1.getD k false=true):(aP cs W j sb lb).2.1.getD k false=true:=by
 unfold aP;simp only
 split
 ·simp only[List.getD,List.getElem?_set]
  split
  ·rename_i hjk
   subst hjk
   have:j<W.2.1.length:=by
    by_cases hj:j<W.2.1.length
    ·exact hj
    ·simp[List.getD,List.getElem?_eq_none (by omega:W.2.1.length≤j)]at h
   simp[this]
  ·exact h
 ·exact h
def fX (x:Ins) (i:Nat):List Nat:=if x.op.toNat=116 then []else if x.op.toNat=106 then [x.b]else if x.op.toNat=102 then [x.b,i+1]else [i+1]
def bW (cs:List Cls) (sb lb:List UInt8) (W:Wn) (l:List Nat):Wn:=l.foldl (fun W j=>aP cs W j sb lb) W
theorem po {cs:List Cls} {sb lb:List UInt8}: ∀{l:List Nat} {W:Wn},W.2.2=true→(bW cs sb lb W l).2.2=true:=by
 intro l
 induction l with
 |nil=>intro W h;exact h
 |cons j l ih=>intro W h;exact ih (W:=aP cs W j sb lb) (jR h)
theorem nH {im:Img} (hW:WfI im) {bd:Bod} (hbd:WfB im.classes im.sigs bd) {X:Nat→Prop} {sb lb:List UInt8} (hz:okZ im.classes.length bd.locals.length sb lb) (a:Nat): ∀{l:List Nat} {W:Wn},W.2.2=false→my im bd X W→sb.length≤ig W.1→(bW im.classes sb lb W l).2.2=false→
  my im bd X (bW im.classes sb lb W l)∧db im.classes W.1 (bW im.classes sb lb W l).1∧(∀j∈l,dS im.classes (bW im.classes sb lb W l).1 (j:Nat) (sb,lb))∧muW (bW im.classes sb lb W l)≤muW W∧((bW im.classes sb lb W l).1[a]?=W.1[a]?∨(bW im.classes sb lb W l).2.1.getD a false=true):=by
 intro l
 induction l with
 |nil=>intro W hf hI hl hr;exact⟨hI,c9 _,by simp,Nat.le_refl _,Or.inl rfl⟩
 |cons j l ih=>
  intro W hf hI hl hr
  have a2:(aP im.classes W j sb lb).2.2=false:=by
   by_cases h:(aP im.classes W j sb lb).2.2=true
   ·have:=po (cs:=im.classes) (sb:=sb) (lb:=lb) (l:=l) h;rw[show bW im.classes sb lb W (j::l)=bW im.classes sb lb (aP im.classes W j sb lb) l from rfl,this]at hr
    cases hr
   ·simpa using h
  obtain⟨i1,i2,i3,i4,i5,i6,i7⟩:=qR hW hbd hf hI hz hl a2;obtain⟨k1,k2,k3,k4,k5⟩:=ih a2 i1 (by omega) hr;refine⟨k1,eV hW.cls i2 k2,?_,by exact Nat.le_trans k4 i4,?_⟩
  ·intro j' a1;simp only[List.mem_cons]at a1;rcases a1 with rfl|a1
   ·exact mB hW.cls k2 i3
   ·exact k3 j' a1
  ·have a0:(aP im.classes W j sb lb).2.1.getD a false=true→(bW im.classes sb lb W (j::l)).2.1.getD a false=true:=by
    have gen: ∀(l:List Nat) (V:Wn),V.2.1.getD a false=true→(bW im.classes sb lb V l).2.1.getD a false=true:=by
     intro l
     induction l with
     |nil=>intro V h;exact h
     |cons q l ih2=>intro V h;exact ih2 (aP im.classes V q sb lb) (pm h)
    exact gen l _
   rcases k5 with k5|k5
   ·by_cases haj:a=j
    ·subst haj;rcases i7 with i7|i7
     ·left;exact k5.trans i7
     ·right;exact a0 i7
    ·left;exact k5.trans (i6 a haj)
   ·exact Or.inr k5
theorem pq {im:Img} (hw:WfC im.classes) {bd:Bod} {H:List St} {sb lb:List UInt8}: ∀{l:List Nat} {W:Wn},W.2.2=false→db im.classes W.1 H→(∀j∈l,dS im.classes H (j:Nat) (sb,lb))→(bW im.classes sb lb W l).2.2=false∧db im.classes (bW im.classes sb lb W l).1 H:=by
 intro l
 induction l with
 |nil=>intro W hf h _;exact⟨hf,h⟩
 |cons j l ih=>
  intro W hf h hr;have:=iS hw (T:=(W.1,false,W.2.2)) hf h (hr j (by simp));exact ih (W:=aP im.classes W j sb lb) this.1 this.2 (fun j' hj'=>hr j' (by simp[hj']))
theorem ou {cs:List Cls} {H:List St} {x:Ins} {i:Nat} {st:Sp2}:(∀j∈fX x i,dS cs H (j:Nat) st)↔dS cs H (eg x i).1 st∧dS cs H (eg x i).2 st:=by
 have neg:dS cs H (-1) st:=Or.inl (by omega);unfold fX eg
 split
 ·simp[neg]
 split
 ·simp[neg]
 split
 ·simp;exact⟨fun h=>⟨h.2,h.1⟩,fun h=>⟨h.2,h.1⟩⟩
 ·simp[neg]
def eR (im:Img) (bd:Bod) (W:Wn) (a:Nat) (x:Ins) (s l:List UInt8):Wn:=
 match df im.classes im.sigs bd x s l with
 |none=>(W.1,W.2.1.set a false,true)
 |some (s',l')=>bW im.classes s' l' (W.1,W.2.1.set a false,W.2.2) (fX x a)
theorem qS {im:Img} (hw:WfC im.classes) {bd:Bod} {W:Wn} {a:Nat} {x:Ins} {s l:List UInt8} (hL:uA im bd W) (hx:bd.code[a]?=some x) (hs:W.1[a]?=some (some (s,l))):uA im bd (eR im bd W a x s l):=by
 intro H hG;obtain⟨h1,h2⟩:=hL H hG;have hH:=h2.2 a;rw[getD_some.2 hs]at hH
 cases hq:H.getD a none with
 |none=>rw[hq]at hH;exact hH.elim
 |some q=>
  obtain⟨t,m⟩:=q;rw[hq]at hH;obtain⟨t',m',he,r1,r2⟩:=hG.go a x t m hx (getD_some.1 hq);obtain⟨s',l',a0,l1,l2⟩:=ot hw hH.1 hH.2 he;unfold eR;rw[a0]
  have low: ∀j,dS im.classes H j (t',m')→dS im.classes H j (s',l'):=fun j hj=>by
   rcases hj with hj| ⟨st,e1,e2⟩
   ·exact Or.inl hj
   ·exact Or.inr ⟨st,e1,jp hw ⟨l1,l2⟩ e2⟩
  exact pq hw (W:=(W.1,W.2.1.set a false,W.2.2)) (bd:=bd) h1 h2 (ou.2 ⟨low _ r1,low _ r2⟩)
theorem qT {im:Img} (hW:WfI im) {bd:Bod} (hbd:WfB im.classes im.sigs bd) {W:Wn} {a:Nat} {x:Ins} {s l:List UInt8} (hf:W.2.2=false) (hI:my im bd (fun _=>False) W) (hwt:W.2.1.getD a false=true) (hx:bd.code[a]?=some x) (hs:W.1[a]?=some (some (s,l)))
  (hr:(eR im bd W a x s l).2.2=false):my im bd (fun _=>False) (eR im bd W a x s l)∧muW (eR im bd W a x s l)<muW W:=by
 revert hr;unfold eR
 cases he:df im.classes im.sigs bd x s l with
 |none=>intro hr;cases hr
 |some q=>
  obtain⟨s',l'⟩:=q;simp only;intro hr;have hz:=hI.wf.2 a s l hs;have a2:=jo hW (hbd.code x (List.mem_of_getElem? hx)) hz.1 he
  have a0:my im bd (fun k=>k=a) (W.1,W.2.1.set a false,W.2.2):=by
   refine⟨hI.wf,by simp[hI.wl],hI.start,fun hb k hk hX hwk=> ?_⟩;refine hI.stab hf k hk (fun h=>h) ?_;have a1: ¬a=k:=fun h=>hX h.symm
   simpa[List.getD,List.getElem?_set,a1]using hwk
  have a3:muW (W.1,W.2.1.set a false,W.2.2)<muW W:=by
   have:=iE hwt;unfold muW;simp only;omega
  obtain⟨k1,k2,k3,k4,k5⟩:=nH hW hbd a2.1 a (W:=(W.1,W.2.1.set a false,W.2.2)) hf a0 (by simp only;omega) hr;refine⟨⟨k1.wf,k1.wl,k1.start,fun hb k hk _ hwk=> ?_⟩,by omega⟩
  by_cases hka:k=a
  ·subst hka;rcases k5 with k5|k5
   ·intro x' s'' l'' h1 h2;rw[hx]at h1;injection h1 with h1;rw[k5]at h2;simp only at h2;rw[hs]at h2;injection h2 with h2;injection h2 with h2;injection h2 with h2 h3;subst h1 h2 h3;have:=ou.1 k3;exact⟨s',l',he,this.1,this.2⟩
   ·rw[k5]at hwk;cases hwk
  ·exact k1.stab hb k hk hka hwk
theorem my.done {im:Img} (hW:WfI im) {bd:Bod} (hbd:WfB im.classes im.sigs bd) {W:Wn} (hf:W.2.2=false) (hI:my im bd (fun _=>False) W) (hL:uA im bd W) (hn: ∀k,k<bd.code.length→W.2.1.getD k false=false):cZ im bd=some W.1:=by
 apply qN hW hbd
 ·refine⟨hI.wf.1,?_,fun i x s l hx hs=>hI.stab hf i (List.getElem?_eq_some_iff.1 hx).1 (fun h=>h) (hn i (List.getElem?_eq_some_iff.1 hx).1) x s l hx hs⟩;have h0:=hI.start.2 0
  have hs:(b9 bd).getD 0 none=some ([],bd.locals):=by
   unfold b9;simp[List.getD,hbd.len.1]
  rw[hs]at h0
  cases ht:W.1.getD 0 none with
  |none=>rw[ht]at h0;exact h0.elim
  |some s0=>rw[ht]at h0;exact⟨s0,getD_some.1 ht,h0⟩
 ·exact fun H hG=>(hL H hG).2
theorem uA.none {im:Img} (hW:WfI im) {bd:Bod} (hbd:WfB im.classes im.sigs bd) {W:Wn} (hL:uA im bd W) (hf:W.2.2=true):cZ im bd=none:=by
 apply qO hW hbd
 intro H hG;have:=(hL H hG).1;rw[hf]at this
 cases this
def bE (cs:List Cls) (gs:List Sig) (b:Bod) (x:Ins):List UInt8:=
 if x.op.toNat=115∨x.op.toNat=100 then [45]else if x.op.toNat=101 then [38,38]else if x.op.toNat=120 then [38]else bA cs gs b x
def eK (cs:List Cls) (a c:UInt8):Bool:=if c.toNat=38 then isR a else bv cs a c
def iF (cs:List Cls) (st asked:List UInt8):Bool:=decide (asked.length≤st.length)&&(List.range asked.length).all fun i=>eK cs (st.getD (st.length-asked.length+i) 0) (asked.getD i 0)
def dc (cs:List Cls) (gs:List Sig) (x:Ins) (lo:List UInt8):List UInt8:=if x.op.toNat=108 then [lo.getD x.b 0]else bC cs gs x
def lY (cs:List Cls) (gs:List Sig) (b:Bod) (x:Ins) (st lo:List UInt8):Option (List UInt8×List UInt8):=
 if iF cs st (bE cs gs b x)=false∨(x.op.toNat=108∧(lo.getD x.b 0).toNat=45)then none else
 some (st.take (st.length-(bE cs gs b x).length)++dc cs gs x lo,if x.op.toNat=115 then lo.set x.b (st.getD (st.length-1) 0)else lo)
theorem wO {cs:List Cls} {st:List UInt8} {c:UInt8}:iF cs st [c]=(decide (1≤st.length)&&eK cs (st.getD (st.length-1) 0) c):=by
 simp[iF,List.range_succ]
theorem AX {cs:List Cls} {st:List UInt8} {c d:UInt8}:iF cs st [c,d]=(decide (2≤st.length)&&(eK cs (st.getD (st.length-2) 0) c&&eK cs (st.getD (st.length-2+1) 0) d)):=by
 simp[iF,List.range_succ]
theorem uB {cs:List Cls} {st wa:List UInt8} (h: ∀c∈wa,c.toNat≠38):iF cs st wa=cr cs st wa:=by
 unfold iF cr
 congr 1
 rw[Bool.eq_iff_iff];simp only[List.all_eq_true,List.mem_range]
 have key: ∀i,i<wa.length→eK cs (st.getD (st.length-wa.length+i) 0) (wa.getD i 0)=bv cs (st.getD (st.length-wa.length+i) 0) (wa.getD i 0):=by
  intro i hi;unfold eK;rw[if_neg];have:wa.getD i 0=wa[i]:=by simp[List.getD,hi]
  rw[this];exact h _ (List.getElem_mem hi)
 exact⟨fun hh i hi=>by rw[←key i hi];exact hh i hi,fun hh i hi=>by rw[key i hi];exact hh i hi⟩
theorem qU {cs:List Cls} {gs:List Sig} {b:Bod} {x:Ins} {st lo:List UInt8} (hp: ∀c∈bA cs gs b x,c.toNat≠38):df cs gs b x st lo=lY cs gs b x st lo:=by
 have top: ∀a:UInt8,eK cs a 45=true:=fun a=>by unfold eK;rw[if_neg (by decide)];exact aO.2 (Or.inr (Or.inl rfl))
 have ref: ∀a:UInt8,eK cs a 38=isR a:=fun a=>by unfold eK;rw[if_pos (by decide)]
 unfold df lY bE dc
 by_cases h115:x.op.toNat=115
 ·rw[if_pos (Or.inl h115),if_pos (Or.inl h115),wO,top,Bool.and_true];simp only[h115,cP]
  by_cases hl:st.length<1
  ·simp[hl]
  ·have:1≤st.length:=by omega
   simp[this,show¬st.length<1 from hl]
 by_cases h100:x.op.toNat=100
 ·rw[if_pos (Or.inr (Or.inl h100)),if_pos (Or.inr h100),wO,top,Bool.and_true];simp only[h100,cP]
  by_cases hl:st.length<1
  ·simp[hl]
  ·have:1≤st.length:=by omega
   simp[this,show¬st.length<1 from hl]
 have a0: ¬(x.op.toNat=115∨x.op.toNat=100):=by omega
 by_cases h101:x.op.toNat=101
 ·rw[if_pos (Or.inr (Or.inr (Or.inl h101))),if_neg a0,if_pos h101,AX,ref,ref];simp only[h101,cP,if_true]
  by_cases hl:st.length<2
  ·simp[hl,show¬2≤st.length by omega]
  ·have h2:2≤st.length:=by omega
   have e:st.length-2+1=st.length-1:=by omega
   rw[e]
   cases h3:isR (st.getD (st.length-1) 0)<;>cases h4:isR (st.getD (st.length-2) 0)<;>simp[hl,h2,h3,h4]
 by_cases h120:x.op.toNat=120
 ·rw[if_pos (Or.inr (Or.inr (Or.inr h120))),if_neg a0,if_neg h101,if_pos h120,wO,ref];simp only[h120,cP]
  by_cases hl:st.length<1
  ·simp[hl,show¬1≤st.length by omega]
  ·have h2:1≤st.length:=by omega
   cases h3:isR (st.getD (st.length-1) 0)<;>simp[hl,h2,h3]
 have a1: ¬(x.op.toNat=115∨x.op.toNat=100∨x.op.toNat=101∨x.op.toNat=120):=by omega
 rw[if_neg a1,if_neg a0,if_neg h101,if_neg h120,uB hp]
 by_cases h108:x.op.toNat=108
 ·have a2:bA cs gs b x=[]:=by
   unfold bA;simp[h108,arith]
  rw[if_pos h108,a2];simp only[h108,if_true,true_and];have hf:cr cs st []=true:=by simp[cr]
  rw[hf];simp
 ·rw[if_neg h108,if_neg h108];simp only[h108,false_and,or_false]
  cases cr cs st (bA cs gs b x)<;>simp[h115]
theorem qV {im:Img} (hW:WfI im) {bd:Bod} (hbd:WfB im.classes im.sigs bd) {x:Ins} (hx:WfX im.classes im.sigs.length bd.locals.length x): ∀c∈bA im.classes im.sigs bd x,okT im.classes.length c=true:=by
 intro c hc
 have a1: ∀a,a<im.classes.length→okT im.classes.length (b8 a)=true:=by
  intro a ha;have:=hW.nc;rw[cR]
  right;left
  have h1:(b8 a).toNat=65+a:=by simp[b8];omega
  omega
 have a0:okT im.classes.length 105=true:=by simp[cR]
 have a3:x.op.toNat=112→okT im.classes.length (bT im.classes x.a x.b)=true:=by
  intro h;have h1:=hx.cls (by omega);have h2:=hx.fld (by omega);obtain⟨cl,a1⟩: ∃cl,im.classes[x.a]?=some cl:=⟨_,List.getElem?_eq_getElem h1⟩;unfold bT;rw[a1];simp only[bU,a1]at h2;simp only[Option.map_some,Option.getD_some]at h2⊢;have hf:=hW.cls x.a cl a1
  have hm:cl.fields.getD x.b 0∈cl.fields:=by
   have:cl.fields.getD x.b 0=cl.fields[x.b]'(by simpa using h2):=by simp[List.getD,h2]
   rw[this];exact List.getElem_mem _
  exact gd (eH (by omega) (hf.2.2.2 _ hm))
 have a2:x.op.toNat=99→okT im.classes.length (fW im.sigs x.b)=true:=by
  intro h;obtain⟨g,hg⟩: ∃g,im.sigs[x.b]?=some g:=⟨_,List.getElem?_eq_getElem (hx.sig h)⟩;unfold fW;rw[hg];exact gd (hW.sig g (List.mem_of_getElem? hg)).1
 have a4: ¬bd.cls<0→okT im.classes.length (dR im.sigs bd.meth.toNat)=true:=by
  intro h;rcases hbd.cls with h1|h1
  ·omega
  ·obtain⟨g,hg⟩: ∃g,im.sigs[bd.meth.toNat]?=some g:=⟨_,List.getElem?_eq_getElem (by omega)⟩;unfold dR;rw[hg];exact gd (hW.sig g (List.mem_of_getElem? hg)).2
 unfold bA at hc
 split at hc
 ·simp at hc;subst hc;exact a0
 split at hc
 ·simp at hc;subst hc;exact a0
 split at hc
 ·rename_i h;simp at hc;subst hc;exact a1 _ (hx.cls (by omega))
 split at hc
 ·rename_i h
  simp at hc;rcases hc with rfl|rfl
  ·exact a1 _ (hx.cls (by omega))
  ·exact a3 h
 split at hc
 ·rename_i h
  simp at hc;rcases hc with rfl|rfl
  ·exact a1 _ (hx.cls (by omega))
  ·exact a2 h
 split at hc
 ·split at hc
  ·simp at hc;subst hc;exact a0
  ·rename_i h;simp at hc;subst hc;exact a4 h
 ·simp at hc
theorem uC {im:Img} (hW:WfI im) {bd:Bod} (hbd:WfB im.classes im.sigs bd) {x:Ins} (hx:WfX im.classes im.sigs.length bd.locals.length x) (st lo:List UInt8):df im.classes im.sigs bd x st lo=lY im.classes im.sigs bd x st lo:=
 qU (fun c hc=>by have:=qV hW hbd hx c hc;rw[cR]at this;have:=hW.nc;omega)
end
end Go.Proofs.YtpfkkmacakjmbaaGreatDoor
