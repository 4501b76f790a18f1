import Derived.Test.YtpfkkmacakjmbaaGreatDoorP05
import Derived.Lib.ItoaLen
import Derived.Test.YtpfkkmacakjmbaaGreatDoorP04
set_option maxRecDepth 100000
set_option maxHeartbeats 6400000
set_option linter.unusedSimpArgs false
set_option linter.unusedVariables false
namespace Go.Proofs.YtpfkkmacakjmbaaGreatDoor
namespace Sp
def VT (cs:List Cls) (hp:List Ob) (t:UInt8):V→Prop
 | .i n=>t.toNat=105∧ -2147483648≤n∧n<2147483648
 | .z=>isR t=true
 | .o k=>isC t=true∧ ∃ob,hp[k]?=some ob∧bO cs 5 ob.cls ((t.toNat:Int)-65)=true
structure HT (cs:List Cls) (hp:List Ob):Prop where
 cls: ∀(k:Nat) ob,hp[k]?=some ob→ob.cls<cs.length
 len: ∀(k:Nat) ob,hp[k]?=some ob→ob.fs.length=(bj cs ob.cls).length
 fs: ∀(k:Nat) ob (j:Nat) v,hp[k]?=some ob→ob.fs[j]?=some v→VT cs hp ((bj cs ob.cls).getD j 0) v
structure LT (cs:List Cls) (hp:List Ob) (lo:List UInt8) (l:List V):Prop where
 len:l.length=lo.length
 at': ∀(j:Nat) v,l[j]?=some v→VT cs hp (lo.getD j 0) v
def Ext (hp hp':List Ob):Prop:=hp.length≤hp'.length∧ ∀(k:Nat) ob,hp[k]?=some ob→ ∃ob',hp'[k]?=some ob'∧ob'.cls=ob.cls
theorem Ext.refl (hp:List Ob):Ext hp hp:=⟨Nat.le_refl _,fun _ ob h=>⟨ob,h,rfl⟩⟩
theorem Ext.trans {a b c:List Ob} (h:Ext a b) (k:Ext b c):Ext a c:=⟨Nat.le_trans h.1 k.1,fun i ob hi=>by
 obtain⟨a0,h1,e1⟩:=h.2 i ob hi;obtain⟨a1,h2,e2⟩:=k.2 i a0 h1;exact⟨a1,h2,e2.trans e1⟩⟩
theorem VT.ext {cs:List Cls} {hp hp':List Ob} {t:UInt8} {v:V} (h:VT cs hp t v) (he:Ext hp hp'):VT cs hp' t v:=by
 cases v with
 |i n=>exact h
 |z=>exact h
 |o k=>
  obtain⟨h1,ob,h2,h3⟩:=h;obtain⟨ob',h4,h5⟩:=he.2 k ob h2;exact⟨h1,ob',h4,by rw[h5];exact h3⟩
theorem LT.ext {cs:List Cls} {hp hp':List Ob} {lo:List UInt8} {l:List V} (h:LT cs hp lo l) (he:Ext hp hp'):LT cs hp' lo l:=⟨h.len,fun j v hv=>(h.at' j v hv).ext he⟩
theorem bR {c:UInt8} (h:isC c=true):isR c=true:=by simp[isR,h]
theorem VT.sub {cs:List Cls} {hp:List Ob} (hw:WfC cs) (hn:cs.length≤4) (hh:HT cs hp) {t t':UInt8} {v:V} (h:VT cs hp t v) (hs:bP cs t t'=true) (h45:t'.toNat≠45):VT cs hp t' v:=by
 rcases aU.1 hs with h1|h1| ⟨h1,h2⟩ | ⟨h1,h2,h3⟩
 ·subst h1;exact h
 ·exact absurd h1 h45
 ·cases v with
  |i n=>exact absurd h.1 (by omega)
  |z=>exact bR h1
  |o k=>have:=bL.1 h.1;omega
 ·cases v with
  |i n=>have:=bL.1 h1;have:=h.1;omega
  |z=>exact bR h2
  |o k=>
   obtain⟨_,ob,h5,h6⟩:=h;have:=hh.cls k ob h5;exact⟨h2,ob,h5,vn hw 4 (by omega) (by omega) h6 h3⟩
theorem VT.int {cs:List Cls} {hp:List Ob} {t:UInt8} {v:V} (h:VT cs hp t v) (ht:t.toNat=105): ∃n,v= .i n∧ -2147483648≤n∧n<2147483648:=by
 cases v with
 |i n=>exact⟨n,rfl,h.2⟩
 |z=>have h:isR t=true:=h;simp[isR,isC,ht]at h
 |o k=>have:=bL.1 h.1;omega
theorem VT.ref {cs:List Cls} {hp:List Ob} {t:UInt8} {v:V} (h:VT cs hp t v) (ht:isR t=true):v= .z∨ ∃k ob,v= .o k∧hp[k]?=some ob∧isC t=true∧bO cs 5 ob.cls ((t.toNat:Int)-65)=true:=by
 cases v with
 |i n=>have:=h.1;simp[isR,isC,this]at ht
 |z=>exact Or.inl rfl
 |o k=>obtain⟨h1,ob,h2,h3⟩:=h;exact Or.inr ⟨k,ob,rfl,h2,h1,h3⟩
theorem uf {n:Nat} (hn:n≤4) {c:UInt8} (h:cG n c=true):c.toNat=105∨isC c=true:=by
 simp[cG,aO]at h;rcases h with h|h
 ·exact Or.inl h
 ·exact Or.inr (bL.2 (by omega))
theorem gW {n:Nat} {c:UInt8} (h:cG n c=true):c.toNat≠45:=by
 simp[cG,aO]at h;omega
theorem iD {cs:List Cls} {hp:List Ob} {n:Nat} (hn:n≤4) {c:UInt8} (h:cG n c=true):VT cs hp c (cC c):=by
 unfold cC;rcases uf hn h with h1|h1
 ·rw[if_pos h1];exact⟨h1,by omega,by omega⟩
 ·rw[if_neg (by have:=bL.1 h1;omega)];exact bR h1
theorem dC {a:Nat} (h:a<4):isC (cL a)=true∧((cL a).toNat:Int)-65=a:=by
 match a,h with
 |0,_=>exact⟨by decide,by decide⟩
 |1,_=>exact⟨by decide,by decide⟩
 |2,_=>exact⟨by decide,by decide⟩
 |3,_=>exact⟨by decide,by decide⟩
theorem lW (n:Int): -2147483648≤w32 n∧w32 n<2147483648:=by
 unfold w32 RowKit.wrap32;omega
theorem nW (op:Nat) (a b:Int): -2147483648≤tK op a b∧tK op a b<2147483648:=by
 unfold tK
 repeat' split
 all_goals first|exact lW _|omega
theorem mz (s:ByteArray) (i:Nat): -2147483648≤jc s i∧jc s i<2147483648:=by
 unfold jc
 split
 ·rename_i h;have:=s[i].toNat_lt;omega
 ·omega
theorem qA {t:List Ins} {g:Nat→Option UInt8} {k:Nat} {ts:List UInt8} (h:bQ t g 1 k=some ts): ∃a,g k=some a∧ts=[a]:=by
 simp only[bQ]at h
 cases ha:g k with
 |none=>rw[ha]at h;cases h
 |some a=>rw[ha]at h;simp at h;exact⟨a,rfl,h.symm⟩
theorem lu {t:List Ins} {g:Nat→Option UInt8} {k:Nat} {ts:List UInt8} (h:bQ t g 2 k=some ts): ∃a b,g k=some a∧g (bu t k)=some b∧ts=[a,b]:=by
 rw[bQ]at h
 cases ha:g k with
 |none=>rw[ha]at h;cases h
 |some a=>
  rw[ha]at h;simp only[Option.map_eq_some_iff]at h;obtain⟨us,hu,rfl⟩:=h;obtain⟨b,hb,rfl⟩:=qA hu;exact⟨a,b,rfl,hb,rfl⟩
theorem qB {t:List Ins} {g:Nat→Option UInt8} {k:Nat} {ts:List UInt8} (h:bQ t g 3 k=some ts): ∃a b c,g k=some a∧g (bu t k)=some b∧g (bu t (bu t k))=some c∧ts=[a,b,c]:=by
 rw[bQ]at h
 cases ha:g k with
 |none=>rw[ha]at h;cases h
 |some a=>
  rw[ha]at h;simp only[Option.map_eq_some_iff]at h;obtain⟨us,hu,rfl⟩:=h;obtain⟨b,c,hb,hc,rfl⟩:=lu hu;exact⟨a,b,c,rfl,hb,hc,rfl⟩
theorem sd {cs:List Cls} {a b:UInt8} (h:dJ cs [a] [b]=true):bP cs a b=true:=by
 simpa[dJ,List.range,List.range.loop]using h
theorem si {cs:List Cls} {a b c d:UInt8} (h:dJ cs [a,b] [c,d]=true):bP cs a c=true∧bP cs b d=true:=by
 simpa[dJ,List.range,List.range.loop]using h
theorem wI {bs:List Bod} {x m:Int} (h:0≤mK bs x m): ∃b,bs[(mK bs x m).toNat]?=some b∧b.cls=x∧b.meth=m:=by
 unfold mK at*
 cases ho:mY bs x m with
 |none=>rw[ho]at h;simp at h
 |some j=>
  simp;unfold mY at ho;rw[List.findIdx?_eq_some_iff_getElem]at ho;obtain⟨hj,h1,_⟩:=ho;simp at h1;exact⟨bs[j],List.getElem?_eq_getElem hj,h1.1,h1.2⟩
theorem nX {cs:List Cls} {bs:List Bod} {m:Int}: ∀{f:Nat} {x:Int},0≤cE cs bs m f x→ ∃b,bs[(cE cs bs m f x).toNat]?=some b∧b.meth=m∧bO cs f x b.cls=true∧0≤b.cls:=by
 intro f
 induction f with
 |zero=>intro x h;simp[cE]at h
 |succ f ih=>
  intro x h;simp only[cE]at h⊢
  by_cases hx:x<0
  ·rw[if_pos hx]at h;simp at h
  ·rw[if_neg hx]at h⊢
   by_cases ho:0≤mK bs x m
   ·rw[if_pos ho];obtain⟨b,h1,h2,h3⟩:=wI ho;exact⟨b,h1,h3,by simp[bO,hx,h2],by omega⟩
   ·rw[if_neg ho]at h⊢;obtain⟨b,h1,h2,h3,h4⟩:=ih h;refine⟨b,h1,h2,?_,h4⟩;simp only[bO];rw[if_neg hx]
    split
    ·rfl
    ·exact h3
theorem ug {cs:List Cls} {bs:List Bod} {m:Int} (hw:WfC cs): ∀{f:Nat} {x:Int},x<f→cE cs bs m f x=cE cs bs m (f+1) x:=by
 intro f
 induction f with
 |zero=>intro x hx;simp[cE];intro h;omega
 |succ f ih=>
  intro x hx;rw[cE]
  conv=>rhs;rw[cE]
  split
  ·rfl
  ·split
   ·rfl
   ·exact ih (by have:=dh hw (p:=x) (by omega);omega)
theorem jK {cs:List Cls} {bs:List Bod} {m:Int} (hw:WfC cs): ∀(k:Nat) {x y:Int},x≤k→k≤4→bO cs 5 x y=true→0≤cE cs bs m 5 y→0≤cE cs bs m 5 x:=by
 intro k
 induction k with
 |zero=>
  intro x y hx hk h hf;have:=tO hw 0 hx hk h;have:x=y:=by omega
  subst this;exact hf
 |succ k ih=>
  intro x y hx hk h hf;have h0:=tO hw (k+1) hx hk h;rcases(eu hw (by omega) (by omega)).1 h with h1|h1
  ·subst h1;exact hf
  ·have hp:=dh hw (p:=x) (by omega);have h2:=ih (x:=cR cs x) (by omega) (by omega) h1 hf;rw[cE];rw[if_neg (by omega)]
   split
   ·assumption
   ·rw[ug hw (by omega)];exact h2
variable {B:Nat}
structure StT (im:Img) (B:Nat) (s:Ev):Prop where
 ht:HT im.classes s.heap
 cap:s.heap.length+s.left≤4000
 outn:s.out.length+22*s.left≤B
 bb:B≤88000
 rd:s.read+s.left≤4000
structure dz (im:Img):Prop where
 wf:gH im
 we:WfE im
 lk: ∀b∈im.bodies,∀x∈b.code,x.op.toNat=99→0≤cE im.classes im.bodies x.b 5 x.a
 ty: ∀b∈im.bodies,dR im b=true
def eQ (im:Img) (B:Nat) (lo:List UInt8) (t:UInt8) (s0:Ev) (n:Nat):R→Prop
 | .bad e o=>5≤e∧e≤10∧o.length≤88000
 | .ok v l s=>VT im.classes s.heap t v∧LT im.classes s.heap lo l∧StT im B s∧Ext s0.heap s.heap∧s.left≤n
theorem StT.o {im:Img} {s:Ev} (h:StT im B s):s.out.length≤88000:=by have:=h.outn;have:=h.bb;omega
theorem StT.mono {im:Img} {B':Nat} {s:Ev} (h:StT im B s) (hb:B≤B') (hb2:B'≤88000):StT im B' s:=⟨h.ht,h.cap,by have:=h.outn;omega,hb2,h.rd⟩
theorem eQ.bad' {im:Img} {lo:List UInt8} {t:UInt8} {s0 s:Ev} {n e:Nat} (h:StT im B s) (h1:5≤e) (h2:e≤10):eQ im B lo t s0 n (.bad e s.out):=⟨h1,h2,h.o⟩
theorem dz.cls4 {im:Img} (h:dz im):im.classes.length≤4:=h.wf.nc
theorem fN {cs:List Cls} {a k:Nat}:cA cs a k=(bj cs a).getD k 0:=rfl
theorem sj {im:Img} (h:dz im) {a k:Nat} (ha:a<im.classes.length) (hk:k<cF im.classes a):cG im.classes.length (cA im.classes a k)=true:=by
 have h1:=h.wf.cls a _ (List.getElem?_eq_getElem ha);have e:bj im.classes a=im.classes[a].fields:=by simp[bj,ha]
 rw[fN,e];have a0:k<im.classes[a].fields.length:=by unfold cF at hk;simpa[ha]using hk
 rw[List.getD_eq_getElem?_getD,List.getElem?_eq_getElem a0];exact ez (by omega) (h1.2.2.2 _ (List.getElem_mem a0))
theorem sm {im:Img} {inp:ByteArray} (h:dz im) {b:Bod} (hb:ki im.classes im.sigs b) {x:Ins} (hx:WfN im.classes im.sigs.length b.locals.length x) (hx0:az x.op=0) {t:UInt8} (ht:br im.classes im.sigs b.locals x []=some t) {l:List V} {s s0:Ev} (hl:LT im.classes s.heap b.locals l) (hs:StT im B s) (hc:s.heap.length+s.left+1≤4000) (hr:s.read+s.left+1≤4000) (he:Ext s0.heap s.heap) {n:Nat} (hn:s.left≤n):eQ im B b.locals t s0 n (ef im inp x l s):=by
 have h4:=h.cls4;have ho:=hx.op
 have hg:t=bE im.classes im.sigs b.locals x∧x.op.toNat≠103∧x.op.toNat≠99:=by
  unfold az at hx0
  split at hx0
  ·omega
  ·split at hx0
   ·omega
   ·split at hx0
    ·omega
    ·rename_i h1 h2 h3
     simp at h1 h2 h3;unfold br cH arith at ht;simp[h1,h2,h3]at ht;exact⟨ht.symm,by omega,by omega⟩
 obtain⟨rfl,a0,a5⟩:=hg;unfold ef bE
 by_cases h114:x.op.toNat=114
 ·simp only[h114,if_true,if_false,Nat.reduceEqDiff];exact⟨⟨by decide,mz _ _⟩,hl,⟨hs.ht,hs.cap,hs.outn,hs.bb,by have:=hs.rd;simp;omega⟩,he,hn⟩
 by_cases h122:x.op.toNat=122
 ·simp only[h122,if_true,if_false,Nat.reduceEqDiff];exact⟨show isR 122=true by decide,hl,hs,he,hn⟩
 by_cases h108:x.op.toNat=108
 ·simp only[h108,if_true,if_false,Nat.reduceEqDiff];have a7:=hx.loc (Or.inl h108);have a3:x.b<l.length:=by rw[hl.len];exact a7
  refine⟨?_,hl,hs,he,hn⟩;rw[List.getD_eq_getElem?_getD (l:=l),List.getElem?_eq_getElem a3];exact hl.at' _ _ (List.getElem?_eq_getElem a3)
 by_cases h110:x.op.toNat=110
 ·simp only[h110,if_true,if_false,Nat.reduceEqDiff];have a4:=hx.cls (Or.inl h110);obtain⟨hC,a6⟩:=dC (a:=x.a) (by omega);have a2:Ext s.heap (s.heap++ [⟨x.a,cq im.classes x.a⟩]):=⟨by simp,fun k ob hk=>⟨ob,by rw[List.getElem?_append_left (List.getElem?_eq_some_iff.1 hk).1];exact hk,rfl⟩⟩
  have a1: ∀(k:Nat) ob,(s.heap++ [⟨x.a,cq im.classes x.a⟩])[k]?=some ob→s.heap[k]?=some ob∨ob=⟨x.a,cq im.classes x.a⟩:=fun k ob hk=>by
   rcases Nat.lt_or_ge k s.heap.length with hl|hl
   ·rw[List.getElem?_append_left hl]at hk;exact Or.inl hk
   ·rw[List.getElem?_append_right hl]at hk
    cases hq:k-s.heap.length with
    |zero=>rw[hq]at hk;simp at hk;exact Or.inr hk.symm
    |succ q=>rw[hq]at hk;simp at hk
  refine⟨⟨hC,⟨x.a,cq im.classes x.a⟩,by simp,by rw[a6];exact nj h.wf.cls (by omega)⟩,hl.ext a2,⟨⟨?_,?_,?_⟩,by simp;omega,hs.outn,hs.bb,hs.rd⟩,he.trans a2,hn⟩
  ·intro k ob hk;rcases a1 k ob hk with h1|h1
   ·exact hs.ht.cls k ob h1
   ·subst h1;exact a4
  ·intro k ob hk;rcases a1 k ob hk with h1|h1
   ·exact hs.ht.len k ob h1
   ·subst h1;simp[cq]
  ·intro k ob j v hk hv;rcases a1 k ob hk with h1|h1
   ·exact(hs.ht.fs k ob j v h1 hv).ext a2
   ·subst h1;simp only[cq,List.getElem?_map,Option.map_eq_some_iff]at hv;obtain⟨c,hc,rfl⟩:=hv;have hj:=(List.getElem?_eq_some_iff.1 hc).1;have e:(bj im.classes x.a).getD j 0=c:=by rw[List.getD_eq_getElem?_getD,hc];rfl
    simp only[e];refine iD h4 ?_;have:=sj h (a:=x.a) (k:=j) a4 (by unfold cF;exact hj);rw[fN,e]at this;exact this
 ·simp only[h114,h122,h108,h110,a0,a5,if_false];exact⟨⟨by decide,by omega,by have:=hx.num;omega⟩,hl,hs,he,hn⟩
theorem Ev.at {s:Ev} {k:Nat} {ob:Ob} (h:s.heap[k]?=some ob):s.cls k=ob.cls∧s.fs k=ob.fs:=by simp[Ev.cls,Ev.fs,h]
theorem lw {im:Img} (h:dz im) {s:Ev} (hs:StT im B s) {a j k:Nat} {ob:Ob} (ha:a<im.classes.length) (hj:j<cF im.classes a) (hk:s.heap[k]?=some ob) (hu:bO im.classes 5 ob.cls a=true):
  j<ob.fs.length∧(bj im.classes ob.cls).getD j 0=cA im.classes a j:=by
 have h4:=h.cls4;have hc:=hs.ht.cls k ob hk;have hp:=kX h.wf.cls h.we.fld 4 (x:=ob.cls) (y:=a) (by omega) (by omega) (by omega) hu;simp only[Int.toNat_natCast]at hp;obtain⟨u,hu⟩:=hp;have a0:j<(bj im.classes a).length:=hj;refine⟨by rw[hs.ht.len k ob hk,←hu];simp;omega,?_⟩;rw[←hu,fN,List.getD_eq_getElem?_getD,List.getD_eq_getElem?_getD,List.getElem?_append_left a0]
theorem uh {im:Img} (h:dz im) {b:Bod} (hb:ki im.classes im.sigs b) {x:Ins} (hx:WfN im.classes im.sigs.length b.locals.length x) (hx1:az x.op=1) {t a:UInt8} (ht:br im.classes im.sigs b.locals x [a]=some t) {v:V} {l:List V} {s s0:Ev} (hv:VT im.classes s.heap a v) (hl:LT im.classes s.heap b.locals l) (hs:StT im B s) (ho1:s.out.length+22*s.left+22≤B) (he:Ext s0.heap s.heap) {n:Nat} (hn:s.left≤n):eQ im B b.locals t s0 n (fV im x v l s):=by
 have h4:=h.cls4
 have a4:x.op.toNat=115∨x.op.toNat=103∨x.op.toNat=120∨x.op.toNat=119:=by
  unfold az at hx1
  split at hx1
  ·omega
  ·split at hx1
   ·omega
   ·split at hx1
    ·rename_i h3;simpa using h3
    ·omega
 unfold fV;rcases a4 with h1|h1|h1|h1
 ·have a1:=hx.loc (Or.inr h1);simp[br,cH,bE,arith,h1]at ht;obtain⟨hf,rfl⟩:=ht;have a5:=hb.loc.2 _ (List.getElem_mem a1);have e:b.locals.getD x.b 0=b.locals[x.b]:=by rw[List.getD_eq_getElem?_getD,List.getElem?_eq_getElem a1];rfl
  have a0:=hv.sub h.wf.cls h4 hs.ht (t':=b.locals.getD x.b 0) (sd (by simpa using hf)) (by rw[e];exact gW a5);simp only[h1,if_true];refine⟨⟨by decide,by omega,by omega⟩,⟨by simp[hl.len],fun j w hw=> ?_⟩,hs,he,hn⟩;rw[List.getElem?_set]at hw
  split at hw
  ·rename_i hj
   subst hj
   split at hw
   ·cases hw;exact a0
   ·cases hw
  ·exact hl.at' j w hw
 ·have a3:=hx.cls (by omega);have a1:=hx.fld (by omega);simp[br,cH,bE,arith,h1]at ht;obtain⟨hf,rfl⟩:=ht;obtain⟨hC,a2⟩:=dC (a:=x.a) (by omega);have a0:=hv.sub h.wf.cls h4 hs.ht (t':=cL x.a) (sd (by simpa using hf)) (by have:=bL.1 hC;omega);simp only[h1,if_false,Nat.reduceEqDiff];rcases a0.ref (bR hC)with rfl| ⟨k,ob,rfl,hk,_,hu⟩
  ·exact eQ.bad' hs (by omega) (by omega)
  ·rw[a2]at hu;obtain⟨g1,g2⟩:=lw h hs a3 a1 hk hu;simp only[(Ev.at hk).2];refine⟨?_,hl,hs,he,hn⟩;rw[←g2,List.getD_eq_getElem?_getD (l:=ob.fs),List.getElem?_eq_getElem g1];exact hs.ht.fs k ob x.b _ hk (List.getElem?_eq_getElem g1)
 ·have a3:=hx.cls (by omega);simp[br,cH,bE,arith,h1]at ht;obtain⟨hf,rfl⟩:=ht;obtain⟨hC,a2⟩:=dC (a:=x.a) (by omega);simp only[h1,if_true,if_false,Nat.reduceEqDiff];rcases hv.ref hf with rfl| ⟨k,ob,rfl,hk,_,hu⟩
  ·exact⟨bR hC,hl,hs,he,hn⟩
  ·simp only[(Ev.at hk).1]
   split
   ·rename_i hu'
    exact⟨⟨hC,ob,hk,by rw[a2];exact hu'⟩,hl,hs,he,hn⟩
   ·exact eQ.bad' hs (by omega) (by omega)
 ·simp[br,cH,bE,arith,h1]at ht;obtain⟨hf,rfl⟩:=ht;have a0:=hv.sub h.wf.cls h4 hs.ht (t':=105) (sd (by simpa using hf)) (by decide);obtain⟨m,rfl,hm⟩:=a0.int (by decide);simp only[h1,if_true,if_false,Nat.reduceEqDiff];have hi:=Lib.itoa_length_le m (by omega) (by omega);exact⟨⟨by decide,by omega,by omega⟩,hl,⟨hs.ht,hs.cap,by simp[Ev.say,V.N];omega,hs.bb,hs.rd⟩,he,hn⟩
theorem qC {im:Img} {op:Nat} {lo:List UInt8} {a b:Int} {l:List V} {s s0:Ev} (hl:LT im.classes s.heap lo l) (hs:StT im B s) (he:Ext s0.heap s.heap) {n:Nat} (hn:s.left≤n):eQ im B lo 105 s0 n (cX op a b l s):=by
 unfold cX
 split
 ·split
  ·exact eQ.bad' hs (by omega) (by omega)
  ·exact⟨⟨by decide,lW _⟩,hl,hs,he,hn⟩
 ·exact⟨⟨by decide,nW _ _ _⟩,hl,hs,he,hn⟩
theorem wJ {im:Img} {s:Ev} (hs:StT im B s) {k j:Nat} {v:V} {ob:Ob} (hk:s.heap[k]?=some ob) (hv:VT im.classes s.heap ((bj im.classes ob.cls).getD j 0) v):StT im B (s.put k j v)∧Ext s.heap (s.put k j v).heap:=by
 have a2:=(List.getElem?_eq_some_iff.1 hk).1;have e:(s.put k j v).heap=s.heap.set k ⟨ob.cls,ob.fs.set j v⟩:=by simp[Ev.put,(Ev.at hk).1,(Ev.at hk).2]
 have a1: ∀(i:Nat) ob',(s.put k j v).heap[i]?=some ob'→(i=k∧ob'=⟨ob.cls,ob.fs.set j v⟩)∨s.heap[i]?=some ob':=fun i ob' hi=>by
  rw[e,List.getElem?_set]at hi
  split at hi
  ·rename_i h1;subst h1
   cases hi
   exact Or.inl ⟨rfl,rfl⟩
  ·exact Or.inr hi
 have a0:Ext s.heap (s.put k j v).heap:=by
  refine⟨by rw[e];simp,fun i ob' hi=> ?_⟩;rw[e,List.getElem?_set]
  split
  ·rename_i h1
   subst h1;rw[hk]at hi
   cases hi
   exact⟨⟨ob.cls,ob.fs.set j v⟩,by simp[a2],rfl⟩
  ·exact⟨ob',hi,rfl⟩
 refine⟨⟨⟨fun i ob' hi=> ?_,fun i ob' hi=> ?_,fun i ob' m w hi hw=> ?_⟩,by rw[e];simpa[Ev.put]using hs.cap,hs.outn,hs.bb,hs.rd⟩,a0⟩
 ·rcases a1 i ob' hi with⟨_,rfl⟩ |h1
  ·exact hs.ht.cls k ob hk
  ·exact hs.ht.cls i ob' h1
 ·rcases a1 i ob' hi with⟨_,rfl⟩ |h1
  ·simpa using hs.ht.len k ob hk
  ·exact hs.ht.len i ob' h1
 ·rcases a1 i ob' hi with⟨_,rfl⟩ |h1
  ·simp only[List.getElem?_set]at hw
   split at hw
   ·rename_i hm
    subst hm
    split at hw
    ·cases hw;exact hv.ext a0
    ·cases hw
   ·exact(hs.ht.fs k ob m w hk hw).ext a0
  ·exact(hs.ht.fs i ob' m w h1 hw).ext a0
variable {B:Nat}
theorem eQ.up {im:Img} {lo:List UInt8} {t:UInt8} {s0:Ev} {n B':Nat} {r:R} (h:eQ im B lo t s0 n r) (hb:B≤B') (hb2:B'≤88000):eQ im B' lo t s0 n r:=by
 cases r with
 |bad e o=>exact h
 |ok v l s=>exact⟨h.1,h.2.1,h.2.2.1.mono hb hb2,h.2.2.2.1,h.2.2.2.2⟩
theorem eQ.weaken {im:Img} {lo:List UInt8} {t:UInt8} {s0 s1:Ev} {n m:Nat} {r:R} (h:eQ im B lo t s1 n r) (he:Ext s0.heap s1.heap) (hn:n≤m):eQ im B lo t s0 m r:=by
 cases r with
 |bad e o=>exact h
 |ok v l s=>exact⟨h.1,h.2.1,h.2.2.1,he.trans h.2.2.2.1,by have:=h.2.2.2.2;omega⟩
theorem lx {im:Img} (h:dz im) {x:Ins} {s:Ev} (hs:StT im B s) {k:Nat} {ob:Ob} (hk:s.heap[k]?=some ob) (hxa:x.a<im.classes.length) (hxb:x.b<im.sigs.length) (hu:bO im.classes 5 ob.cls x.a=true) (hf:0≤cE im.classes im.bodies x.b 5 x.a) {v:V} (hv:VT im.classes s.heap (ia im.sigs x.b) v):
  0≤cE im.classes im.bodies x.b 5 (s.cls k)∧im.bodies[(cE im.classes im.bodies x.b 5 (s.cls k)).toNat]?=some (ba im x k s)∧ba im x k s∈im.bodies∧(ba im x k s).meth=x.b∧0≤(ba im x k s).cls∧2≤(ba im x k s).locals.length∧LT im.classes s.heap (ba im x k s).locals (aR (ba im x k s) [.o k,v]):=by
 have h4:=h.cls4;have hc:=hs.ht.cls k ob hk;have e1:=(Ev.at hk).1;have a4:=jK (bs:=im.bodies) (m:=x.b) h.wf.cls 4 (x:=ob.cls) (y:=x.a) (by omega) (by omega) hu hf;obtain⟨b,a1,a7,a8,a3⟩:=nX a4;have e2:ba im x k s=b:=by simp[ba,e1,a1]
 rw[e1,e2];have a2:b∈im.bodies:=List.mem_of_getElem? a1;obtain⟨t,ht⟩:=h.we.loc b a2 a3;have a5:=h.wf.bod b a2
 have b0:b.cls.toNat<4:=by
  rcases a5.cls with h1|h1
  ·omega
  ·omega
 refine⟨a4,a1,a2,a7,a3,by rw[ht];simp,?_⟩;have a0:=a5.loc.2;rw[ht]at a0⊢;have hm:b.meth.toNat=x.b:=by omega
 rw[hm];refine⟨by simp[aR,ht],fun j w hw=> ?_⟩;simp only[aR,ht,List.length_cons,List.length_nil,List.drop_succ_cons,List.drop_zero,List.cons_append,List.nil_append]at hw
 match j,hw with
 |0,hw=>
  cases hw
  obtain⟨hC,a6⟩:=dC (a:=b.cls.toNat) b0;refine⟨hC,ob,hk,?_⟩;have:((UInt8.ofNat (65+b.cls.toNat)).toNat:Int)-65=b.cls:=by have:=a6;unfold cL at this;omega
  simp only[List.getD_cons_zero];rw[this];exact a8
 |1,hw=>cases hw;simpa using hv
 |j+2,hw=>
  simp only[List.getElem?_cons_succ,List.getElem?_map,Option.map_eq_some_iff]at hw;obtain⟨c,hc,rfl⟩:=hw;have e3:(UInt8.ofNat (65+b.cls.toNat)::ia im.sigs x.b::t).getD (j+2) 0=c:=by simp[hc]
  rw[e3];exact iD h4 (a0 c (by simp[List.mem_of_getElem? hc]))
theorem yF {im:Img} (h:dz im) {k:Nat} (hk:k<im.sigs.length):cG im.classes.length (ia im.sigs k)=true∧cG im.classes.length (fm im.sigs k)=true:=by
 have:=h.wf.sig _ (List.getElem_mem hk);simpa[ia,fm,hk]using this
theorem ui {im:Img} (h:dz im) {b:Bod} (hb:ki im.classes im.sigs b) (hbm:b∈im.bodies) {x:Ins} (hx:WfN im.classes im.sigs.length b.locals.length x) (hxm:x∈b.code) (hx2:az x.op=2) (hx111:x.op.toNat≠111) {t a c:UInt8} (ht:br im.classes im.sigs b.locals x [a,c]=some t) {u v:V} {l:List V} {s s0:Ev} (hu:VT im.classes s.heap a u) (hv:VT im.classes s.heap c v) (hl:LT im.classes s.heap b.locals l) (hs:StT im B s) (he:Ext s0.heap s.heap) {n:Nat} (hn:s.left≤n)
  {call:Bod→List V→R} {d:Nat} (hcall: ∀b'∈im.bodies,∀l' t' F,bY im.classes im.sigs b'.locals b'.code F 0=some t'→LT im.classes s.heap b'.locals l'→eQ im B b'.locals t' s s.left (call b' l')):eQ im B b.locals t s0 n (eH im call d x u v l s):=by
 have h4:=h.cls4
 have b1:arith x.op.toNat=true∨x.op.toNat=101∨x.op.toNat=112∨x.op.toNat=99∨x.op.toNat=44:=by
  unfold az at hx2
  split at hx2
  ·omega
  ·split at hx2
   ·rename_i h3;simp[arith]at h3⊢;omega
   ·split at hx2<;>omega
 unfold eH;rcases b1 with h1|h1|h1|h1|h1
 ·have a7:x.op.toNat≠44∧x.op.toNat≠101∧x.op.toNat≠99∧x.op.toNat≠112∧x.op.toNat≠120∧x.op.toNat≠105∧x.op.toNat≠122∧x.op.toNat≠108∧x.op.toNat≠110∧x.op.toNat≠103:=by
   simp[arith]at h1;omega
  have b2:t=105:=by
   simp[br,cH,bE,h1,a7,hx111]at ht;exact ht.2.symm
  subst b2;simp only[a7,if_false];exact qC hl hs he hn
 ·simp[br,cH,bE,arith,h1]at ht;obtain⟨_,rfl⟩:=ht;simp only[h1,if_true,if_false,Nat.reduceEqDiff];refine⟨?_,hl,hs,he,hn⟩
  split<;>exact⟨by decide,by omega,by omega⟩
 ·have a3:=hx.cls (by omega);have a2:=hx.fld (by omega);simp[br,cH,bE,arith,h1]at ht;obtain⟨hf,rfl⟩:=ht;obtain⟨hC,a4⟩:=dC (a:=x.a) (by omega);obtain⟨f1,f2⟩:=si (by simpa using hf);have a5:=hu.sub h.wf.cls h4 hs.ht (t':=cL x.a) f1 (by have:=bL.1 hC;omega);have a6:=hv.sub h.wf.cls h4 hs.ht (t':=cA im.classes x.a x.b) f2 (gW (sj h a3 a2));simp only[h1,if_true,if_false,Nat.reduceEqDiff];rcases a5.ref (bR hC)with rfl| ⟨k,ob,rfl,hk,_,a1⟩
  ·exact eQ.bad' hs (by omega) (by omega)
  ·rw[a4]at a1;obtain⟨g1,g2⟩:=lw h hs a3 a2 hk a1;obtain⟨p1,p2⟩:=wJ hs (j:=x.b) (v:=v) hk (by rw[g2];exact a6);exact⟨⟨by decide,by omega,by omega⟩,hl.ext p2,p1,he.trans p2,hn⟩
 ·have a3:=hx.cls (by omega);have a2:=hx.sig h1;simp[br,cH,bE,arith,h1]at ht;obtain⟨hf,rfl⟩:=ht;obtain⟨hC,a4⟩:=dC (a:=x.a) (by omega);obtain⟨f1,f2⟩:=si (by simpa using hf);obtain⟨a8,b0⟩:=yF h a2;have a5:=hu.sub h.wf.cls h4 hs.ht (t':=cL x.a) f1 (by have:=bL.1 hC;omega);have a6:=hv.sub h.wf.cls h4 hs.ht (t':=ia im.sigs x.b) f2 (gW a8);simp only[h1,if_true,if_false,Nat.reduceEqDiff];rcases a5.ref (bR hC)with rfl| ⟨k,ob,rfl,hk,_,a1⟩
  ·exact eQ.bad' hs (by omega) (by omega)
  ·rw[a4]at a1;simp only
   split
   ·exact eQ.bad' hs (by omega) (by omega)
   ·obtain⟨_,_,q1,q2,q3,_,q4⟩:=lx h hs hk a3 a2 a1 (h.lk b hbm x hxm h1) a6;have a0:=h.ty _ q1;unfold dR at a0
    cases htn:bY im.classes im.sigs (ba im x k s).locals (ba im x k s).code (ba im x k s).code.length 0 with
    |none=>rw[htn]at a0;cases a0
    |some t'=>
     rw[htn]at a0;simp only at a0;rw[if_neg (by omega),q2]at a0;simp only[Int.toNat_natCast]at a0;have hr:=hcall _ q1 _ _ _ htn q4
     cases hcr:call (ba im x k s) (aR (ba im x k s) [.o k,v])with
     |bad e o=>rw[hcr]at hr;exact hr
     |ok r l' s'=>
      rw[hcr]at hr;obtain⟨r1,r2,r3,r4,r5⟩:=hr;exact⟨r1.sub h.wf.cls h4 r3.ht a0 (gW b0),hl.ext r4,r3,he.trans r4,by omega⟩
 ·simp[br,cH,bE,arith,h1]at ht;subst ht;simp only[h1,if_true];exact⟨hv,hl,hs,he,hn⟩
theorem so {im:Img} {lo:List UInt8} {c d:List V→Ev→R} {tc td:UInt8} {n:Nat} (hc: ∀l s,LT im.classes s.heap lo l→StT im B s→s.left≤n→eQ im B lo tc s s.left (c l s)) (hd: ∀l s,LT im.classes s.heap lo l→StT im B s→s.left≤n→eQ im B lo td s s.left (d l s)):
  ∀(k:Nat) (l:List V) (s:Ev),LT im.classes s.heap lo l→StT im B s→s.left≤n→eQ im B lo 105 s s.left (d7 c d k l s):=by
 intro k
 induction k with
 |zero=>intro l s _ hs _;exact eQ.bad' hs (by omega) (by omega)
 |succ k ih=>
  intro l s hl hs hn;simp only[d7];have h1:=hc l s hl hs hn
  cases hr:c l s with
  |bad e o=>rw[hr]at h1;exact h1
  |ok v l1 s1=>
   rw[hr]at h1;obtain⟨a1,a2,a3,a4,a5⟩:=h1;simp only
   split
   ·exact⟨⟨by decide,by omega,by omega⟩,a2,a3,a4,a5⟩
   ·have h2:=hd l1 s1 a2 a3 (by omega)
    cases hr2:d l1 s1 with
    |bad e o=>rw[hr2]at h2;exact h2
    |ok v2 l2 s2=>
     rw[hr2]at h2;obtain⟨b1,b2,b3,b4,b5⟩:=h2;exact(ih l2 s2 b2 b3 (by omega)).weaken (a4.trans b4) (by omega)
theorem ey {im:Img} (h:dz im) (inp:ByteArray): ∀(f B:Nat) (b:Bod) (d i:Nat) (l:List V) (s:Ev) (t:UInt8) (F:Nat),b∈im.bodies→bY im.classes im.sigs b.locals b.code F i=some t→LT im.classes s.heap b.locals l→StT im B s→s.left≤f→eQ im B b.locals t s (s.left-1) (bn im inp f b d i l s):=by
 intro f
 induction f with
 |zero=>intro B b d i l s t F hb ht hl hs hn;exact eQ.bad' hs (by omega) (by omega)
 |succ f ih=>
  intro B b d i l s t F hb ht hl hs hn;simp only[bn]
  split
  ·exact eQ.bad' hs (by omega) (by omega)
  ·rename_i h0
   cases F with
   |zero=>cases ht
   |succ F=>
    simp only[bY]at ht
    cases hx:b.code[i]? with
    |none=>rw[hx]at ht;cases ht
    |some x=>
     rw[hx]at ht;simp only at ht⊢;have b0:=h.wf.bod b hb;have d6:x∈b.code:=List.mem_of_getElem? hx;have c6:=b0.code x d6;have b6:StT im (B-22) {s with left:=s.left-1}:=⟨hs.ht,by have:=hs.cap;simp;omega,by have:=hs.outn;simp;omega,by have:=hs.bb;omega,by have:=hs.rd;simp;omega⟩;have e2:22≤B:=by have:=hs.outn;omega
     have a7:=hs.bb;have IH: ∀j l s t,bY im.classes im.sigs b.locals b.code F j=some t→LT im.classes s.heap b.locals l→StT im (B-22) s→s.left≤f→eQ im (B-22) b.locals t s s.left (bn im inp f b d j l s):=fun j l s t ht hl hs hn=>(ih (B-22) b d j l s t F hb ht hl hs hn).weaken (Ext.refl _) (by omega)
     obtain⟨ar,a0⟩: ∃ar,az x.op=ar:=⟨_,rfl⟩;have e3:ar≤3:=by rw[←a0];unfold az;split;omega;split;omega;split<;>omega
     rw[a0]at ht⊢
     cases hp:bQ b.code (bY im.classes im.sigs b.locals b.code F) ar (i+1)with
     |none=>rw[hp]at ht;cases ht
     |some ts=>
      rw[hp]at ht;simp only at ht;have e4:=hs.cap;have e7:=hs.rd;have e6:=hs.outn
      by_cases h00:ar=0
      ·subst h00;simp only[bQ]at hp
       cases hp
       rw[if_pos rfl];exact(sm h b0 c6 a0 ht (s:={s with left:=s.left-1}) hl b6 (by simp;omega) (by simp;omega) (Ext.refl _) (Nat.le_refl _)).up (by omega) a7
      ·rw[if_neg h00]
       by_cases h111:x.op.toNat=111
       ·rw[if_pos h111];have:ar=2:=by rw[←a0];simp[az,h111]
        subst this;obtain⟨t0,t1,g0,g1,rfl⟩:=lu hp;have b9:t=105:=by simp[br,cH,bE,arith,h111]at ht;exact ht.2.symm
        subst b9;exact(so (n:=f) (fun l s hl hs hn=>IH _ l s t0 g0 hl hs hn) (fun l s hl hs hn=>IH _ l s t1 g1 hl hs hn) f l {s with left:=s.left-1} hl b6 (by simp;omega)).up (by omega) a7
       ·rw[if_neg h111]
        obtain⟨t0,g0⟩: ∃t0,bY im.classes im.sigs b.locals b.code F (i+1)=some t0:=by
         rcases(by omega:ar=1∨ar=2∨ar=3)with rfl|rfl|rfl
         ·obtain⟨a,h1,_⟩:=qA hp;exact⟨a,h1⟩
         ·obtain⟨a,_,h1,_⟩:=lu hp;exact⟨a,h1⟩
         ·obtain⟨a,_,_,h1,_⟩:=qB hp;exact⟨a,h1⟩
        have h1:=ih (B-22) b d (i+1) l {s with left:=s.left-1} t0 F hb g0 hl b6 (by simp;omega)
        cases hr:bn im inp f b d (i+1) l {s with left:=s.left-1}with
        |bad e o=>rw[hr]at h1;exact h1
        |ok u l1 s1=>
         rw[hr]at h1;obtain⟨a1,a2,a3,a4,a5⟩:=h1;simp only at a4 a5⊢
         by_cases h105:x.op.toNat=105
         ·rw[if_pos h105];have:ar=3:=by rw[←a0];simp[az,h105]
          subst this;obtain⟨e0,t1,t2,a6,g1,g2,rfl⟩:=qB hp;simp[br,cH,bE,arith,h105]at ht;obtain⟨⟨_,hj⟩,rfl⟩:=ht;have e5:(iv im.classes t1 t2).toNat≠45:=by simpa using hj
          have a8:=lO h.wf.cls t1 t2
          have key: ∀j tt,bY im.classes im.sigs b.locals b.code F j=some tt→bP im.classes tt (iv im.classes t1 t2)=true→eQ im B b.locals (iv im.classes t1 t2) s (s.left-1) (bn im inp f b d j l1 s1):=fun j tt hj1 hj2=>by
           have h2:=IH j l1 s1 tt hj1 a2 a3 (by omega)
           cases hr2:bn im inp f b d j l1 s1 with
           |bad e o=>rw[hr2]at h2;exact h2
           |ok v l2 s2=>
            rw[hr2]at h2;obtain⟨b1,b2,b3,b4,b5⟩:=h2;exact⟨b1.sub h.wf.cls h.cls4 b3.ht hj2 e5,b2,b3.mono (by omega) a7,a4.trans b4,by omega⟩
          split
          ·exact key _ t2 g2 a8.2.1
          ·exact key _ t1 g1 a8.1
         ·rw[if_neg h105]
          by_cases h11:ar=1
          ·subst h11;rw[if_pos rfl];obtain⟨e0,a6,rfl⟩:=qA hp;rw[g0]at a6
           cases a6
           have:=a3.outn;exact uh h b0 c6 a0 ht a1 a2 (a3.mono (by omega) a7) (by omega) a4 (by omega)
          ·rw[if_neg h11]
           have e1:ar=2:=by
            rw[←a0];unfold az at a0⊢;rw[if_neg h105]at a0⊢
            split at a0
            ·rename_i h';rw[if_pos h']
            ·split at a0<;>omega
           subst e1;obtain⟨e0,t1,a6,g1,rfl⟩:=lu hp;rw[g0]at a6
           cases a6
           have h2:=IH _ l1 s1 t1 g1 a2 a3 (by omega)
           cases hr2:bn im inp f b d (bu b.code (i+1)) l1 s1 with
           |bad e o=>rw[hr2]at h2;exact h2
           |ok v l2 s2=>
            rw[hr2]at h2;obtain⟨b1,b2,b3,b4,b5⟩:=h2;refine eQ.up (B:=B-22) ?_ (by omega) a7
            exact ui h b0 hb c6 d6 a0 h111 ht (a1.ext b4) b1 b2 b3 (a4.trans b4) (by omega)
             (fun b' hb' l' t' F' b9 hl'=>(ih (B-22) b' (d+1) 0 l' s2 t' F' hb' b9 hl' b3 (by omega)).weaken (Ext.refl _) (by omega))
def VTm (cs:List Cls) (hp:List Ob) (t:UInt8) (v:V):Prop:=t.toNat=45∨VT cs hp t v
structure STk (cs:List Cls) (hp:List Ob) (ts:List UInt8) (vs:List V):Prop where
 len:vs.length=ts.length
 at': ∀(j:Nat) v,vs[j]?=some v→VTm cs hp (ts.getD j 0) v
section
variable {cs:List Cls} {hp hp':List Ob} {ts us:List UInt8} {vs ws:List V}
theorem VTm.ext {t:UInt8} {v:V} (h:VTm cs hp t v) (he:Ext hp hp'):VTm cs hp' t v:=h.imp_right (fun h=>h.ext he)
theorem VTm.sub (hw:WfC cs) (hn:cs.length≤4) (hh:HT cs hp) {t t':UInt8} {v:V} (h:VTm cs hp t v) (hs:bP cs t t'=true):VTm cs hp t' v:=by
 by_cases h1:t'.toNat=45
 ·exact Or.inl h1
 ·rcases h with h|h
  ·rcases aU.1 hs with h2|h2| ⟨h2,h3⟩ | ⟨h2,_⟩
   ·subst h2;exact Or.inl h
   ·exact absurd h2 h1
   ·omega
   ·have:=bL.1 h2;omega
  ·exact Or.inr (h.sub hw hn hh hs h1)
theorem STk.ext (h:STk cs hp ts vs) (he:Ext hp hp'):STk cs hp' ts vs:=⟨h.len,fun j v hv=>(h.at' j v hv).ext he⟩
theorem STk.sub (hw:WfC cs) (hn:cs.length≤4) (hh:HT cs hp) (h:STk cs hp ts vs) (hl:leL cs ts us):STk cs hp us vs:=
 ⟨h.len.trans (fG hl),fun j v hv=>(h.at' j v hv).sub hw hn hh (gj j hl)⟩
theorem STk.nil:STk cs hp [] []:=⟨rfl,fun j v h=>by simp at h⟩
theorem STk.snoc {t:UInt8} {v:V} (h:STk cs hp ts vs) (hv:VTm cs hp t v):STk cs hp (ts++ [t]) (vs++ [v]):=by
 refine⟨by simp[h.len],fun j u hj=> ?_⟩;rcases Nat.lt_or_ge j vs.length with hl|hl
 ·rw[List.getElem?_append_left hl]at hj
  have e:(ts++ [t]).getD j 0=ts.getD j 0:=by
   rw[List.getD_eq_getElem?_getD,List.getD_eq_getElem?_getD,List.getElem?_append_left (by rw[←h.len];exact hl)]
  rw[e];exact h.at' j u hj
 ·rw[List.getElem?_append_right hl]at hj
  cases hk:j-vs.length with
  |zero=>
   rw[hk]at hj;simp at hj;subst hj
   have e:(ts++ [t]).getD j 0=t:=by
    rw[List.getD_eq_getElem?_getD,List.getElem?_append_right (by rw[←h.len];exact hl),←h.len,hk];rfl
   rw[e];exact hv
  |succ k=>rw[hk]at hj;simp at hj
theorem STk.take (h:STk cs hp ts vs) (n:Nat):STk cs hp (ts.take n) (vs.take n):=by
 refine⟨by simp[h.len],fun j v hj=> ?_⟩;rw[List.getElem?_take]at hj
 split at hj
 ·rename_i hjn
  have e:(ts.take n).getD j 0=ts.getD j 0:=by simp[List.getD_eq_getElem?_getD,List.getElem?_take,hjn]
  rw[e];exact h.at' j v hj
 ·cases hj
theorem STk.set {t:UInt8} {v:V} (h:STk cs hp ts vs) (k:Nat) (hv:VTm cs hp t v):STk cs hp (ts.set k t) (vs.set k v):=by
 refine⟨by simp[h.len],fun j u hj=> ?_⟩;rw[List.getElem?_set]at hj
 split at hj
 ·rename_i hkj
  subst hkj
  split at hj
  ·rename_i hl
   cases hj
   have e:(ts.set k t).getD k 0=t:=by rw[h.len]at hl;simp[List.getD_eq_getElem?_getD,hl]
   rw[e];exact hv
  ·cases hj
 ·rename_i hkj
  have e:(ts.set k t).getD j 0=ts.getD j 0:=by simp[List.getD_eq_getElem?_getD,List.getElem?_set,hkj]
  rw[e];exact h.at' j u hj
theorem STk.get (h:STk cs hp ts vs) {k:Nat} (hk:k<ts.length):VTm cs hp (ts.getD k 0) (vs.getD k .z):=by
 have a0:k<vs.length:=by rw[h.len];exact hk
 have:=h.at' k (vs[k]) (by simp[a0]);simpa[List.getD_eq_getElem?_getD,a0]using this
theorem STk.t1 (h:STk cs hp ts vs) (hl:1≤ts.length):VTm cs hp (ts.getD (ts.length-1) 0) (cM vs):=by
 have:=h.get (k:=ts.length-1) (by omega);unfold cM;rw[h.len];exact this
theorem STk.t2 (h:STk cs hp ts vs) (hl:2≤ts.length):VTm cs hp (ts.getD (ts.length-2) 0) (jw vs):=by
 have:=h.get (k:=ts.length-2) (by omega);unfold jw;rw[h.len];exact this
theorem STk.l1 (h:STk cs hp ts vs):STk cs hp (ts.take (ts.length-1)) (cI vs):=by unfold cI;rw[h.len];exact h.take _
theorem STk.l2 (h:STk cs hp ts vs):STk cs hp (ts.take (ts.length-2)) (fY vs):=by unfold fY;rw[h.len];exact h.take _
theorem VTm.not45 {t:UInt8} {v:V} (h:VTm cs hp t v) (ht:t.toNat≠45):VT cs hp t v:=h.resolve_left ht
end
inductive jk (im:Img) (T:cw) (hp:List Ob):Bod→List Fm→Prop where
 |main (b:Bod) (hb:b.cls<0):jk im T hp b []
 |call (b:Bod) (g:Fm) (r:List Fm) (bg:Bod) (x:Ins) (s l:List UInt8) (hb:0≤b.cls) (hg:im.bodies[g.q]?=some bg) (hx:bg.code[g.pc]?=some x) (ho:x.op.toNat=99) (hm:(x.b:Int)=b.meth) (hs:gM T g.q g.pc=some (s,l)) (h2:2≤s.length) (hst:STk im.classes hp (s.take (s.length-2)) g.stk) (hlo:STk im.classes hp l g.loc) (hr:jk im T hp bg r):jk im T hp b (g::r)
theorem jk.ext {im:Img} {T:cw} {hp hp':List Ob} (he:Ext hp hp') {b:Bod} {r:List Fm} (h:jk im T hp b r):jk im T hp' b r:=by
 induction h with
 |main b hb=>exact .main b hb
 |call b g r bg x s l hb hg hx ho hm hs h2 hst hlo hr ih=>exact .call b g r bg x s l hb hg hx ho hm hs h2 (hst.ext he) (hlo.ext he) ih
structure qD (im:Img) (T:cw) (hp:List Ob) (f:Fm) (b:Bod) (x:Ins) (s l:List UInt8):Prop where
 bd:im.bodies[f.q]?=some b
 ins:b.code[f.pc]?=some x
 st:gM T f.q f.pc=some (s,l)
 stk:STk im.classes hp s f.stk
 loc:STk im.classes hp l f.loc
structure Fit (im:Img) (T:cw):Prop where
 wf:WfI im
 fld:WfF im.classes
 lc: ∀b∈im.bodies,WfL im.sigs b
 lk: ∀b∈im.bodies,∀x∈b.code,x.op.toNat=99→0≤cE im.classes im.bodies x.b 5 x.a
 len:T.length=im.bodies.length
 good: ∀(q:Nat) b t,im.bodies[q]?=some b→T[q]?=some t→mM im b t
 wt: ∀(q:Nat) b t,im.bodies[q]?=some b→T[q]?=some t→wfT im.classes.length b.locals.length b.code.length t
 main: ∃bs m,im.bodies=bs++ [m]∧m.cls= -1
structure MT (im:Img) (T:cw) (f:Fm) (rest:List Fm) (s:Ev):Prop where
 ht:HT im.classes s.heap
 top: ∃b x st l,qD im T s.heap f b x st l∧jk im T s.heap b rest
 dep:rest.length+1≤12
theorem cO {T:cw} {q pc:Nat} {t:List St} {p:List UInt8×List UInt8} (ht:T[q]?=some t):gM T q pc=some p↔t[pc]?=some (some p):=by
 unfold gM;rw[ht];simp only[Option.getD_some]
 cases h:t[pc]? with
 |none=>simp
 |some o=>simp
theorem Fit.tab {im:Img} {T:cw} (h:Fit im T) {q:Nat} {b:Bod} (hb:im.bodies[q]?=some b): ∃t,T[q]?=some t∧mM im b t:=by
 have hl:=(List.getElem?_eq_some_iff.1 hb).1;have h1:=List.getElem?_eq_getElem (show q<T.length by rw[h.len];exact hl);exact⟨_,h1,h.good q b _ hb h1⟩
theorem Fit.next {im:Img} {T:cw} (h:Fit im T) {hp hp':List Ob} {f f':Fm} {b:Bod} {x:Ins} {s l s' l':List UInt8} (hT:qD im T hp f b x s l) (he:dP im.classes im.sigs b x s l=some (s',l')) (hq:f'.q=f.q) (hpc:(f'.pc:Int)=(dF x f.pc).1∨(f'.pc:Int)=(dF x f.pc).2) (hh:HT im.classes hp') (hs:STk im.classes hp' s' f'.stk) (hl:STk im.classes hp' l' f'.loc): ∃x' s2 l2,qD im T hp' f' b x' s2 l2:=by
 obtain⟨t,ht,hG⟩:=h.tab hT.bd;obtain⟨s1,l1,a0,r1,r2⟩:=hG.go f.pc x s l hT.ins ((cO ht).1 hT.st);rw[he]at a0
 cases a0
 have hr:eg im.classes t (f'.pc:Int) (s',l'):=by rcases hpc with e|e<;>(rw[e];assumption)
 rcases hr with hr| ⟨st',h1,h2⟩
 ·omega
 ·simp only[Int.toNat_natCast]at h1;have a1:=(List.getElem?_eq_some_iff.1 h1).1;rw[hG.len]at a1;exact⟨b.code[f'.pc],st'.1,st'.2,⟨by rw[hq];exact hT.bd,by simp[a1],by rw[hq];exact(cO ht).2 h1,hs.sub h.wf.cls h.wf.nc hh h2.1,hl.sub h.wf.cls h.wf.nc hh h2.2⟩⟩
theorem eF {cs:List Cls} {s:List UInt8} {c:UInt8} (h:dJ cs s [c]=true):1≤s.length∧bP cs (s.getD (s.length-1) 0) c=true:=by
 simpa[dJ,List.range_succ]using h
theorem fO {cs:List Cls} {s:List UInt8} {c d:UInt8} (h:dJ cs s [c,d]=true):2≤s.length∧bP cs (s.getD (s.length-2) 0) c=true∧bP cs (s.getD (s.length-1) 0) d=true:=by
 simp only[dJ,List.length_cons,List.length_nil,Bool.and_eq_true,decide_eq_true_eq,List.all_eq_true,List.mem_range]at h;have h0:=h.2 0 (by omega);have h1:=h.2 1 (by omega);refine⟨h.1,by simpa using h0,?_⟩;rw[show s.length-(0+1+1)+1=s.length-1 from by have:=h.1;omega]at h1;simpa using h1
theorem bD {cs:List Cls} {gs:List Sig} {b:Bod} {x:Ins} {s l s' l':List UInt8} (h1: ¬(x.op.toNat=115∨x.op.toNat=100∨x.op.toNat=101∨x.op.toNat=120)) (h2:x.op.toNat≠108) (he:dP cs gs b x s l=some (s',l')):
  dJ cs s (bC cs gs b x)=true∧s'=s.take (s.length-(bC cs gs b x).length)++bH cs gs x∧l'=l:=by
 unfold dP at he;rw[if_neg h1,if_neg h2]at he
 split at he
 ·rename_i hf
  simp at he;exact⟨hf,he.1.symm,he.2.symm⟩
 ·cases he
def OkS (im:Img) (T:cw) (s0:Ev):SR→Prop
 | .go m=> ∃f rest,m.fr=f::rest∧MT im T f rest m.ev∧m.ev.heap.length≤s0.heap.length+1∧m.ev.out.length≤s0.out.length+22∧m.ev.read≤s0.read+1
 | .bad e o=>6≤e∧e≤10∧o=s0.out
 | .fin v o=>(∃n,v= .i n∧ -2147483648≤n∧n<2147483648)∧o=s0.out
section
variable {im:Img} {T:cw} {f f':Fm} {rest:List Fm} {s s2:Ev} {b:Bod} {x:Ins} {st l st' l':List UInt8}
theorem qE (h:Fit im T) (hT:qD im T s.heap f b x st l) (hC:jk im T s.heap b rest) (hd:rest.length+1≤12) (he:dP im.classes im.sigs b x st l=some (st',l')) (hq:f'.q=f.q) (hpc:(f'.pc:Int)=(dF x f.pc).1∨(f'.pc:Int)=(dF x f.pc).2) (hx:Ext s.heap s2.heap) (hh:HT im.classes s2.heap) (hs:STk im.classes s2.heap st' f'.stk) (hl:STk im.classes s2.heap l' f'.loc)
  (n1:s2.heap.length≤s.heap.length+1) (n2:s2.out.length≤s.out.length+22) (n3:s2.read≤s.read+1):OkS im T s (.go ⟨f'::rest,s2⟩):=by
 obtain⟨x',a,c,hn⟩:=h.next hT he hq hpc hh hs hl;exact⟨f',rest,rfl,⟨hh,⟨b,x',a,c,hn,hC.ext hx⟩,hd⟩,n1,n2,n3⟩
theorem dL (h:Fit im T) (hM:HT im.classes s.heap) (hT:qD im T s.heap f b x st l) (hC:jk im T s.heap b rest) (hd:rest.length+1≤12) (he:dP im.classes im.sigs b x st l=some (st',l')) (hq:f'.q=f.q) (hpc:(f'.pc:Int)=(dF x f.pc).1∨(f'.pc:Int)=(dF x f.pc).2) (e2:s2.heap=s.heap) (hs:STk im.classes s.heap st' f'.stk) (hl:STk im.classes s.heap l' f'.loc)
  (n2:s2.out.length≤s.out.length+22) (n3:s2.read≤s.read+1):OkS im T s (.go ⟨f'::rest,s2⟩):=
 qE h hT hC hd he hq hpc (by rw[e2];exact Ext.refl _) (by rw[e2];exact hM) (by rw[e2];exact hs) (by rw[e2];exact hl) (by rw[e2];omega) n2 n3
end
theorem lX {im:Img} (h:WfI im) {a k:Nat} (ha:a<im.classes.length) (hk:k<cF im.classes a):cG im.classes.length (cA im.classes a k)=true:=by
 have h1:=h.cls a _ (List.getElem?_eq_getElem ha);have e:bj im.classes a=im.classes[a].fields:=by simp[bj,ha]
 rw[fN,e];have a0:k<im.classes[a].fields.length:=by unfold cF at hk;simpa[ha]using hk
 rw[List.getD_eq_getElem?_getD,List.getElem?_eq_getElem a0];exact ez (by omega) (h1.2.2.2 _ (List.getElem_mem a0))
theorem Bs {im:Img} (h:WfI im) {hp:List Ob} (hh:HT im.classes hp) {a:Nat} (ha:a<im.classes.length):HT im.classes (hp++ [⟨a,cq im.classes a⟩])∧Ext hp (hp++ [⟨a,cq im.classes a⟩])∧VT im.classes (hp++ [⟨a,cq im.classes a⟩]) (cL a) (.o hp.length):=by
 have h4:=h.nc;obtain⟨hC,a2⟩:=dC (a:=a) (by omega);have a1:Ext hp (hp++ [⟨a,cq im.classes a⟩]):=⟨by simp,fun k ob hk=>⟨ob,by rw[List.getElem?_append_left (List.getElem?_eq_some_iff.1 hk).1];exact hk,rfl⟩⟩
 have a0: ∀(k:Nat) ob,(hp++ [⟨a,cq im.classes a⟩])[k]?=some ob→hp[k]?=some ob∨ob=⟨a,cq im.classes a⟩:=fun k ob hk=>by
  rcases Nat.lt_or_ge k hp.length with hl|hl
  ·rw[List.getElem?_append_left hl]at hk;exact Or.inl hk
  ·rw[List.getElem?_append_right hl]at hk
   cases hq:k-hp.length with
   |zero=>rw[hq]at hk;simp at hk;exact Or.inr hk.symm
   |succ q=>rw[hq]at hk;simp at hk
 refine⟨⟨?_,?_,?_⟩,a1,hC,⟨a,cq im.classes a⟩,by simp,by rw[a2];exact nj h.cls (by omega)⟩
 ·intro k ob hk;rcases a0 k ob hk with h1|h1
  ·exact hh.cls k ob h1
  ·subst h1;exact ha
 ·intro k ob hk;rcases a0 k ob hk with h1|h1
  ·exact hh.len k ob h1
  ·subst h1;simp[cq]
 ·intro k ob j v hk hv;rcases a0 k ob hk with h1|h1
  ·exact(hh.fs k ob j v h1 hv).ext a1
  ·subst h1;simp only[cq,List.getElem?_map,Option.map_eq_some_iff]at hv;obtain⟨c,hc,rfl⟩:=hv;have hj:=(List.getElem?_eq_some_iff.1 hc).1;have e:(bj im.classes a).getD j 0=c:=by rw[List.getD_eq_getElem?_getD,hc];rfl
   simp only[e];refine iD h4 ?_;have:=lX h (a:=a) (k:=j) ha (by unfold cF;exact hj);rw[fN,e]at this;exact this
theorem ka {im:Img} {T:cw} (h:Fit im T) {hp:List Ob} (hh:HT im.classes hp) {a j k:Nat} {ob:Ob} (ha:a<im.classes.length) (hj:j<cF im.classes a) (hk:hp[k]?=some ob) (hu:bO im.classes 5 ob.cls a=true):
  j<ob.fs.length∧(bj im.classes ob.cls).getD j 0=cA im.classes a j:=by
 have h4:=h.wf.nc;have hc:=hh.cls k ob hk;have hp':=kX h.wf.cls h.fld 4 (x:=ob.cls) (y:=a) (by omega) (by omega) (by omega) hu;simp only[Int.toNat_natCast]at hp';obtain⟨u,hu⟩:=hp';have a0:j<(bj im.classes a).length:=hj;refine⟨by rw[hh.len k ob hk,←hu];simp;omega,?_⟩;rw[fN,←hu,List.getD_eq_getElem?_getD,List.getElem?_append_left a0,List.getD_eq_getElem?_getD]
theorem Bt {im:Img} {hp:List Ob} (hh:HT im.classes hp) {k j:Nat} {ob:Ob} (hk:hp[k]?=some ob) {v:V} (hv:VT im.classes hp ((bj im.classes ob.cls).getD j 0) v):HT im.classes (hp.set k ⟨ob.cls,ob.fs.set j v⟩)∧Ext hp (hp.set k ⟨ob.cls,ob.fs.set j v⟩):=by
 have hl:=(List.getElem?_eq_some_iff.1 hk).1
 have a1: ∀(i:Nat) o,(hp.set k ⟨ob.cls,ob.fs.set j v⟩)[i]?=some o→(i≠k∧hp[i]?=some o)∨(i=k∧o=⟨ob.cls,ob.fs.set j v⟩):=fun i o hi=>by
  rw[List.getElem?_set]at hi
  split at hi
  ·rename_i e
   subst e
   cases hi
   exact Or.inr ⟨rfl,rfl⟩
  ·rename_i e
   exact Or.inl ⟨fun h=>e h.symm,hi⟩
 have a0:Ext hp (hp.set k ⟨ob.cls,ob.fs.set j v⟩):=⟨by simp,fun i o hi=>by
  by_cases e:i=k
  ·subst e;rw[hk]at hi;cases hi;exact⟨⟨ob.cls,ob.fs.set j v⟩,by simp[hl],rfl⟩
  ·exact⟨o,by rw[List.getElem?_set_ne (fun h=>e h.symm)];exact hi,rfl⟩⟩
 refine⟨⟨?_,?_,?_⟩,a0⟩
 ·intro i o hi;rcases a1 i o hi with⟨_,h1⟩ | ⟨_,rfl⟩
  ·exact hh.cls i o h1
  ·exact hh.cls k ob hk
 ·intro i o hi;rcases a1 i o hi with⟨_,h1⟩ | ⟨_,rfl⟩
  ·exact hh.len i o h1
  ·simp only[List.length_set];exact hh.len k ob hk
 ·intro i o q u hi hu;rcases a1 i o hi with⟨_,h1⟩ | ⟨_,rfl⟩
  ·exact(hh.fs i o q u h1 hu).ext a0
  ·simp only[List.getElem?_set]at hu
   split at hu
   ·rename_i e
    subst e
    split at hu
    ·cases hu;exact hv.ext a0
    ·cases hu
   ·exact(hh.fs k ob q u hk hu).ext a0
theorem dD {x:Ins} {i:Nat} (h1:x.op.toNat≠116) (h2:x.op.toNat≠106) (h3:x.op.toNat≠102):dF x i=((i:Int)+1,-1):=by simp[dF,h1,h2,h3]
theorem VTm.toInt {cs:List Cls} {hp:List Ob} (hw:WfC cs) (hn:cs.length≤4) (hh:HT cs hp) {t:UInt8} {v:V} (h:VTm cs hp t v) (hs:bP cs t 105=true): ∃n,v= .i n∧ -2147483648≤n∧n<2147483648:=((h.sub hw hn hh hs).not45 (by decide)).int (by decide)
theorem VTm.toRef {cs:List Cls} {hp:List Ob} {t:UInt8} {v:V} (h:VTm cs hp t v) (ht:isR t=true):VT cs hp t v:=h.not45 (fun e=>by simp[isR,isC,e]at ht)
theorem wK {im:Img} {T:cw} (h:Fit im T) {b:Bod} (hb:b∈im.bodies) {hp:List Ob}:STk im.classes hp b.locals (b.locals.map cC):=by
 refine⟨by simp,fun j v hv=> ?_⟩;simp only[List.getElem?_map,Option.map_eq_some_iff]at hv;obtain⟨c,hc,rfl⟩:=hv;rw[show b.locals.getD j 0=c from by rw[List.getD_eq_getElem?_getD,hc];rfl];exact Or.inr (iD h.wf.nc ((h.wf.bod b hb).loc.2 c (List.mem_of_getElem? hc)))
theorem vu {im:Img} {T:cw} (h:Fit im T) {x:Ins} {s:Ev} (hh:HT im.classes s.heap) {k:Nat} {ob:Ob} (hk:s.heap[k]?=some ob) (hxa:x.a<im.classes.length) (hxb:x.b<im.sigs.length) (hu:bO im.classes 5 ob.cls x.a=true) (hf:0≤cE im.classes im.bodies x.b 5 x.a) {v:V} (hv:VT im.classes s.heap (ia im.sigs x.b) v):
  im.bodies[(cE im.classes im.bodies x.b 5 (s.cls k)).toNat]?=some (ba im x k s)∧ba im x k s∈im.bodies∧(ba im x k s).meth=x.b∧0≤(ba im x k s).cls∧STk im.classes s.heap (ba im x k s).locals (aR (ba im x k s) [.o k,v]):=by
 have h4:=h.wf.nc;have hc:=hh.cls k ob hk;have e1:=(Ev.at hk).1;have b0:=jK (bs:=im.bodies) (m:=x.b) h.wf.cls 4 (x:=ob.cls) (y:=x.a) (by omega) (by omega) hu hf;obtain⟨b,a1,a6,a7,a3⟩:=nX b0;have e2:ba im x k s=b:=by simp[ba,e1,a1]
 rw[e1,e2];have a2:b∈im.bodies:=List.mem_of_getElem? a1;obtain⟨t,ht⟩:=h.lc b a2 a3;have a4:=h.wf.bod b a2
 have a8:b.cls.toNat<4:=by
  rcases a4.cls with h1|h1
  ·omega
  ·omega
 refine⟨a1,a2,a6,a3,?_⟩;have a0:=a4.loc.2;rw[ht]at a0⊢;have hm:b.meth.toNat=x.b:=by omega
 rw[hm];refine⟨by simp[aR,ht],fun j w hw=> ?_⟩;simp only[aR,ht,List.length_cons,List.length_nil,List.drop_succ_cons,List.drop_zero,List.cons_append,List.nil_append]at hw
 right
 match j,hw with
 |0,hw=>
  cases hw
  obtain⟨hC,a5⟩:=dC (a:=b.cls.toNat) a8;refine⟨hC,ob,hk,?_⟩;have:((UInt8.ofNat (65+b.cls.toNat)).toNat:Int)-65=b.cls:=by have:=a5;unfold cL at this;omega
  simp only[List.getD_cons_zero];rw[this];exact a7
 |1,hw=>cases hw;simpa using hv
 |j+2,hw=>
  simp only[List.getElem?_cons_succ,List.getElem?_map,Option.map_eq_some_iff]at hw;obtain⟨c,hc,rfl⟩:=hw;have e3:(UInt8.ofNat (65+b.cls.toNat)::ia im.sigs x.b::t).getD (j+2) 0=c:=by simp[hc]
  rw[e3];exact iD h4 (a0 c (by simp[List.mem_of_getElem? hc]))
theorem vv {im:Img} (h:WfI im) {k:Nat} (hk:k<im.sigs.length):cG im.classes.length (ia im.sigs k)=true∧cG im.classes.length (fm im.sigs k)=true:=by
 have:=h.sig _ (List.getElem_mem hk);simpa[ia,fm,hk]using this
theorem kL {cs:List Cls} {gs:List Sig} {b:Bod} {x:Ins} {s l s' l':List UInt8} (h1:x.op.toNat=115∨x.op.toNat=100∨x.op.toNat=101∨x.op.toNat=120) (he:dP cs gs b x s l=some (s',l')):
  ∃k,d9 x.op.toNat s=some k∧s'=s.take (s.length-k)++bH cs gs x∧l'=if x.op.toNat=115 then l.set x.b (s.getD (s.length-1) 0)else l:=by
 unfold dP at he;rw[if_pos h1]at he
 cases hk:d9 x.op.toNat s with
 |none=>rw[hk]at he;cases he
 |some k=>rw[hk]at he;simp only[Option.some.injEq,Prod.mk.injEq]at he;exact⟨k,rfl,he.1.symm,he.2.symm⟩
theorem eG {cs:List Cls} {gs:List Sig} {b:Bod} {x:Ins} {s l s' l':List UInt8} (h1:x.op.toNat=115∨x.op.toNat=100∨x.op.toNat=101∨x.op.toNat=120) (h2:x.op.toNat≠115) (he:dP cs gs b x s l=some (s',l')):
  ∃k,d9 x.op.toNat s=some k∧s'=s.take (s.length-k)++bH cs gs x∧l'=l:=by
 obtain⟨k,a,b,c⟩:=kL h1 he;rw[if_neg h2]at c;exact⟨k,a,b,c⟩
theorem ff {c k:Nat} {s:List UInt8} (hc:c≠101) (h:d9 c s=some k):k=1∧1≤s.length∧(c=120→isR (s.getD (s.length-1) 0)=true):=by
 unfold d9 at h;rw[if_neg hc]at h
 split at h
 ·cases h
 ·rename_i hn
  cases h
  rw[not_or]at hn;exact⟨rfl,by omega,fun e=>by have:=hn.2;simp[e]at this;exact this⟩
theorem nY {k:Nat} {s:List UInt8} (h:d9 101 s=some k):k=2∧2≤s.length∧isR (s.getD (s.length-1) 0)=true∧isR (s.getD (s.length-2) 0)=true:=by
 unfold d9 at h;rw[if_pos rfl]at h
 split at h
 ·cases h
 ·rename_i hn
  cases h
  rw[not_or,not_or]at hn;exact⟨rfl,by omega,by simpa using hn.2.1,by simpa using hn.2.2⟩
theorem lY {s:List V} (h:1≤s.length):cI s++ [cM s]=s:=by
 unfold cI cM;have hl:s.length-1<s.length:=by omega
 rw[List.getD_eq_getElem?_getD,List.getElem?_eq_getElem hl,Option.getD_some,←List.take_succ_eq_append_getElem hl];exact List.take_of_length_le (by omega)
theorem yG {im:Img} {T:cw} (h:Fit im T) {hp:List Ob} {f:Fm} {b:Bod} {x:Ins} {s l:List UInt8} (hT:qD im T hp f b x s l):l.length=b.locals.length:=by
 obtain⟨t,ht,hG⟩:=h.tab hT.bd;exact((h.wt f.q b t hT.bd ht).2 f.pc s l ((cO ht).1 hT.st)).1.2.2
section
variable {im:Img} {T:cw} {f:Fm} {rest:List Fm} {s:Ev} {b:Bod} {x:Ins} {st l:List UInt8}
theorem yH (inp:ByteArray) (cells:Nat) (h:Fit im T) (hM:HT im.classes s.heap) (hT:qD im T s.heap f b x st l) (hC:jk im T s.heap b rest) (hd:rest.length+1≤12):OkS im T s (stepX im inp T cells x f rest s):=by
 have hw:=h.wf.cls;have h4:=h.wf.nc;have b4:b∈im.bodies:=List.mem_of_getElem? hT.bd;have b9:x∈b.code:=List.mem_of_getElem? hT.ins;have hX:=(h.wf.bod b b4).code x b9;obtain⟨t,ht,hG⟩:=h.tab hT.bd;obtain⟨st',l',he,r1,r2⟩:=hG.go f.pc x st l hT.ins ((cO ht).1 hT.st);unfold stepX
 by_cases h107:x.op.toNat=107
 ·rw[if_pos h107];obtain⟨_,e2,rfl⟩:=bD (by omega) (by omega) he;simp[bC,bH,arith,h107]at e2;subst e2;exact dL h hM hT hC hd he rfl (Or.inl (by rw[dD (by omega) (by omega) (by omega)];simp[Fm.on])) rfl (hT.stk.snoc (Or.inr ⟨by decide,by omega,by have:=hX.num;omega⟩)) hT.loc (by omega) (by omega)
 rw[if_neg h107]
 by_cases h114:x.op.toNat=114
 ·rw[if_pos h114];obtain⟨_,e2,rfl⟩:=bD (by omega) (by omega) he;simp[bC,bH,arith,h114]at e2;subst e2;exact dL h hM hT hC hd he rfl (Or.inl (by rw[dD (by omega) (by omega) (by omega)];simp[Fm.on])) rfl (hT.stk.snoc (Or.inr ⟨by decide,mz _ _⟩)) hT.loc (by simp) (by simp)
 rw[if_neg h114]
 by_cases h119:x.op.toNat=119
 ·rw[if_pos h119];obtain⟨hf,e2,rfl⟩:=bD (by omega) (by omega) he;simp[bC,bH,arith,h119]at e2 hf;subst e2;obtain⟨f1,f2⟩:=eF hf;obtain⟨n,hn,n1,n2⟩:=(hT.stk.t1 f1).toInt hw h4 hM f2;rw[hn];have hi:=Lib.itoa_length_le n (by omega) (by omega);exact dL h hM hT hC hd he rfl (Or.inl (by rw[dD (by omega) (by omega) (by omega)];simp[Fm.on])) rfl hT.stk.l1 hT.loc (by simp[Ev.say,V.N];omega) (by simp[Ev.say])
 rw[if_neg h119]
 by_cases h122:x.op.toNat=122
 ·rw[if_pos h122];obtain⟨_,e2,rfl⟩:=bD (by omega) (by omega) he;simp[bC,bH,arith,h122]at e2;subst e2;exact dL h hM hT hC hd he rfl (Or.inl (by rw[dD (by omega) (by omega) (by omega)];simp[Fm.on])) rfl (hT.stk.snoc (Or.inr (show isR 122=true by decide))) hT.loc (by omega) (by omega)
 rw[if_neg h122]
 by_cases h100:x.op.toNat=100
 ·rw[if_pos h100];obtain⟨k,hk,e2,rfl⟩:=eG (by omega) (by omega) he;obtain⟨rfl,q1,_⟩:=ff (by omega) hk;simp[bH,arith,h100]at e2;subst e2;exact dL h hM hT hC hd he rfl (Or.inl (by rw[dD (by omega) (by omega) (by omega)];simp[Fm.on])) rfl hT.stk.l1 hT.loc (by omega) (by omega)
 rw[if_neg h100]
 by_cases h108:x.op.toNat=108
 ·rw[if_pos h108];have a5:=he;unfold dP at a5;rw[if_neg (by omega),if_pos h108]at a5
  split at a5
  ·cases a5
  ·rename_i hne
   simp at a5;obtain⟨rfl,rfl⟩:=a5
   have e0:x.b<l.length:=by
    rcases Nat.lt_or_ge x.b l.length with q|q
    ·exact q
    ·have:=hX.loc (Or.inl h108);have h5:=hT.loc.len;exact absurd (yG h hT) (by omega)
   exact dL h hM hT hC hd he rfl (Or.inl (by rw[dD (by omega) (by omega) (by omega)];simp[Fm.on])) rfl (hT.stk.snoc (hT.loc.get e0)) hT.loc (by omega) (by omega)
 rw[if_neg h108]
 by_cases h115:x.op.toNat=115
 ·rw[if_pos h115];obtain⟨k,hk,e2,e3⟩:=kL (by omega) he;obtain⟨rfl,q1,_⟩:=ff (by omega) hk;simp[bH,arith,h115]at e2 e3;subst e2 e3;exact dL h hM hT hC hd he rfl (Or.inl (by rw[dD (by omega) (by omega) (by omega)];simp[Fm.on])) rfl hT.stk.l1 (hT.loc.set x.b (hT.stk.t1 q1)) (by omega) (by omega)
 rw[if_neg h115]
 by_cases h106:x.op.toNat=106
 ·rw[if_pos h106];obtain⟨_,e2,rfl⟩:=bD (by omega) (by omega) he;simp[bC,bH,arith,h106]at e2;subst e2;exact dL h hM hT hC hd he rfl (Or.inl (by simp[dF,h106])) rfl hT.stk hT.loc (by omega) (by omega)
 rw[if_neg h106]
 by_cases h102:x.op.toNat=102
 ·rw[if_pos h102];obtain⟨hf,e2,rfl⟩:=bD (by omega) (by omega) he;simp[bC,bH,arith,h102]at e2 hf;subst e2;refine dL h hM hT hC hd he rfl ?_ rfl hT.stk.l1 hT.loc (by omega) (by omega)
  by_cases hn:(cM f.stk).N=0
  ·exact Or.inr (by simp[dF,h102,hn])
  ·exact Or.inl (by simp[dF,h102,hn])
 rw[if_neg h102]
 by_cases h101:x.op.toNat=101
 ·rw[if_pos h101];obtain⟨k,hk,e2,rfl⟩:=eG (by omega) (by omega) he;obtain⟨rfl,q1,q2,q3⟩:=nY (by rw[h101]at hk;exact hk);simp[bH,arith,h101]at e2;subst e2;refine dL h hM hT hC hd he rfl (Or.inl (by rw[dD (by omega) (by omega) (by omega)];simp[Fm.on])) rfl (hT.stk.l2.snoc ?_) hT.loc (by omega) (by omega)
  right
  split
  ·exact⟨by decide,by omega,by omega⟩
  ·exact⟨by decide,by omega,by omega⟩
 rw[if_neg h101]
 by_cases h110:x.op.toNat=110
 ·rw[if_pos h110];obtain⟨_,e2,rfl⟩:=bD (by omega) (by omega) he;simp[bC,bH,arith,h110]at e2;subst e2
  split
  ·exact⟨by omega,by omega,rfl⟩
  ·obtain⟨g1,g2,g3⟩:=Bs h.wf hM (hX.cls (by omega));exact qE h hT hC hd he rfl (Or.inl (by rw[dD (by omega) (by omega) (by omega)];simp[Fm.on])) g2 g1 ((hT.stk.ext g2).snoc (Or.inr g3)) (hT.loc.ext g2) (by simp) (by simp) (by simp)
 rw[if_neg h110]
 by_cases h120:x.op.toNat=120
 ·rw[if_pos h120];obtain⟨k,hk,e2,rfl⟩:=eG (by omega) (by omega) he;obtain⟨rfl,q1,q2⟩:=ff (by omega) hk;have q2:=q2 h120;simp[bH,arith,h120]at e2;subst e2;obtain⟨a0,a4⟩:=dC (a:=x.a) (by have:=hX.cls (by omega);omega);have hv:=(hT.stk.t1 q1).toRef q2
  have a6: ∀{v},cM f.stk=v→VT im.classes s.heap (cL x.a) v→STk im.classes s.heap (st.take (st.length-1)++ [cL x.a]) f.stk:=fun{v} e hv=>by
   have h1:=hT.stk.l1.snoc (Or.inr hv);rw[←e,lY (by rw[hT.stk.len];exact q1)]at h1;exact h1
  cases htv:cM f.stk with
  |i n=>rw[htv]at hv;rcases hv.ref q2 with e| ⟨_,_,e,_⟩<;>cases e
  |z=>
   exact dL h hM hT hC hd he rfl (Or.inl (by rw[dD (by omega) (by omega) (by omega)];simp[Fm.on])) rfl (a6 htv (bR a0)) hT.loc (by omega) (by omega)
  |o k=>
   rw[htv]at hv;obtain⟨a1,ob,a2,a3⟩:=hv;simp only[(Ev.at a2).1]
   split
   ·rename_i hu
    exact dL h hM hT hC hd he rfl (Or.inl (by rw[dD (by omega) (by omega) (by omega)];simp[Fm.on])) rfl (a6 htv ⟨a0,ob,a2,by rw[a4];exact hu⟩) hT.loc (by omega) (by omega)
   ·exact⟨by omega,by omega,rfl⟩
 rw[if_neg h120]
 by_cases h103:x.op.toNat=103
 ·rw[if_pos h103];obtain⟨hf,e2,rfl⟩:=bD (by omega) (by omega) he;simp[bC,bH,arith,h103]at e2 hf;subst e2;obtain⟨f1,f2⟩:=eF hf;obtain⟨a0,a4⟩:=dC (a:=x.a) (by have:=hX.cls (by omega);omega);have hv:=((hT.stk.t1 f1).sub hw h4 hM f2).toRef (bR a0);rcases hv.ref (bR a0)with e| ⟨k,ob,e,hk,_,hu⟩
  ·rw[e];exact⟨by omega,by omega,rfl⟩
  ·rw[e]
   show OkS im T s (.go ⟨f.on (cI f.stk++ [(s.fs k).getD x.b .z])::rest,s⟩)
   rw[(Ev.at hk).2];rw[a4]at hu;obtain⟨g1,g2⟩:=ka h hM (hX.cls (by omega)) (hX.fld (by omega)) hk hu;refine dL h hM hT hC hd he rfl (Or.inl (by rw[dD (by omega) (by omega) (by omega)];simp[Fm.on])) rfl (hT.stk.l1.snoc (Or.inr ?_)) hT.loc (by omega) (by omega);rw[←g2,List.getD_eq_getElem?_getD (l:=ob.fs),List.getElem?_eq_getElem g1];exact hM.fs k ob x.b _ hk (List.getElem?_eq_getElem g1)
 rw[if_neg h103]
 by_cases h112:x.op.toNat=112
 ·rw[if_pos h112];obtain⟨hf,e2,rfl⟩:=bD (by omega) (by omega) he;simp[bC,bH,arith,h112]at e2 hf;subst e2;obtain⟨f1,f2,f3⟩:=fO hf;have b0:=hX.cls (by omega);have a7:=hX.fld (by omega);obtain⟨a0,a4⟩:=dC (a:=x.a) (by omega);have hv:=((hT.stk.t2 f1).sub hw h4 hM f2).toRef (bR a0);rcases hv.ref (bR a0)with e| ⟨k,ob,e,hk,_,hu⟩
  ·rw[e];exact⟨by omega,by omega,rfl⟩
  ·rw[e];rw[a4]at hu;obtain⟨g1,g2⟩:=ka h hM b0 a7 hk hu;have a8:=((hT.stk.t1 (by omega)).sub hw h4 hM f3).not45 (gW (lX h.wf b0 a7));rw[←g2]at a8;obtain⟨p1,p2⟩:=Bt hM hk a8;have e1:(s.put k x.b (cM f.stk)).heap=s.heap.set k ⟨ob.cls,ob.fs.set x.b (cM f.stk)⟩:=by simp[Ev.put,(Ev.at hk).1,(Ev.at hk).2]
   exact qE h hT hC hd he rfl (Or.inl (by rw[dD (by omega) (by omega) (by omega)];simp[Fm.on])) (by rw[e1];exact p2) (by rw[e1];exact p1) (by rw[e1];exact hT.stk.l2.ext p2) (by rw[e1];exact hT.loc.ext p2) (by rw[e1];simp) (by simp[Ev.put]) (by simp[Ev.put])
 rw[if_neg h112]
 by_cases h99:x.op.toNat=99
 ·rw[if_pos h99];obtain⟨hf,e2,rfl⟩:=bD (by omega) (by omega) he;simp[bC,bH,arith,h99]at e2 hf;obtain⟨f1,f2,f3⟩:=fO hf;have b0:=hX.cls (by omega);have a7:=hX.sig h99;obtain⟨a0,a4⟩:=dC (a:=x.a) (by omega);have hv:=((hT.stk.t2 f1).sub hw h4 hM f2).toRef (bR a0);rcases hv.ref (bR a0)with e| ⟨k,ob,e,hk,_,hu⟩
  ·rw[e];exact⟨by omega,by omega,rfl⟩
  ·rw[e];rw[a4]at hu;simp only
   split
   ·exact⟨by omega,by omega,rfl⟩
   ·have a8:=((hT.stk.t1 (by omega)).sub hw h4 hM f3).not45 (gW (vv h.wf a7).1);obtain⟨c1,c2,c3,c4,c5⟩:=vu h hM hk b0 a7 hu (h.lk b b4 x b9 h99) a8;obtain⟨t2,e8,b2⟩:=h.tab c1;obtain⟨s0,i1,i2⟩:=b2.start;have b5:=(List.getElem?_eq_some_iff.1 i1).1;rw[b2.len]at b5;refine⟨_,_,rfl,⟨hM,⟨ba im x k s,(ba im x k s).code[0],s0.1,s0.2,⟨c1,by simp[b5],(cO e8).2 i1,STk.nil.sub hw h4 hM i2.1,c5.sub hw h4 hM i2.2⟩,?_⟩,by simp;omega⟩,by simp,by simp,by simp⟩;exact .call _ _ _ b x st _ c4 hT.bd hT.ins h99 c3.symm hT.st f1 hT.stk.l2 hT.loc hC
 rw[if_neg h99]
 by_cases h116:x.op.toNat=116
 ·rw[if_pos h116];obtain⟨hf,e2,rfl⟩:=bD (by omega) (by omega) he
  cases hC with
  |main _ hb=>
   simp[bC,arith,h116,hb]at hf;obtain⟨f1,f2⟩:=eF hf;exact⟨(hT.stk.t1 f1).toInt hw h4 hM f2,rfl⟩
  |call _ g r bg y sg lg hb hg hy ho hm hsg h2 hst hlo hr=>
   have e7: ¬b.cls<0:=by omega
   simp[bC,arith,h116,e7]at hf;obtain⟨f1,f2⟩:=eF hf;have d6:bg∈im.bodies:=List.mem_of_getElem? hg;have e9:=((h.wf.bod bg d6).code y (List.mem_of_getElem? hy)).sig ho;have e6:b.meth.toNat=y.b:=by omega
   rw[e6]at f2;have hv:=(hT.stk.t1 f1).sub hw h4 hM f2;obtain⟨t3,b6,b3⟩:=h.tab hg;obtain⟨s3,l3,c6,r3,r4⟩:=b3.go g.pc y sg lg hy ((cO b6).1 hsg);obtain⟨_,e4,rfl⟩:=bD (by omega) (by omega) c6;simp[bC,bH,arith,ho]at e4;subst e4;rw[dD (by omega) (by omega) (by omega)]at r3;rcases r3 with r3| ⟨stq,r5,r6⟩
   ·omega
   ·have b1:=(List.getElem?_eq_some_iff.1 r5).1;have e5:((g.pc:Int)+1).toNat=g.pc+1:=by omega
    rw[b3.len]at b1;rw[e5]at r5 b1;exact⟨_,_,rfl,⟨hM,⟨bg,bg.code[g.pc+1],stq.1,stq.2,⟨hg,by simp[Fm.on,b1],(cO b6).2 r5,(hst.snoc hv).sub hw h4 hM r6.1,hlo.sub hw h4 hM r6.2⟩,hr⟩,by simp at hd;omega⟩,by simp,by simp,by simp⟩
 rw[if_neg h116]
 have ha:arith x.op.toNat=true:=by
  have:=hX.op;simp[da]at this;simp[arith];omega
 obtain⟨hf,e2,rfl⟩:=bD (by omega) (by omega) he;simp[bC,bH,ha,h119,h102]at e2 hf;subst e2;obtain⟨f1,f2,f3⟩:=fO hf;obtain⟨m,hm,m1,m2⟩:=(hT.stk.t2 f1).toInt hw h4 hM f2;obtain⟨n,hn,n1,n2⟩:=(hT.stk.t1 (by omega)).toInt hw h4 hM f3;rw[hm,hn];simp only[V.N];unfold cX
 split
 ·rename_i hr
  split at hr
  ·split at hr
   ·cases hr;exact⟨by omega,by omega,rfl⟩
   ·cases hr
  ·cases hr
 ·rename_i v l2 s2 hr
  have key:s2=s∧VT im.classes s.heap 105 v:=by
   split at hr
   ·split at hr
    ·cases hr
    ·cases hr;exact⟨rfl,by decide,lW _⟩
   ·cases hr;exact⟨rfl,by decide,nW _ _ _⟩
  obtain⟨rfl,hv⟩:=key;exact dL h hM hT hC hd he rfl (Or.inl (by rw[dD (by omega) (by omega) (by omega)];simp[Fm.on])) rfl (hT.stk.l2.snoc (Or.inr hv)) hT.loc (by omega) (by omega)
end
theorem yI {s:ByteArray} {cs:List Cls} {gs:List Sig}: ∀{k:Nat} {bs:List Bod} {i:Nat} {r:List Bod} {j:Nat},(∀b∈bs,WfL gs b)→kg s cs gs k bs i= .ok (r,j)→ ∀b∈r,WfL gs b:=by
 intro k
 induction k with
 |zero=>
  intro bs i r j hw h;unfold kg at h
  split at h
  ·cases h;exact hw
  ·cases h
 |succ k ih=>
  intro bs i r j hw h;unfold kg at h
  split at h
  ·cases h;exact hw
  ·split at h
   ·cases h
   ·split at h
    ·cases h
    ·split at h
     ·cases h
     ·split at h
      ·cases h
      ·split at h
       ·cases h
       ·refine ih (fun b hb=> ?_) h;rcases List.mem_append.1 hb with hb|hb
        ·exact hw b hb
        ·rw[List.mem_singleton]at hb;subst hb;exact fun _=>⟨_,rfl⟩
theorem uj {s:ByteArray} {im:Img} (h:fS s= .ok im):WfF im.classes∧(∀b∈im.bodies,WfL im.sigs b)∧ ∃bs m,im.bodies=bs++ [m]∧m.cls= -1:=by
 unfold fS at h
 split at h
 ·cases h
 ·rename_i cs l1 h1
  split at h
  ·cases h
  ·rename_i gs l2 h2
   split at h
   ·cases h
   ·rename_i bs l3 h3
    split at h
    ·cases h
    ·rename_i t l4 h4
     split at h
     ·cases h
     ·rename_i is l5 h5
      split at h
      ·cases h
      ·cases h
       have hb:=yI (fun b hb=>by simp at hb) h3;refine⟨rA (fun j c h=>by simp at h) (fun j c h=>by simp at h) h1,fun b a0=> ?_,bs,_,rfl,rfl⟩;simp at a0;rcases a0 with a0|rfl
       ·exact hb b a0
       ·exact fun h=>absurd h (by simp)
def Cs (im:Img) (T:cw):Prop:=T.length=im.bodies.length∧ ∀(q:Nat) b t,im.bodies[q]?=some b→T[q]?=some t→db im b=some t
theorem Bu {s:ByteArray} {im:Img} {T:cw} (hl:ee s= .ok im) (hT:Cs im T):Fit im T:=by
 unfold ee at hl
 split at hl
 ·cases hl
 ·rename_i hs
  split at hl
  ·cases hl
  ·rename_i im' hr
   split at hl
   ·cases hl
   ·rename_i hn
    cases hl
    have hW:=m6 (by omega) hr;obtain⟨h1,h2,h3⟩:=uj hr;refine⟨hW,h1,h2,fun b hb x hx ho=> ?_,hT.1,fun q b t hb ht=> ?_,fun q b t hb ht=> ?_,h3⟩
    ·rw[List.findSome?_eq_none_iff]at hn;have q1:=hn b hb;unfold unl at q1;rw[Option.map_eq_none_iff,List.find?_eq_none]at q1;have q2:=q1 x hx;simp[ky,ho]at q2;exact q2
    ·exact jB hW (hW.bod b (List.mem_of_getElem? hb)) (hT.2 q b t hb ht)
    ·exact lN hW (hW.bod b (List.mem_of_getElem? hb)) (hT.2 q b t hb ht)
theorem sp {im:Img} {T:cw} (h:Fit im T) {q:Nat} {mb:Bod} (hq:im.bodies.length=q+1) (hm:im.bodies[q]?=some mb):MT im T ⟨q,0,[],aR mb []⟩ [] ⟨[],0,0,[]⟩:=by
 have hw:=h.wf.cls;have hM:HT im.classes []:=⟨fun k ob h=>by simp at h,fun k ob h=>by simp at h,fun k ob j v h=>by simp at h⟩;obtain⟨t,ht,hG⟩:=h.tab hm;obtain⟨s0,i1,i2⟩:=hG.start;have a1:=(List.getElem?_eq_some_iff.1 i1).1;rw[hG.len]at a1;obtain⟨bs,m,a0,hc⟩:=h.main
 have a3:mb=m:=by
  have e:q=bs.length:=by rw[a0]at hq;simp at hq;omega
  rw[a0,e]at hm;simpa using hm.symm
 have a2:=wK h (List.mem_of_getElem? hm) (hp:=[]);rw[show mb.locals.map cC=aR mb []from by simp[aR]]at a2;exact⟨hM,⟨mb,mb.code[0],s0.1,s0.2,⟨hm,by simp[a1],(cO ht).2 i1,STk.nil.sub hw h.wf.nc hM i2.1,a2.sub hw h.wf.nc hM i2.2⟩,.main mb (by rw[a3,hc];omega)⟩,by simp⟩
structure MTn (im:Img) (T:cw) (f:Fm) (rest:List Fm) (s:Ev) (n:Nat):Prop where
 mt:MT im T f rest s
 hn:s.heap.length+n≤4000
 on:s.out.length+22*n≤88000
 rn:s.read+n≤4000
theorem vw {im:Img} {T:cw} (inp:ByteArray) (cells:Nat) (h:Fit im T) {f:Fm} {rest:List Fm} {s:Ev} {n:Nat} (hm:MTn im T f rest s (n+1)): ∃b x st l,qD im T s.heap f b x st l∧jk im T s.heap b rest∧fZ im inp T cells ⟨f::rest,s⟩=stepX im inp T cells x f rest s∧
  match stepX im inp T cells x f rest s with
  | .go m=> ∃f' r',m.fr=f'::r'∧MTn im T f' r' m.ev n
  | .bad e o=>6≤e∧e≤10∧o=s.out
  | .fin v o=>(∃k,v= .i k∧ -2147483648≤k∧k<2147483648)∧o=s.out:=by
 obtain⟨b,x,st,l,hT,hC⟩:=hm.mt.top;refine⟨b,x,st,l,hT,hC,?_,?_⟩
 ·simp only[fZ,A4,hT.bd,Option.bind_some,hT.ins]
 ·have hk:=yH inp cells h hm.mt.ht hT hC hm.mt.dep
  cases hr:stepX im inp T cells x f rest s with
  |go m=>
   rw[hr]at hk;obtain⟨f',r',e,h1,h2,h3,h4⟩:=hk;exact⟨f',r',e,h1,by have:=hm.hn;omega,by have:=hm.on;omega,by have:=hm.rn;omega⟩
  |bad e o=>rw[hr]at hk;exact hk
  |fin v o=>rw[hr]at hk;exact hk
end Sp
section
open Sp
noncomputable def ii (s inp:ByteArray) (cells fuel:Int):List UInt8×Int×Nat:=
 if 40<inp.size∨cells<0∨100<cells∨fuel<0∨4000<fuel then([],0,1)
 else match ee s with
  | .error (e,_)=>([],0,e)
  | .ok im=>match eh im 0 im.bodies with
   | .error _=>([],0,4)
   | .ok T=>kC im inp T cells.toNat fuel.toNat
theorem yJ {im:Img}: ∀{bs:List Bod} {i:Nat} {T:cw},eh im i bs= .ok T→T.length=bs.length∧ ∀(q:Nat) b t,bs[q]?=some b→T[q]?=some t→db im b=some t:=by
 intro bs
 induction bs with
 |nil=>intro i T h;simp only[eh]at h;cases h;exact⟨rfl,fun q b t h=>by simp at h⟩
 |cons b bs ih=>
  intro i T h;unfold eh at h
  split at h
  ·cases h
  ·rename_i t ht
   split at h
   ·cases h
   ·rename_i ts hts
    cases h
    obtain⟨h1,h2⟩:=ih hts;refine⟨by simp[h1],fun q b' t' hb ht'=> ?_⟩
    cases q with
    |zero=>simp at hb ht';subst hb ht';exact ht
    |succ q=>simp at hb ht';exact h2 q b' t' hb ht'
theorem wL {im:Img} {T:cw} (inp:ByteArray) (cells:Nat) (h:Fit im T): ∀(n:Nat) {f:Fm} {rest:List Fm} {s:Ev},MTn im T f rest s n→(d8 im inp T cells n ⟨f::rest,s⟩).2.2=0∨(5≤(d8 im inp T cells n ⟨f::rest,s⟩).2.2∧(d8 im inp T cells n ⟨f::rest,s⟩).2.2≤10):=by
 intro n
 induction n with
 |zero=>intro f rest s _;right;simp[d8]
 |succ n ih=>
  intro f rest s hm;obtain⟨b,x,st,l,_,_,he,hx⟩:=vw inp cells h hm;unfold d8;rw[he]
  cases hr:Sp.stepX im inp T cells x f rest s with
  |go m=>
   rw[hr]at hx;obtain⟨f',r',e,h1⟩:=hx;obtain⟨fr,ev⟩:=m;simp only at e h1⊢;subst e;exact ih h1
  |bad e o=>rw[hr]at hx;right;simp only;omega
  |fin v o=>left;rfl
theorem yK {im:Img} {T:cw} (inp:ByteArray) (cells:Nat) (h:Fit im T) {fu:Nat} (hf:fu≤4000):(kC im inp T cells fu).2.2=0∨(5≤(kC im inp T cells fu).2.2∧(kC im inp T cells fu).2.2≤10):=by
 obtain⟨bs,m,a1,a2⟩:=h.main;have a0:im.bodies.length=bs.length+1:=by rw[a1];simp
 have hq:im.bodies[bs.length]?=some m:=by rw[a1];simp
 have:=wL inp cells h fu ⟨sp h a0 hq,by simp;omega,by simp;omega,by simp;omega⟩;unfold kC;rw[a0];simpa[hq]using this
end
section
open Go Sp
def ly (L F:List Nat) (u:V):List Nat:=match u with
 | .o k=>if k∈L++F then F else F++ [k]
 |_=>F
def jp (L:List Nat) (vs:List V):List Nat:=vs.foldl (ly L) []
theorem wM {L:List Nat} {vs:List V} {k:Nat} {u:V} {F:List Nat} (h:vs[k]?=some u) (hF:jp L (vs.take k)=F):jp L (vs.take (k+1))=ly L F u:=by
 obtain⟨hk,he⟩:=List.getElem?_eq_some_iff.1 h;rw[List.take_succ_eq_append_getElem hk,jp,List.foldl_append,he];unfold jp at hF;rw[hF]
 rfl
theorem yL (L F:List Nat) (u:V) (k:Nat):k∈ly L F u↔k∈F∨(u= .o k∧k∉L):=by
 unfold ly
 cases u with
 |i n=>simp
 |z=>simp
 |o j=>
  simp only
  split
  ·rename_i h
   constructor
   ·exact Or.inl
   ·rintro(h1| ⟨h1,h2⟩)
    ·exact h1
    ·cases h1
     exact(List.mem_append.1 h).resolve_left h2
  ·rename_i h
   simp only[List.mem_append,List.mem_singleton,V.o.injEq]
   constructor
   ·rintro(h1|rfl)
    ·exact Or.inl h1
    ·exact Or.inr ⟨rfl,fun h2=>h (List.mem_append_left _ h2)⟩
   ·rintro(h1| ⟨h1,_⟩)
    ·exact Or.inl h1
    ·exact Or.inr h1.symm
theorem uk {L F:List Nat} (u:V) (h:F.Nodup):(ly L F u).Nodup:=by
 unfold ly
 cases u with
 |i n=>exact h
 |z=>exact h
 |o j=>
  simp only
  split
  ·exact h
  ·rename_i hj
   rw[List.nodup_append];refine⟨h,by simp,?_⟩;intro a ha b hb e;simp at hb;subst e hb;exact hj (List.mem_append_right _ ha)
theorem sq (L:List Nat): ∀(vs:List V) (F:List Nat) (k:Nat),k∈vs.foldl (ly L) F↔k∈F∨(V.o k∈vs∧k∉L)
 | [],F,k=>by simp
 |u::vs,F,k=>by
  rw[List.foldl_cons,sq L vs,yL,List.mem_cons]
  constructor
  ·rintro((h| ⟨h,h2⟩) | ⟨h,h2⟩)
   ·exact Or.inl h
   ·exact Or.inr ⟨Or.inl h.symm,h2⟩
   ·exact Or.inr ⟨Or.inr h,h2⟩
  ·rintro(h| ⟨h|h,h2⟩)
   ·exact Or.inl (Or.inl h)
   ·exact Or.inl (Or.inr ⟨h.symm,h2⟩)
   ·exact Or.inr ⟨h,h2⟩
theorem nZ (L:List Nat): ∀(vs:List V) (F:List Nat),F.Nodup→(vs.foldl (ly L) F).Nodup
 | [],F,h=>h
 |u::vs,F,h=>nZ L vs _ (uk u h)
theorem gy (L:List Nat) (vs:List V) (k:Nat):k∈jp L vs↔V.o k∈vs∧k∉L:=by
 unfold jp;rw[sq];simp
theorem od (L:List Nat) (vs:List V):(jp L vs).Nodup:=nZ L vs [] (by simp)
theorem su (L:List Nat) (vs:List V):(jp L vs).length≤vs.length:=by
 have: ∀(vs:List V) (F:List Nat),(vs.foldl (ly L) F).length≤F.length+vs.length:=by
  intro vs
  induction vs with
  |nil=>intro F;simp
  |cons u vs ih=>
   intro F;rw[List.foldl_cons];refine Nat.le_trans (ih _) ?_
   have:(ly L F u).length≤F.length+1:=by
    unfold ly
    cases u with
    |i n=>simp
    |z=>simp
    |o j=>simp only;split<;>simp
   simp only[List.length_cons];omega
 have h:=this vs [];simp only[List.length_nil,Nat.zero_add]at h;exact h
def iE (n:Nat) (u:V):Prop:=(∃m,u= .i m)∨u= .z∨ ∃k,u= .o k∧k<n
theorem iE.lt {n k:Nat} (h:iE n (.o k)):k<n:=by
 rcases h with⟨m,h⟩ |h| ⟨j,h,hj⟩
 ·cases h
 ·cases h
 ·cases h;exact hj
structure sw (hp:List Ob) (vs:List V) (i:Nat) (F:List Nat):Prop where
 nd:F.Nodup
 lt: ∀j∈F,j<hp.length
 root: ∀k,V.o k∈vs→k∈F
 fld: ∀(m j:Nat) o,m<i→F[m]?=some j→hp[j]?=some o→ ∀k,V.o k∈o.fs→k∈F
 rch: ∀j∈F,Rch hp (fun k=>V.o k∈vs) j
theorem oe {hp:List Ob} {vs:List V} (h: ∀u∈vs,iE hp.length u):sw hp vs 0 (jp [] vs):=by
 refine⟨od _ _,fun j hj=> ?_,fun k hk=>(gy [] vs k).2 ⟨hk,by simp⟩,fun m j o hm=>absurd hm (by omega),fun j hj=> ?_⟩
 ·exact(h _ ((gy [] vs j).1 hj).1).lt
 ·exact Rch.root j ((gy [] vs j).1 hj).1
theorem pD {hp:List Ob} {vs:List V} {i j:Nat} {F:List Nat} {o:Ob} (h:sw hp vs i F) (hi:F[i]?=some j) (ho:hp[j]?=some o) (hv: ∀u∈o.fs,iE hp.length u):sw hp vs (i+1) (F++jp F o.fs):=by
 have a0:i<F.length:=(List.getElem?_eq_some_iff.1 hi).1;refine⟨?_,fun k hk=> ?_,fun k hk=>List.mem_append_left _ (h.root k hk),fun m q p hm hq hp' k hk=> ?_,fun k hk=> ?_⟩
 ·rw[List.nodup_append];refine⟨h.nd,od _ _,fun a ha b hb e=> ?_⟩;subst e;exact((gy F o.fs a).1 hb).2 ha
 ·rcases List.mem_append.1 hk with hk|hk
  ·exact h.lt k hk
  ·exact(hv _ ((gy F o.fs k).1 hk).1).lt
 ·rw[List.getElem?_append_left (by omega)]at hq
  by_cases e:m=i
  ·subst e;rw[hi]at hq
   cases hq
   rw[ho]at hp'
   cases hp'
   by_cases hF:k∈F
   ·exact List.mem_append_left _ hF
   ·exact List.mem_append_right _ ((gy F o.fs k).2 ⟨hk,hF⟩)
  ·exact List.mem_append_left _ (h.fld m q p (by omega) hq hp' k hk)
 ·rcases List.mem_append.1 hk with hk|hk
  ·exact h.rch k hk
  ·exact Rch.field j k o (h.rch j (List.mem_of_getElem? hi)) ho ((gy F o.fs k).1 hk).1
def jl (hp:List Ob) (k:Nat):Nat:=1+((hp[k]?.map (·.fs)).getD []).length
theorem sx {hp:List Ob} {vs:List V} {i:Nat} {F:List Nat} (h:sw hp vs i F) (hi:F.length≤i):dH hp (fun k=>V.o k∈vs)=(F.map (jl hp)).sum:=by
 have a0: ∀k,Rch hp (fun k=>V.o k∈vs) k→k∈F:=by
  intro k hk
  induction hk with
  |root k hk=>exact h.root k hk
  |field j k o _ ho hk ih=>
   obtain⟨m,hm,e⟩:=List.getElem_of_mem ih;exact h.fld m j o (by omega) (by rw[List.getElem?_eq_getElem hm,e]) ho k hk
 unfold dH;refine List.Perm.sum_nat (List.Perm.map _ ?_);refine(List.perm_ext_iff_of_nodup (List.Pairwise.filter _ List.nodup_range) h.nd).2 fun k=> ?_
 rw[List.mem_filter,List.mem_range]
 constructor
 ·rintro⟨_,h2⟩;exact a0 k (@of_decide_eq_true _ (Classical.propDecidable _) h2)
 ·exact fun hk=>⟨h.lt k hk, @decide_eq_true _ (Classical.propDecidable _) (h.rch k hk)⟩
theorem lz {hp:List Ob} {vs:List V} {i:Nat} {F:List Nat} (h:sw hp vs i F):F.length≤hp.length:=by
 have:=List.Nodup.length_le_of_subset h.nd (fun j hj=>List.mem_range.2 (h.lt j hj));simpa using this
theorem qF {hp:List Ob} {p q:Nat→Prop} (h: ∀k,p k↔q k):dH hp p=dH hp q:=by
 have:p=q:=funext fun k=>propext (h k)
 rw[this]
end
end Go.Proofs.YtpfkkmacakjmbaaGreatDoor
