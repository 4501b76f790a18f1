import Derived.Test.YtpfkkmacakjmbaaGreatDoorP07
import Derived.Lib.ItoaLen
set_option maxRecDepth 100000
set_option maxHeartbeats 6400000
set_option linter.all false
namespace Go.Proofs.YtpfkkmacakjmbaaGreatDoor
namespace Sp
def VT (cs:List Cls) (hp:List Ob) (t:UInt8):V->Prop
 | .i n=>t.toNat=105/\ -2147483648<=n/\n<2147483648
 | .z=>isR t=true
 | .o k=>isC t=true/\ ∃ob,hp[k]?=some ob/\bF cs 5 ob.cls ((t.toNat:Int)-65)=true
structure HT (cs:List Cls) (hp:List Ob):Prop where
 cls: ∀(k:Nat) ob,hp[k]?=some ob->ob.cls<cs.length
 len: ∀(k:Nat) ob,hp[k]?=some ob->ob.fs.length=(bJ cs ob.cls).length
 fs: ∀(k:Nat) ob (j:Nat) v,hp[k]?=some ob->ob.fs[j]?=some v->VT cs hp ((bJ cs ob.cls).getD j 0) v
structure LT (cs:List Cls) (hp:List Ob) (lo:L_) (l:List V):Prop where
 len:l.length=lo.length
 at': ∀(j:Nat) v,l[j]?=some v->VT cs hp (lo.getD j 0) v
def Ext (hp hp':List Ob):Prop:=hp.length<=hp'.length/\ ∀(k:Nat) ob,hp[k]?=some ob-> ∃ob',hp'[k]?=some ob'/\ob'.cls=ob.cls
theorem Ext.refl (hp:List Ob):Ext hp hp:=⟨b8 _,λ_ ob h=>⟨ob,h,rfl⟩⟩
theorem Ext.trans {a b c:List Ob} (h:Ext a b) (k:Ext b c):Ext a c:=⟨Nat.le_trans h.1 k.1,λi ob hi=>by
 obtain⟨a0,h1,e1⟩:=h.2 i ob hi;obtain⟨a1,h2,e2⟩:=k.2 i a0 h1;exact⟨a1,h2,e2.trans e1⟩⟩
theorem VT.ext {cs:List Cls} {hp hp':List Ob} {t:UInt8} {v:V} (h:VT cs hp t v) (he:Ext hp hp'):VT cs hp' t v:=by
 cases v with
 |i n=>exact h
 |z=>exact h
 |o k=>
  obtain⟨h1,ob,h2,h3⟩:=h;obtain⟨ob',h4,h5⟩:=he.2 k ob h2;exact⟨h1,ob',h4,by rw[h5];exact h3⟩
theorem LT.ext {cs:List Cls} {hp hp':List Ob} {lo:L_} {l:List V} (h:LT cs hp lo l) (he:Ext hp hp'):LT cs hp' lo l:=⟨h.len,λj v hv=>(h.at' j v hv).ext he⟩
theorem cC {c:UInt8} (h:isC c=true):isR c=true:=by simp[isR,h]
theorem VT.sub {cs:List Cls} {hp:List Ob} (hw:WfC cs) (hn:cs.length<=4) (hh:HT cs hp) {t t':UInt8} {v:V} (h:VT cs hp t v) (hs:cy cs t t'=true) (h45:t'.toNat≠45):VT cs hp t' v:=by
 obtain h1|h1| ⟨h1,h2⟩ | ⟨h1,h2,h3⟩:=aY.1 hs
 .subst h1;exact h
 .exact absurd h1 h45
 .cases v with
  |i n=>exact absurd h.1 (by omega)
  |z=>exact cC h1
  |o k=>have:=cI.1 h.1;omega
 .cases v with
  |i n=>have:=cI.1 h1;have:=h.1;omega
  |z=>exact cC h2
  |o k=>
   obtain⟨_,ob,h5,h6⟩:=h;have:=hh.cls k ob h5;exact⟨h2,ob,h5,xe hw 4 (by omega) (by omega) h6 h3⟩
theorem VT.int {cs:List Cls} {hp:List Ob} {t:UInt8} {v:V} (h:VT cs hp t v) (ht:t.toNat=105): ∃n,v= .i n/\ -2147483648<=n/\n<2147483648:=by
 cases v with
 |i n=>exact⟨n,rfl,h.2⟩
 |z=>have h:isR t=true:=h;simp[isR,isC,ht]at h
 |o k=>have:=cI.1 h.1;omega
theorem VT.ref {cs:List Cls} {hp:List Ob} {t:UInt8} {v:V} (h:VT cs hp t v) (ht:isR t=true):v= .z\/ ∃k ob,v= .o k/\hp[k]?=some ob/\isC t=true/\bF cs 5 ob.cls ((t.toNat:Int)-65)=true:=by
 cases v with
 |i n=>have:=h.1;simp[isR,isC,this]at ht
 |z=>exact Or.inl rfl
 |o k=>obtain⟨h1,ob,h2,h3⟩:=h;exact Or.inr ⟨k,ob,rfl,h2,h1,h3⟩
theorem vZ {n:Nat} (hn:n<=4) {c:UInt8} (h:cZ n c=true):c.toNat=105\/isC c=true:=by
 simp[cZ,aN]at h;obtain h|h:=h
 .exact Or.inl h
 .exact Or.inr (cI.2 (by omega))
theorem jr {n:Nat} {c:UInt8} (h:cZ n c=true):c.toNat≠45:=by
 simp[cZ,aN]at h;omega
theorem jP {cs:List Cls} {hp:List Ob} {n:Nat} (hn:n<=4) {c:UInt8} (h:cZ n c=true):VT cs hp c (dc c):=by
 unfold dc;obtain h1|h1:=vZ hn h
 .rw[if_pos h1];exact⟨h1,by omega,by omega⟩
 .rw[if_neg (by have:=cI.1 h1;omega)];exact cC h1
theorem fI {a:Nat} (h:a<4):isC (dI a)=true/\((dI a).toNat:Int)-65=a:=by
 match a,h with
 |0,_=>exact⟨by decide,by decide⟩
 |1,_=>exact⟨by decide,by decide⟩
 |2,_=>exact⟨by decide,by decide⟩
 |3,_=>exact⟨by decide,by decide⟩
theorem nR (n:Int): -2147483648<=w32 n/\w32 n<2147483648:=by
 unfold w32 RowKit.wrap32;omega
theorem pK (op:Nat) (a b:Int): -2147483648<=oI op a b/\oI op a b<2147483648:=by
 unfold oI
 repeat' split
 all_goals first|exact nR _|omega
theorem ox (s:ByteArray) (i:Nat): -2147483648<=jH s i/\jH s i<2147483648:=by
 unfold jH
 split
 .rename_i h;have:=s[i].toNat_lt;omega
 .omega
theorem so {t:List Ins} {g:Nat->Option UInt8} {k:Nat} {ts:L_} (h:cz t g 1 k=some ts): ∃a,g k=some a/\ts=[a]:=by
 simp only[cz]at h
 cases ha:g k with
 |none=>rw[ha]at h;cases h
 |some a=>rw[ha]at h;simp at h;exact⟨a,rfl,h.symm⟩
theorem mZ {t:List Ins} {g:Nat->Option UInt8} {k:Nat} {ts:L_} (h:cz t g 2 k=some ts): ∃a b,g k=some a/\g (bO t k)=some b/\ts=[a,b]:=by
 rw[cz]at h
 cases ha:g k with
 |none=>rw[ha]at h;cases h
 |some a=>
  rw[ha]at h;simp only[Option.map_eq_some_iff]at h;obtain⟨us,hu,rfl⟩:=h;obtain⟨b,hb,rfl⟩:=so hu;exact⟨a,b,rfl,hb,rfl⟩
theorem sp {t:List Ins} {g:Nat->Option UInt8} {k:Nat} {ts:L_} (h:cz t g 3 k=some ts): ∃a b c,g k=some a/\g (bO t k)=some b/\g (bO t (bO t k))=some c/\ts=[a,b,c]:=by
 rw[cz]at h
 cases ha:g k with
 |none=>rw[ha]at h;cases h
 |some a=>
  rw[ha]at h;simp only[Option.map_eq_some_iff]at h;obtain⟨us,hu,rfl⟩:=h;obtain⟨b,c,hb,hc,rfl⟩:=mZ hu;exact⟨a,b,c,rfl,hb,hc,rfl⟩
theorem xp {cs:List Cls} {a b:UInt8} (h:eG cs [a] [b]=true):cy cs a b=true:=by
 simpa[eG,List.range,List.range.loop]using h
theorem AM {cs:List Cls} {a b c d:UInt8} (h:eG cs [a,b] [c,d]=true):cy cs a c=true/\cy cs b d=true:=by
 simpa[eG,List.range,List.range.loop]using h
theorem yD {bs:List Bod} {x m:Int} (h:0<=gI bs x m): ∃b,bs[(gI bs x m).toNat]?=some b/\b.cls=x/\b.meth=m:=by
 unfold gI at*
 cases ho:jC bs x m with
 |none=>rw[ho]at h;simp at h
 |some j=>
  simp;unfold jC at ho;rw[List.findIdx?_eq_some_iff_getElem]at ho;obtain⟨hj,h1,_⟩:=ho;simp at h1;exact⟨bs[j],aH hj,h1.1,h1.2⟩
theorem pL {cs:List Cls} {bs:List Bod} {m:Int}: ∀{f:Nat} {x:Int},0<=cY cs bs m f x-> ∃b,bs[(cY cs bs m f x).toNat]?=some b/\b.meth=m/\bF cs f x b.cls=true/\0<=b.cls:=by
 intro f
 induction f with
 |zero=>intro x h;simp[cY]at h
 |succ f ih=>
  intro x h;simp only[cY]at h⊢
  by_cases hx:x<0
  .rw[if_pos hx]at h;simp at h
  .rw[if_neg hx]at h⊢
   by_cases ho:0<=gI bs x m
   .rw[if_pos ho];obtain⟨b,h1,h2,h3⟩:=yD ho;exact⟨b,h1,h3,by simp[bF,hx,h2],by omega⟩
   .rw[if_neg ho]at h⊢;obtain⟨b,h1,h2,h3,h4⟩:=ih h;refine⟨b,h1,h2,?_,h4⟩;simp only[bF];rw[if_neg hx]
    split
    .rfl
    .exact h3
theorem wb {cs:List Cls} {bs:List Bod} {m:Int} (hw:WfC cs): ∀{f:Nat} {x:Int},x<f->cY cs bs m f x=cY cs bs m (f+1) x:=by
 intro f
 induction f with
 |zero=>intro x hx;simp[cY];intro h;omega
 |succ f ih=>
  intro x hx;rw[cY]
  conv=>rhs;rw[cY]
  split
  .rfl
  .split
   .rfl
   .exact ih (by have:=dW hw (p:=x) (by omega);omega)
theorem li {cs:List Cls} {bs:List Bod} {m:Int} (hw:WfC cs): ∀(k:Nat) {x y:Int},x<=k->k<=4->bF cs 5 x y=true->0<=cY cs bs m 5 y->0<=cY cs bs m 5 x:=by
 intro k
 induction k with
 |zero=>
  intro x y hx hk h hf;have:=vB hw 0 hx hk h;have:x=y:=by omega
  subst this;exact hf
 |succ k ih=>
  intro x y hx hk h hf;have h0:=vB hw (k+1) hx hk h;obtain h1|h1:=(fE hw (by omega) (by omega)).1 h
  .subst h1;exact hf
  .have hp:=dW hw (p:=x) (by omega);have h2:=ih (x:=cX cs x) (by omega) (by omega) h1 hf;rw[cY];rw[if_neg (by omega)]
   split
   .assumption
   .rw[wb hw (by omega)];exact h2
variable {B:Nat}
structure StT (im:Img) (B:Nat) (s:Ev):Prop where
 ht:HT im.zz s.heap
 cap:s.heap.length+s.left<=4000
 outn:s.out.length+22*s.left<=B
 bb:B<=88000
 rd:s.read+s.left<=4000
structure eT (im:Img):Prop where
 wf:jG im
 we:WfE im
 lk: ∀b∈im.zq,∀x∈b.code,x.op.toNat=99->0<=cY im.zz im.zq x.b 5 x.a
 ty: ∀b∈im.zq,fe im b=true
def gr (im:Img) (B:Nat) (lo:L_) (t:UInt8) (s0:Ev) (n:Nat):R->Prop
 | .bad e o=>5<=e/\e<=10/\o.length<=88000
 | .ok v l s=>VT im.zz s.heap t v/\LT im.zz s.heap lo l/\StT im B s/\Ext s0.heap s.heap/\s.left<=n
theorem StT.o {im:Img} {s:Ev} (h:StT im B s):s.out.length<=88000:=by have:=h.outn;have:=h.bb;omega
theorem StT.mono {im:Img} {B':Nat} {s:Ev} (h:StT im B s) (hb:B<=B') (hb2:B'<=88000):StT im B' s:=⟨h.ht,h.cap,by have:=h.outn;omega,hb2,h.rd⟩
theorem gr.bad' {im:Img} {lo:L_} {t:UInt8} {s0 s:Ev} {n e:Nat} (h:StT im B s) (h1:5<=e) (h2:e<=10):gr im B lo t s0 n (.bad e s.out):=⟨h1,h2,h.o⟩
theorem eT.cls4 {im:Img} (h:eT im):im.zz.length<=4:=h.wf.nc
theorem iG {cs:List Cls} {a k:Nat}:cO cs a k=(bJ cs a).getD k 0:=rfl
theorem uh {im:Img} (h:eT im) {a k:Nat} (ha:a<im.zz.length) (hk:k<bH im.zz a):cZ im.zz.length (cO im.zz a k)=true:=by
 have h1:=h.wf.cls a _ (aH ha);have e:bJ im.zz a=im.zz[a].fields:=by simp[bJ,ha]
 rw[iG,e];have a0:k<im.zz[a].fields.length:=by unfold bH at hk;simpa[ha]using hk
 rw[co,aH a0];exact fK (by omega) (h1.2.2.2 _ (cN a0))
theorem ui {im:Img} {inp:ByteArray} (h:eT im) {b:Bod} (hb:lM im.zz im.zj b) {x:Ins} (hx:WfN im.zz im.zj.length b.locals.length x) (hx0:aA x.op=0) {t:UInt8} (ht:bT im.zz im.zj b.locals x []=some t) {l:List V} {s s0:Ev} (hl:LT im.zz s.heap b.locals l) (hs:StT im B s) (hc:s.heap.length+s.left+1<=4000) (hr:s.read+s.left+1<=4000) (he:Ext s0.heap s.heap) {n:Nat} (hn:s.left<=n):gr im B b.locals t s0 n (og im inp x l s):=by
 have h4:=h.cls4;have ho:=hx.op
 have hg:t=cj im.zz im.zj b.locals x/\x.op.toNat≠103/\x.op.toNat≠99:=by
  unfold aA at hx0
  split at hx0
  .omega
  .split at hx0
   .omega
   .split at hx0
    .omega
    .rename_i h1 h2 h3
     simp at h1 h2 h3;unfold bT dJ arith at ht;simp[h1,h2,h3]at ht;exact⟨ht.symm,by omega,by omega⟩
 obtain⟨rfl,a0,a5⟩:=hg;unfold og cj
 by_cases h114:x.op.toNat=114
 .simp only[h114,if_true,if_false,Nat.reduceEqDiff];exact⟨⟨by decide,ox _ _⟩,hl,⟨hs.ht,hs.cap,hs.outn,hs.bb,by have:=hs.rd;simp;omega⟩,he,hn⟩
 by_cases h122:x.op.toNat=122
 .simp only[h122,if_true,if_false,Nat.reduceEqDiff];exact⟨show isR 122=true by decide,hl,hs,he,hn⟩
 by_cases h108:x.op.toNat=108
 .simp only[h108,if_true,if_false,Nat.reduceEqDiff];have a7:=hx.loc (Or.inl h108);have a3:x.b<l.length:=by rw[hl.len];exact a7
  refine⟨?_,hl,hs,he,hn⟩;rw[co (l:=l),aH a3];exact hl.at' _ _ (aH a3)
 by_cases h110:x.op.toNat=110
 .simp only[h110,if_true,if_false,Nat.reduceEqDiff];have a4:=hx.cls (Or.inl h110);obtain⟨hC,a6⟩:=fI (a:=x.a) (by omega);have a2:Ext s.heap (s.heap++ [⟨x.a,cr im.zz x.a⟩]):=⟨by simp,λk ob hk=>⟨ob,by rw[fN (bC hk).1];exact hk,rfl⟩⟩
  have a1: ∀(k:Nat) ob,(s.heap++ [⟨x.a,cr im.zz x.a⟩])[k]?=some ob->s.heap[k]?=some ob\/ob=⟨x.a,cr im.zz x.a⟩:=λk ob hk=>by
   obtain hl|hl:=Nat.lt_or_ge k s.heap.length
   .rw[fN hl]at hk;exact Or.inl hk
   .rw[List.getElem?_append_right hl]at hk
    cases hq:k-s.heap.length with
    |zero=>rw[hq]at hk;simp at hk;exact Or.inr hk.symm
    |succ q=>rw[hq]at hk;simp at hk
  refine⟨⟨hC,⟨x.a,cr im.zz x.a⟩,by simp,by rw[a6];exact pd h.wf.cls (by omega)⟩,hl.ext a2,⟨⟨?_,?_,?_⟩,by simp;omega,hs.outn,hs.bb,hs.rd⟩,he.trans a2,hn⟩
  .intro k ob hk;obtain h1|h1:=a1 k ob hk
   .exact hs.ht.cls k ob h1
   .subst h1;exact a4
  .intro k ob hk;obtain h1|h1:=a1 k ob hk
   .exact hs.ht.len k ob h1
   .subst h1;simp[cr]
  .intro k ob j v hk hv;obtain h1|h1:=a1 k ob hk
   .exact(hs.ht.fs k ob j v h1 hv).ext a2
   .subst h1;simp only[cr,cg,Option.map_eq_some_iff]at hv;obtain⟨c,hc,rfl⟩:=hv;have hj:=(bC hc).1;have e:(bJ im.zz x.a).getD j 0=c:=by rw[co,hc];rfl
    simp only[e];refine jP h4 ?_;have:=uh h (a:=x.a) (k:=j) a4 (by unfold bH;exact hj);rw[iG,e]at this;exact this
 .simp only[h114,h122,h108,h110,a0,a5,if_false];exact⟨⟨by decide,by omega,by have:=hx.num;omega⟩,hl,hs,he,hn⟩
theorem Ev.at {s:Ev} {k:Nat} {ob:Ob} (h:s.heap[k]?=some ob):s.cls k=ob.cls/\s.fs k=ob.fs:=by simp[Ev.cls,Ev.fs,h]
theorem uj {im:Img} (h:eT im) {s:Ev} (hs:StT im B s) {a j k:Nat} {ob:Ob} (ha:a<im.zz.length) (hj:j<bH im.zz a) (hk:s.heap[k]?=some ob) (hu:bF im.zz 5 ob.cls a=true):
  j<ob.fs.length/\(bJ im.zz ob.cls).getD j 0=cO im.zz a j:=by
 have h4:=h.cls4;have hc:=hs.ht.cls k ob hk;have hp:=mN h.wf.cls h.we.fld 4 (x:=ob.cls) (y:=a) (by omega) (by omega) (by omega) hu;simp only[Int.toNat_natCast]at hp;obtain⟨u,hu⟩:=hp;have a0:j<(bJ im.zz a).length:=hj;refine⟨by rw[hs.ht.len k ob hk,<-hu];simp;omega,?_⟩;rw[<-hu,iG,co,co,fN a0]
theorem wc {im:Img} (h:eT im) {b:Bod} (hb:lM im.zz im.zj b) {x:Ins} (hx:WfN im.zz im.zj.length b.locals.length x) (hx1:aA x.op=1) {t a:UInt8} (ht:bT im.zz im.zj b.locals x [a]=some t) {v:V} {l:List V} {s s0:Ev} (hv:VT im.zz s.heap a v) (hl:LT im.zz s.heap b.locals l) (hs:StT im B s) (ho1:s.out.length+22*s.left+22<=B) (he:Ext s0.heap s.heap) {n:Nat} (hn:s.left<=n):gr im B b.locals t s0 n (tj im x v l s):=by
 have h4:=h.cls4
 have a3:x.op.toNat=115\/x.op.toNat=103\/x.op.toNat=120\/x.op.toNat=119:=by
  unfold aA at hx1
  split at hx1
  .omega
  .split at hx1
   .omega
   .split at hx1
    .rename_i h3;simpa using h3
    .omega
 unfold tj;obtain h1|h1|h1|h1:=a3
 .have a0:=hx.loc (Or.inr h1);simp[bT,dJ,cj,arith,h1]at ht;obtain⟨hf,rfl⟩:=ht;have a4:=hb.loc.2 _ (cN a0);have e:b.locals.getD x.b 0=b.locals[x.b]:=by rw[co,aH a0];rfl
  have hv':=hv.sub h.wf.cls h4 hs.ht (t':=b.locals.getD x.b 0) (xp (by simpa using hf)) (by rw[e];exact jr a4);simp only[h1,if_true];refine⟨⟨by decide,by omega,by omega⟩,⟨by simp[hl.len],λj w hw=> ?_⟩,hs,he,hn⟩;rw[List.getElem?_set]at hw
  split at hw
  .rename_i hj
   subst hj
   split at hw
   .cases hw;exact hv'
   .cases hw
  .exact hl.at' j w hw
 .have a2:=hx.cls (by omega);have a0:=hx.fld (by omega);simp[bT,dJ,cj,arith,h1]at ht;obtain⟨hf,rfl⟩:=ht;obtain⟨hC,a1⟩:=fI (a:=x.a) (by omega);have hv':=hv.sub h.wf.cls h4 hs.ht (t':=dI x.a) (xp (by simpa using hf)) (by have:=cI.1 hC;omega);simp only[h1,if_false,Nat.reduceEqDiff];obtain rfl| ⟨k,ob,rfl,hk,_,hu⟩:=hv'.ref (cC hC)
  .exact gr.bad' hs (by omega) (by omega)
  .rw[a1]at hu;obtain⟨g1,g2⟩:=uj h hs a2 a0 hk hu;simp only[(Ev.at hk).2];refine⟨?_,hl,hs,he,hn⟩;rw[<-g2,co (l:=ob.fs),aH g1];exact hs.ht.fs k ob x.b _ hk (aH g1)
 .have a2:=hx.cls (by omega);simp[bT,dJ,cj,arith,h1]at ht;obtain⟨hf,rfl⟩:=ht;obtain⟨hC,a1⟩:=fI (a:=x.a) (by omega);simp only[h1,if_true,if_false,Nat.reduceEqDiff];obtain rfl| ⟨k,ob,rfl,hk,_,hu⟩:=hv.ref hf
  .exact⟨cC hC,hl,hs,he,hn⟩
  .simp only[(Ev.at hk).1]
   split
   .rename_i hu'
    exact⟨⟨hC,ob,hk,by rw[a1];exact hu'⟩,hl,hs,he,hn⟩
   .exact gr.bad' hs (by omega) (by omega)
 .simp[bT,dJ,cj,arith,h1]at ht;obtain⟨hf,rfl⟩:=ht;have hv':=hv.sub h.wf.cls h4 hs.ht (t':=105) (xp (by simpa using hf)) (by decide);obtain⟨m,rfl,hm⟩:=hv'.int (by decide);simp only[h1,if_true,if_false,Nat.reduceEqDiff];have hi:=Lib.itoa_length_le m (by omega) (by omega);exact⟨⟨by decide,by omega,by omega⟩,hl,⟨hs.ht,hs.cap,by simp[Ev.say,V.N];omega,hs.bb,hs.rd⟩,he,hn⟩
theorem sq {im:Img} {op:Nat} {lo:L_} {a b:Int} {l:List V} {s s0:Ev} (hl:LT im.zz s.heap lo l) (hs:StT im B s) (he:Ext s0.heap s.heap) {n:Nat} (hn:s.left<=n):gr im B lo 105 s0 n (eP op a b l s):=by
 unfold eP
 split
 .split
  .exact gr.bad' hs (by omega) (by omega)
  .exact⟨⟨by decide,nR _⟩,hl,hs,he,hn⟩
 .exact⟨⟨by decide,pK _ _ _⟩,hl,hs,he,hn⟩
theorem yE {im:Img} {s:Ev} (hs:StT im B s) {k j:Nat} {v:V} {ob:Ob} (hk:s.heap[k]?=some ob) (hv:VT im.zz s.heap ((bJ im.zz ob.cls).getD j 0) v):StT im B (s.put k j v)/\Ext s.heap (s.put k j v).heap:=by
 have a2:=(bC hk).1;have e:(s.put k j v).heap=s.heap.set k ⟨ob.cls,ob.fs.set j v⟩:=by simp[Ev.put,(Ev.at hk).1,(Ev.at hk).2]
 have a1: ∀(i:Nat) ob',(s.put k j v).heap[i]?=some ob'->(i=k/\ob'=⟨ob.cls,ob.fs.set j v⟩)\/s.heap[i]?=some ob':=λi ob' hi=>by
  rw[e,List.getElem?_set]at hi
  split at hi
  .rename_i h1;subst h1
   cases hi
   exact Or.inl ⟨rfl,rfl⟩
  .exact Or.inr hi
 have a0:Ext s.heap (s.put k j v).heap:=by
  refine⟨by rw[e];simp,λi ob' hi=> ?_⟩;rw[e,List.getElem?_set]
  split
  .rename_i h1
   subst h1;rw[hk]at hi
   cases hi
   exact⟨⟨ob.cls,ob.fs.set j v⟩,by simp[a2],rfl⟩
  .exact⟨ob',hi,rfl⟩
 refine⟨⟨⟨λi ob' hi=> ?_,λi ob' hi=> ?_,λi ob' m w hi hw=> ?_⟩,by rw[e];simpa[Ev.put]using hs.cap,hs.outn,hs.bb,hs.rd⟩,a0⟩
 .obtain⟨_,rfl⟩ |h1:=a1 i ob' hi
  .exact hs.ht.cls k ob hk
  .exact hs.ht.cls i ob' h1
 .obtain⟨_,rfl⟩ |h1:=a1 i ob' hi
  .simpa using hs.ht.len k ob hk
  .exact hs.ht.len i ob' h1
 .obtain⟨_,rfl⟩ |h1:=a1 i ob' hi
  .simp only[List.getElem?_set]at hw
   split at hw
   .rename_i hm
    subst hm
    split at hw
    .cases hw;exact hv.ext a0
    .cases hw
   .exact(hs.ht.fs k ob m w hk hw).ext a0
  .exact(hs.ht.fs i ob' m w h1 hw).ext a0
variable {B:Nat}
theorem gr.up {im:Img} {lo:L_} {t:UInt8} {s0:Ev} {n B':Nat} {r:R} (h:gr im B lo t s0 n r) (hb:B<=B') (hb2:B'<=88000):gr im B' lo t s0 n r:=by
 cases r with
 |bad e o=>exact h
 |ok v l s=>exact⟨h.1,h.2.1,h.2.2.1.mono hb hb2,h.2.2.2.1,h.2.2.2.2⟩
theorem gr.weaken {im:Img} {lo:L_} {t:UInt8} {s0 s1:Ev} {n m:Nat} {r:R} (h:gr im B lo t s1 n r) (he:Ext s0.heap s1.heap) (hn:n<=m):gr im B lo t s0 m r:=by
 cases r with
 |bad e o=>exact h
 |ok v l s=>exact⟨h.1,h.2.1,h.2.2.1,he.trans h.2.2.2.1,by have:=h.2.2.2.2;omega⟩
theorem su {im:Img} (h:eT im) {x:Ins} {s:Ev} (hs:StT im B s) {k:Nat} {ob:Ob} (hk:s.heap[k]?=some ob) (hxa:x.a<im.zz.length) (hxb:x.b<im.zj.length) (hu:bF im.zz 5 ob.cls x.a=true) (hf:0<=cY im.zz im.zq x.b 5 x.a) {v:V} (hv:VT im.zz s.heap (gY im.zj x.b) v):
  0<=cY im.zz im.zq x.b 5 (s.cls k)/\im.zq[(cY im.zz im.zq x.b 5 (s.cls k)).toNat]?=some (ck im x k s)/\ck im x k s∈im.zq/\(ck im x k s).meth=x.b/\0<=(ck im x k s).cls/\2<=(ck im x k s).locals.length/\LT im.zz s.heap (ck im x k s).locals (bn (ck im x k s) [.o k,v]):=by
 have h4:=h.cls4;have hc:=hs.ht.cls k ob hk;have e1:=(Ev.at hk).1;have a4:=li (bs:=im.zq) (m:=x.b) h.wf.cls 4 (x:=ob.cls) (y:=x.a) (by omega) (by omega) hu hf;obtain⟨b,a1,a7,a8,a3⟩:=pL a4;have e2:ck im x k s=b:=by simp[ck,e1,a1]
 rw[e1,e2];have a2:b∈im.zq:=bp a1;obtain⟨t,ht⟩:=h.we.loc b a2 a3;have a5:=h.wf.bod b a2
 have b0:b.cls.toNat<4:=by
  obtain h1|h1:=a5.cls
  .omega
  .omega
 refine⟨a4,a1,a2,a7,a3,by rw[ht];simp,?_⟩;have a0:=a5.loc.2;rw[ht]at a0⊢;have hm:b.meth.toNat=x.b:=by omega
 rw[hm];refine⟨by simp[bn,ht],λj w hw=> ?_⟩;simp only[bn,ht,List.length_cons,List.length_nil,List.drop_succ_cons,List.drop_zero,List.cons_append,List.nil_append]at hw
 match j,hw with
 |0,hw=>
  cases hw
  obtain⟨hC,a6⟩:=fI (a:=b.cls.toNat) b0;refine⟨hC,ob,hk,?_⟩;have:((UInt8.ofNat (65+b.cls.toNat)).toNat:Int)-65=b.cls:=by have:=a6;unfold dI at this;omega
  simp only[List.getD_cons_zero];rw[this];exact a8
 |1,hw=>cases hw;simpa using hv
 |j+2,hw=>
  simp only[List.getElem?_cons_succ,cg,Option.map_eq_some_iff]at hw;obtain⟨c,hc,rfl⟩:=hw;have e3:(UInt8.ofNat (65+b.cls.toNat)::gY im.zj x.b::t).getD (j+2) 0=c:=by simp[hc]
  rw[e3];exact jP h4 (a0 c (by simp[bp hc]))
theorem Dp {im:Img} (h:eT im) {k:Nat} (hk:k<im.zj.length):cZ im.zz.length (gY im.zj k)=true/\cZ im.zz.length (gZ im.zj k)=true:=by
 have:=h.wf.sig _ (cN hk);simpa[gY,gZ,hk]using this
theorem wg {im:Img} (h:eT im) {b:Bod} (hb:lM im.zz im.zj b) (hbm:b∈im.zq) {x:Ins} (hx:WfN im.zz im.zj.length b.locals.length x) (hxm:x∈b.code) (hx2:aA x.op=2) (hx111:x.op.toNat≠111) {t a c:UInt8} (ht:bT im.zz im.zj b.locals x [a,c]=some t) {u v:V} {l:List V} {s s0:Ev} (hu:VT im.zz s.heap a u) (hv:VT im.zz s.heap c v) (hl:LT im.zz s.heap b.locals l) (hs:StT im B s) (he:Ext s0.heap s.heap) {n:Nat} (hn:s.left<=n)
  {call:Bod->List V->R} {d:Nat} (hcall: ∀b'∈im.zq,∀l' t' F,cS im.zz im.zj b'.locals b'.code F 0=some t'->LT im.zz s.heap b'.locals l'->gr im B b'.locals t' s s.left (call b' l')):gr im B b.locals t s0 n (tk im call d x u v l s):=by
 have h4:=h.cls4
 have a8:arith x.op.toNat=true\/x.op.toNat=101\/x.op.toNat=112\/x.op.toNat=99\/x.op.toNat=44:=by
  unfold aA at hx2
  split at hx2
  .omega
  .split at hx2
   .rename_i h3;simp[arith]at h3⊢;omega
   .split at hx2<;>omega
 unfold tk;obtain h1|h1|h1|h1|h1:=a8
 .have a5:x.op.toNat≠44/\x.op.toNat≠101/\x.op.toNat≠99/\x.op.toNat≠112/\x.op.toNat≠120/\x.op.toNat≠105/\x.op.toNat≠122/\x.op.toNat≠108/\x.op.toNat≠110/\x.op.toNat≠103:=by
   simp[arith]at h1;omega
  have b0:t=105:=by
   simp[bT,dJ,cj,h1,a5,hx111]at ht;exact ht.2.symm
  subst b0;simp only[a5,if_false];exact sq hl hs he hn
 .simp[bT,dJ,cj,arith,h1]at ht;obtain⟨_,rfl⟩:=ht;simp only[h1,if_true,if_false,Nat.reduceEqDiff];refine⟨?_,hl,hs,he,hn⟩
  split<;>exact⟨by decide,by omega,by omega⟩
 .have a2:=hx.cls (by omega);have a1:=hx.fld (by omega);simp[bT,dJ,cj,arith,h1]at ht;obtain⟨hf,rfl⟩:=ht;obtain⟨hC,a3⟩:=fI (a:=x.a) (by omega);obtain⟨f1,f2⟩:=AM (by simpa using hf);have a4:=hu.sub h.wf.cls h4 hs.ht (t':=dI x.a) f1 (by have:=cI.1 hC;omega);have hv':=hv.sub h.wf.cls h4 hs.ht (t':=cO im.zz x.a x.b) f2 (jr (uh h a2 a1));simp only[h1,if_true,if_false,Nat.reduceEqDiff];obtain rfl| ⟨k,ob,rfl,hk,_,hun⟩:=a4.ref (cC hC)
  .exact gr.bad' hs (by omega) (by omega)
  .rw[a3]at hun;obtain⟨g1,g2⟩:=uj h hs a2 a1 hk hun;obtain⟨p1,p2⟩:=yE hs (j:=x.b) (v:=v) hk (by rw[g2];exact hv');exact⟨⟨by decide,by omega,by omega⟩,hl.ext p2,p1,he.trans p2,hn⟩
 .have a2:=hx.cls (by omega);have a1:=hx.sig h1;simp[bT,dJ,cj,arith,h1]at ht;obtain⟨hf,rfl⟩:=ht;obtain⟨hC,a3⟩:=fI (a:=x.a) (by omega);obtain⟨f1,f2⟩:=AM (by simpa using hf);obtain⟨a6,a7⟩:=Dp h a1;have a4:=hu.sub h.wf.cls h4 hs.ht (t':=dI x.a) f1 (by have:=cI.1 hC;omega);have hv':=hv.sub h.wf.cls h4 hs.ht (t':=gY im.zj x.b) f2 (jr a6);simp only[h1,if_true,if_false,Nat.reduceEqDiff];obtain rfl| ⟨k,ob,rfl,hk,_,hun⟩:=a4.ref (cC hC)
  .exact gr.bad' hs (by omega) (by omega)
  .rw[a3]at hun;simp only
   split
   .exact gr.bad' hs (by omega) (by omega)
   .obtain⟨_,_,q1,q2,q3,_,q4⟩:=su h hs hk a2 a1 hun (h.lk b hbm x hxm h1) hv';have a0:=h.ty _ q1;unfold fe at a0
    cases htn:cS im.zz im.zj (ck im x k s).locals (ck im x k s).code (ck im x k s).code.length 0 with
    |none=>rw[htn]at a0;cases a0
    |some t'=>
     rw[htn]at a0;simp only at a0;rw[if_neg (by omega),q2]at a0;simp only[Int.toNat_natCast]at a0;have hr:=hcall _ q1 _ _ _ htn q4
     cases hcr:call (ck im x k s) (bn (ck im x k s) [.o k,v])with
     |bad e o=>rw[hcr]at hr;exact hr
     |ok r l' s'=>
      rw[hcr]at hr;obtain⟨r1,r2,r3,r4,r5⟩:=hr;exact⟨r1.sub h.wf.cls h4 r3.ht a0 (jr a7),hl.ext r4,r3,he.trans r4,by omega⟩
 .simp[bT,dJ,cj,arith,h1]at ht;subst ht;simp only[h1,if_true];exact⟨hv,hl,hs,he,hn⟩
theorem uk {im:Img} {lo:L_} {c d:List V->Ev->R} {tc td:UInt8} {n:Nat} (hc: ∀l s,LT im.zz s.heap lo l->StT im B s->s.left<=n->gr im B lo tc s s.left (c l s)) (hd: ∀l s,LT im.zz s.heap lo l->StT im B s->s.left<=n->gr im B lo td s s.left (d l s)):
  ∀(k:Nat) (l:List V) (s:Ev),LT im.zz s.heap lo l->StT im B s->s.left<=n->gr im B lo 105 s s.left (iN c d k l s):=by
 intro k
 induction k with
 |zero=>intro l s _ hs _;exact gr.bad' hs (by omega) (by omega)
 |succ k ih=>
  intro l s hl hs hn;simp only[iN];have h1:=hc l s hl hs hn
  cases hr:c l s with
  |bad e o=>rw[hr]at h1;exact h1
  |ok v l1 s1=>
   rw[hr]at h1;obtain⟨a1,a2,a3,a4,a5⟩:=h1;simp only
   split
   .exact⟨⟨by decide,by omega,by omega⟩,a2,a3,a4,a5⟩
   .have h2:=hd l1 s1 a2 a3 (by omega)
    cases hr2:d l1 s1 with
    |bad e o=>rw[hr2]at h2;exact h2
    |ok v2 l2 s2=>
     rw[hr2]at h2;obtain⟨b1,b2,b3,b4,b5⟩:=h2;exact(ih l2 s2 b2 b3 (by omega)).weaken (a4.trans b4) (by omega)
theorem fJ {im:Img} (h:eT im) (inp:ByteArray): ∀(f B:Nat) (b:Bod) (d i:Nat) (l:List V) (s:Ev) (t:UInt8) (F:Nat),b∈im.zq->cS im.zz im.zj b.locals b.code F i=some t->LT im.zz s.heap b.locals l->StT im B s->s.left<=f->gr im B b.locals t s (s.left-1) (cL im inp f b d i l s):=by
 intro f
 induction f with
 |zero=>intro B b d i l s t F hb ht hl hs hn;exact gr.bad' hs (by omega) (by omega)
 |succ f ih=>
  intro B b d i l s t F hb ht hl hs hn;simp only[cL]
  split
  .exact gr.bad' hs (by omega) (by omega)
  .rename_i h0
   cases F with
   |zero=>cases ht
   |succ F=>
    simp only[cS]at ht
    cases hx:b.code[i]? with
    |none=>rw[hx]at ht;cases ht
    |some x=>
     rw[hx]at ht;simp only at ht⊢;have b0:=h.wf.bod b hb;have c9:x∈b.code:=bp hx;have c7:=b0.code x c9;have b6:StT im (B-22) {s with left:=s.left-1}:=⟨hs.ht,by have:=hs.cap;simp;omega,by have:=hs.outn;simp;omega,by have:=hs.bb;omega,by have:=hs.rd;simp;omega⟩;have e1:22<=B:=by have:=hs.outn;omega
     have a7:=hs.bb;have IH: ∀j l s t,cS im.zz im.zj b.locals b.code F j=some t->LT im.zz s.heap b.locals l->StT im (B-22) s->s.left<=f->gr im (B-22) b.locals t s s.left (cL im inp f b d j l s):=λj l s t ht hl hs hn=>(ih (B-22) b d j l s t F hb ht hl hs hn).weaken (Ext.refl _) (by omega)
     obtain⟨ar,a0⟩: ∃ar,aA x.op=ar:=⟨_,rfl⟩;have e2:ar<=3:=by rw[<-a0];unfold aA;split;omega;split;omega;split<;>omega
     rw[a0]at ht⊢
     cases hp:cz b.code (cS im.zz im.zj b.locals b.code F) ar (i+1)with
     |none=>rw[hp]at ht;cases ht
     |some ts=>
      rw[hp]at ht;simp only at ht;have e3:=hs.cap;have e6:=hs.rd;have e5:=hs.outn
      by_cases h00:ar=0
      .subst h00;simp only[cz]at hp
       cases hp
       rw[if_pos rfl];exact(ui h b0 c7 a0 ht (s:={s with left:=s.left-1}) hl b6 (by simp;omega) (by simp;omega) (Ext.refl _) (b8 _)).up (by omega) a7
      .rw[if_neg h00]
       by_cases h111:x.op.toNat=111
       .rw[if_pos h111];have:ar=2:=by rw[<-a0];simp[aA,h111]
        subst this;obtain⟨t0,t1,g0,g1,rfl⟩:=mZ hp;have b9:t=105:=by simp[bT,dJ,cj,arith,h111]at ht;exact ht.2.symm
        subst b9;exact(uk (n:=f) (λl s hl hs hn=>IH _ l s t0 g0 hl hs hn) (λl s hl hs hn=>IH _ l s t1 g1 hl hs hn) f l {s with left:=s.left-1} hl b6 (by simp;omega)).up (by omega) a7
       .rw[if_neg h111]
        obtain⟨t0,g0⟩: ∃t0,cS im.zz im.zj b.locals b.code F (i+1)=some t0:=by
         obtain rfl|rfl|rfl:=(by omega:ar=1\/ar=2\/ar=3)
         .obtain⟨a,h1,_⟩:=so hp;exact⟨a,h1⟩
         .obtain⟨a,_,h1,_⟩:=mZ hp;exact⟨a,h1⟩
         .obtain⟨a,_,_,h1,_⟩:=sp hp;exact⟨a,h1⟩
        have h1:=ih (B-22) b d (i+1) l {s with left:=s.left-1} t0 F hb g0 hl b6 (by simp;omega)
        cases hr:cL im inp f b d (i+1) l {s with left:=s.left-1}with
        |bad e o=>rw[hr]at h1;exact h1
        |ok u l1 s1=>
         rw[hr]at h1;obtain⟨a1,a2,a3,a4,a5⟩:=h1;simp only at a4 a5⊢
         by_cases h105:x.op.toNat=105
         .rw[if_pos h105];have:ar=3:=by rw[<-a0];simp[aA,h105]
          subst this;obtain⟨d6,t1,t2,a6,g1,g2,rfl⟩:=sp hp;simp[bT,dJ,cj,arith,h105]at ht;obtain⟨⟨_,hj⟩,rfl⟩:=ht;have e4:(jF im.zz t1 t2).toNat≠45:=by simpa using hj
          have a8:=nH h.wf.cls t1 t2
          have key: ∀j tt,cS im.zz im.zj b.locals b.code F j=some tt->cy im.zz tt (jF im.zz t1 t2)=true->gr im B b.locals (jF im.zz t1 t2) s (s.left-1) (cL im inp f b d j l1 s1):=λj tt hj1 hj2=>by
           have h2:=IH j l1 s1 tt hj1 a2 a3 (by omega)
           cases hr2:cL im inp f b d j l1 s1 with
           |bad e o=>rw[hr2]at h2;exact h2
           |ok v l2 s2=>
            rw[hr2]at h2;obtain⟨b1,b2,b3,b4,b5⟩:=h2;exact⟨b1.sub h.wf.cls h.cls4 b3.ht hj2 e4,b2,b3.mono (by omega) a7,a4.trans b4,by omega⟩
          split
          .exact key _ t2 g2 a8.2.1
          .exact key _ t1 g1 a8.1
         .rw[if_neg h105]
          by_cases h11:ar=1
          .subst h11;rw[if_pos rfl];obtain⟨d6,a6,rfl⟩:=so hp;rw[g0]at a6
           cases a6
           have:=a3.outn;exact wc h b0 c7 a0 ht a1 a2 (a3.mono (by omega) a7) (by omega) a4 (by omega)
          .rw[if_neg h11]
           have e0:ar=2:=by
            rw[<-a0];unfold aA at a0⊢;rw[if_neg h105]at a0⊢
            split at a0
            .rename_i h';rw[if_pos h']
            .split at a0<;>omega
           subst e0;obtain⟨d6,t1,a6,g1,rfl⟩:=mZ hp;rw[g0]at a6
           cases a6
           have h2:=IH _ l1 s1 t1 g1 a2 a3 (by omega)
           cases hr2:cL im inp f b d (bO b.code (i+1)) l1 s1 with
           |bad e o=>rw[hr2]at h2;exact h2
           |ok v l2 s2=>
            rw[hr2]at h2;obtain⟨b1,b2,b3,b4,b5⟩:=h2;refine gr.up (B:=B-22) ?_ (by omega) a7
            exact wg h b0 hb c7 c9 a0 h111 ht (a1.ext b4) b1 b2 b3 (a4.trans b4) (by omega)
             (λb' hb' l' t' F' b9 hl'=>(ih (B-22) b' (d+1) 0 l' s2 t' F' hb' b9 hl' b3 (by omega)).weaken (Ext.refl _) (by omega))
end Sp
end Go.Proofs.YtpfkkmacakjmbaaGreatDoor
