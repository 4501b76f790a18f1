import Derived.Test.YtpfkkmacakjmbaaGreatDoorP04
import Derived.Lib.ItoaLen
set_option maxRecDepth 100000
set_option maxHeartbeats 6400000
set_option linter.all false
namespace Go.Proofs.YtpfkkmacakjmbaaGreatDoor
namespace Sp
def VT (cs:List Cls) (hp:List Ob) (t:UInt8):V->Prop
 | .i n=>t.toNat=105/\ -2147483648<=n/\n<2147483648
 | .z=>isR t=true
 | .o k=>isC t=true/\ ∃ob,hp[k]?=some ob/\cB cs 5 ob.cls ((t.toNat:Int)-65)=true
structure HT (cs:List Cls) (hp:List Ob):Prop where
 cls: ∀(k:Nat) ob,hp[k]?=some ob->ob.cls<cs.length
 len: ∀(k:Nat) ob,hp[k]?=some ob->ob.fs.length=(bF cs ob.cls).length
 fs: ∀(k:Nat) ob (j:Nat) v,hp[k]?=some ob->ob.fs[j]?=some v->VT cs hp ((bF cs ob.cls).getD j 0) v
structure LT (cs:List Cls) (hp:List Ob) (lo:L_) (l:List V):Prop where
 len:l.length=lo.length
 at': ∀(j:Nat) v,l[j]?=some v->VT cs hp (lo.getD j 0) v
def Ext (hp hp':List Ob):Prop:=hp.length<=hp'.length/\ ∀(k:Nat) ob,hp[k]?=some ob-> ∃ob',hp'[k]?=some ob'/\ob'.cls=ob.cls
theorem Ext.refl (hp:List Ob):Ext hp hp:=⟨bG _,λ_ ob h=>⟨ob,h,rfl⟩⟩
theorem Ext.trans {a b c:List Ob} (h:Ext a b) (k:Ext b c):Ext a c:=⟨Nat.le_trans h.1 k.1,λi ob hi=>by
 obtain⟨d,j,f⟩:=h.2 i ob hi;obtain⟨e,l,g⟩:=k.2 i d j;exact⟨e,l,g.trans f⟩⟩
theorem VT.ext {cs:List Cls} {hp hp':List Ob} {t:UInt8} {v:V} (h:VT cs hp t v) (he:Ext hp hp'):VT cs hp' t v:=by
 cases v with
 |i n=>exact h
 |z=>exact h
 |o k=>
  obtain⟨a,ob,b,c⟩:=h;obtain⟨ob',d,e⟩:=he.2 k ob b;exact⟨a,ob',d,by rw[e];exact c⟩
theorem LT.ext {cs:List Cls} {hp hp':List Ob} {lo:L_} {l:List V} (h:LT cs hp lo l) (he:Ext hp hp'):LT cs hp' lo l:=⟨h.len,λj v hv=>(h.at' j v hv).ext he⟩
theorem cF {c:UInt8} (h:isC c=true):isR c=true:=by simp[isR,h]
theorem VT.sub {cs:List Cls} {hp:List Ob} (hw:WfC cs) (hn:cs.length<=4) (hh:HT cs hp) {t t':UInt8} {v:V} (h:VT cs hp t v) (hs:bR cs t t'=true) (h45:t'.toNat≠45):VT cs hp t' v:=by
 obtain h1|h1| ⟨h1,h2⟩ | ⟨h1,h2,h3⟩:=bc.1 hs
 .subst h1;exact h
 .exact absurd h1 h45
 .cases v with
  |i n=>exact absurd h.1 (by omega)
  |z=>exact cF h1
  |o k=>have:=cz.1 h.1;omega
 .cases v with
  |i n=>have:=cz.1 h1;have:=h.1;omega
  |z=>exact cF h2
  |o k=>
   obtain⟨_,ob,a,b⟩:=h;have:=hh.cls k ob a;exact⟨h2,ob,a,yB hw 4 (by omega) (by omega) b h3⟩
theorem VT.int {cs:List Cls} {hp:List Ob} {t:UInt8} {v:V} (h:VT cs hp t v) (ht:t.toNat=105): ∃n,v= .i n/\ -2147483648<=n/\n<2147483648:=by
 cases v with
 |i n=>exact⟨n,rfl,h.2⟩
 |z=>have h:isR t=true:=h;simp[isR,isC,ht]at h
 |o k=>have:=cz.1 h.1;omega
theorem VT.ref {cs:List Cls} {hp:List Ob} {t:UInt8} {v:V} (h:VT cs hp t v) (ht:isR t=true):v= .z\/ ∃k ob,v= .o k/\hp[k]?=some ob/\isC t=true/\cB cs 5 ob.cls ((t.toNat:Int)-65)=true:=by
 cases v with
 |i n=>have:=h.1;simp[isR,isC,this]at ht
 |z=>exact Or.inl rfl
 |o k=>obtain⟨a,ob,b,c⟩:=h;exact Or.inr ⟨k,ob,rfl,b,a,c⟩
theorem xu {n:Nat} (hn:n<=4) {c:UInt8} (h:cY n c=true):c.toNat=105\/isC c=true:=by
 simp[cY,aQ]at h;obtain h|h:=h
 .exact Or.inl h
 .exact Or.inr (cz.2 (by omega))
theorem jL {n:Nat} {c:UInt8} (h:cY n c=true):c.toNat≠45:=by
 simp[cY,aQ]at h;omega
theorem kv {cs:List Cls} {hp:List Ob} {n:Nat} (hn:n<=4) {c:UInt8} (h:cY n c=true):VT cs hp c (du c):=by
 unfold du;obtain h1|h1:=xu hn h
 .rw[if_pos h1];exact⟨h1,by omega,by omega⟩
 .rw[if_neg (by have:=cz.1 h1;omega)];exact cF h1
theorem eX {a:Nat} (h:a<4):isC (cE a)=true/\((cE a).toNat:Int)-65=a:=by
 match a,h with
 |0,_=>exact⟨by decide,by decide⟩
 |1,_=>exact⟨by decide,by decide⟩
 |2,_=>exact⟨by decide,by decide⟩
 |3,_=>exact⟨by decide,by decide⟩
theorem oP (n:Int): -2147483648<=w32 n/\w32 n<2147483648:=by
 unfold w32 RowKit.wrap32;omega
theorem qw (op:Nat) (a b:Int): -2147483648<=wO op a b/\wO op a b<2147483648:=by
 unfold wO
 repeat' split
 all_goals first|exact oP _|omega
theorem pi (s:ByteArray) (i:Nat): -2147483648<=jA s i/\jA s i<2147483648:=by
 unfold jA
 split
 .rename_i h;have:=s[i].toNat_lt;omega
 .omega
theorem mp {t:List Ins} {g:Nat->Option UInt8} {k:Nat} {ts:L_} (h:bO t g 1 k=some ts): ∃a,g k=some a/\ts=[a]:=by
 simp only[bO]at h
 cases ha:g k with
 |none=>rw[ha]at h;cases h
 |some a=>rw[ha]at h;simp at h;exact⟨a,rfl,h.symm⟩
theorem iu {t:List Ins} {g:Nat->Option UInt8} {k:Nat} {ts:L_} (h:bO t g 2 k=some ts): ∃a b,g k=some a/\g (bk t k)=some b/\ts=[a,b]:=by
 rw[bO]at h
 cases ha:g k with
 |none=>rw[ha]at h;cases h
 |some a=>
  rw[ha]at h;simp only[Option.map_eq_some_iff]at h;obtain⟨us,c,rfl⟩:=h;obtain⟨b,hb,rfl⟩:=mp c;exact⟨a,b,rfl,hb,rfl⟩
theorem nV {t:List Ins} {g:Nat->Option UInt8} {k:Nat} {ts:L_} (h:bO t g 3 k=some ts): ∃a b c,g k=some a/\g (bk t k)=some b/\g (bk t (bk t k))=some c/\ts=[a,b,c]:=by
 rw[bO]at h
 cases ha:g k with
 |none=>rw[ha]at h;cases h
 |some a=>
  rw[ha]at h;simp only[Option.map_eq_some_iff]at h;obtain⟨us,d,rfl⟩:=h;obtain⟨b,c,hb,hc,rfl⟩:=iu d;exact⟨a,b,c,rfl,hb,hc,rfl⟩
theorem nW {cs:List Cls} {a b:UInt8} (h:dz cs [a] [b]=true):bR cs a b=true:=by
 simpa[dz,List.range,List.range.loop]using h
theorem nX {cs:List Cls} {a b c d:UInt8} (h:dz cs [a,b] [c,d]=true):bR cs a c=true/\bR cs b d=true:=by
 simpa[dz,List.range,List.range.loop]using h
theorem zU {bs:List Bod} {x m:Int} (h:0<=mN bs x m): ∃b,bs[(mN bs x m).toNat]?=some b/\b.cls=x/\b.meth=m:=by
 unfold mN at*
 cases ho:lA bs x m with
 |none=>rw[ho]at h;simp at h
 |some j=>
  simp;unfold lA at ho;rw[List.findIdx?_eq_some_iff_getElem]at ho;obtain⟨c,a,_⟩:=ho;simp at a;exact⟨bs[j],aM c,a.1,a.2⟩
theorem qx {cs:List Cls} {bs:List Bod} {m:Int}: ∀{f:Nat} {x:Int},0<=cO cs bs m f x-> ∃b,bs[(cO cs bs m f x).toNat]?=some b/\b.meth=m/\cB cs f x b.cls=true/\0<=b.cls:=by
 intro f
 induction f with
 |zero=>intro x h;simp[cO]at h
 |succ f ih=>
  intro x h;simp only[cO]at h⊢
  by_cases hx:x<0
  .rw[if_pos hx]at h;simp at h
  .rw[if_neg hx]at h⊢
   by_cases ho:0<=mN bs x m
   .rw[if_pos ho];obtain⟨b,a,c,d⟩:=zU ho;exact⟨b,a,d,by simp[cB,hx,c],by omega⟩
   .rw[if_neg ho]at h⊢;obtain⟨b,a,c,d,e⟩:=ih h;refine⟨b,a,c,?_,e⟩;simp only[cB];rw[if_neg hx]
    split
    .rfl
    .exact d
theorem xx {cs:List Cls} {bs:List Bod} {m:Int} (hw:WfC cs): ∀{f:Nat} {x:Int},x<f->cO cs bs m f x=cO cs bs m (f+1) x:=by
 intro f
 induction f with
 |zero=>intro x hx;simp[cO];intro h;omega
 |succ f ih=>
  intro x hx;rw[cO]
  conv=>rhs;rw[cO]
  split
  .rfl
  .split
   .rfl
   .exact ih (by have:=dZ hw (p:=x) (by omega);omega)
theorem lS {cs:List Cls} {bs:List Bod} {m:Int} (hw:WfC cs): ∀(k:Nat) {x y:Int},x<=k->k<=4->cB cs 5 x y=true->0<=cO cs bs m 5 y->0<=cO cs bs m 5 x:=by
 intro k
 induction k with
 |zero=>
  intro x y hx b h a;have:=wT hw 0 hx b h;have:x=y:=by omega
  subst this;exact a
 |succ k ih=>
  intro x y hx b h a;have d:=wT hw (k+1) hx b h;obtain h1|h1:=(f9 hw (by omega) (by omega)).1 h
  .subst h1;exact a
  .have hp:=dZ hw (p:=x) (by omega);have c:=ih (x:=dG cs x) (by omega) (by omega) h1 a;rw[cO];rw[if_neg (by omega)]
   split
   .assumption
   .rw[xx hw (by omega)];exact c
variable {B:Nat}
structure StT (im:Img) (B:Nat) (s:Ev):Prop where
 ht:HT im.zq s.heap
 cap:s.heap.length+s.left<=4000
 outn:s.out.length+22*s.left<=B
 bb:B<=88000
 rd:s.read+s.left<=4000
structure eE (im:Img):Prop where
 wf:iQ im
 we:WfE im
 lk: ∀b∈im.zj,∀x∈b.code,x.op.toNat=99->0<=cO im.zq im.zj x.b 5 x.a
 ty: ∀b∈im.zj,fa im b=true
def gR (im:Img) (B:Nat) (lo:L_) (t:UInt8) (s0:Ev) (n:Nat):R->Prop
 | .bad e o=>5<=e/\e<=10/\o.length<=88000
 | .ok v l s=>VT im.zq s.heap t v/\LT im.zq s.heap lo l/\StT im B s/\Ext s0.heap s.heap/\s.left<=n
theorem StT.o {im:Img} {s:Ev} (h:StT im B s):s.out.length<=88000:=by have:=h.outn;have:=h.bb;omega
theorem StT.mono {im:Img} {B':Nat} {s:Ev} (h:StT im B s) (hb:B<=B') (hb2:B'<=88000):StT im B' s:=⟨h.ht,h.cap,by have:=h.outn;omega,hb2,h.rd⟩
theorem gR.bad' {im:Img} {lo:L_} {t:UInt8} {s0 s:Ev} {n e:Nat} (h:StT im B s) (h1:5<=e) (h2:e<=10):gR im B lo t s0 n (.bad e s.out):=⟨h1,h2,h.o⟩
theorem eE.cls4 {im:Img} (h:eE im):im.zq.length<=4:=h.wf.nc
theorem iZ {cs:List Cls} {a k:Nat}:dc cs a k=(bF cs a).getD k 0:=rfl
theorem va {im:Img} (h:eE im) {a k:Nat} (ha:a<im.zq.length) (hk:k<db im.zq a):cY im.zq.length (dc im.zq a k)=true:=by
 have c:=h.wf.cls a _ (aM ha);have e:bF im.zq a=im.zq[a].fields:=by simp[bF,ha]
 rw[iZ,e];have b:k<im.zq[a].fields.length:=by unfold db at hk;simpa[ha]using hk
 rw[bM,aM b];exact gn (by omega) (c.2.2.2 _ (cS b))
theorem vd {im:Img} {inp:ByteArray} (h:eE im) {b:Bod} (hb:lE im.zq im.zx b) {x:Ins} (hx:WfN im.zq im.zx.length b.zy.length x) (hx0:ay x.op=0) {t:UInt8} (ht:ba im.zq im.zx b.zy x []=some t) {l:List V} {s s0:Ev} (hl:LT im.zq s.heap b.zy l) (hs:StT im B s) (hc:s.heap.length+s.left+1<=4000) (hr:s.read+s.left+1<=4000) (he:Ext s0.heap s.heap) {n:Nat} (hn:s.left<=n):gR im B b.zy t s0 n (dX im inp x l s):=by
 have C:=h.cls4;have G:=hx.op
 have E:t=bE im.zq im.zx b.zy x/\x.op.toNat≠103/\x.op.toNat≠99:=by
  unfold ay at hx0
  split at hx0
  .omega
  .split at hx0
   .omega
   .split at hx0
    .omega
    .rename_i h1 h2 h3
     simp at h1 h2 h3;unfold ba cK arith at ht;simp[h1,h2,h3]at ht;exact⟨ht.symm,by omega,by omega⟩
 obtain⟨rfl,i,r⟩:=E;unfold dX bE
 by_cases h114:x.op.toNat=114
 .simp only[h114,if_true,if_false,Nat.reduceEqDiff];exact⟨⟨by decide,pi _ _⟩,hl,⟨hs.ht,hs.cap,hs.outn,hs.bb,by have:=hs.rd;simp;omega⟩,he,hn⟩
 by_cases h122:x.op.toNat=122
 .simp only[h122,if_true,if_false,Nat.reduceEqDiff];exact⟨show isR 122=true by decide,hl,hs,he,hn⟩
 by_cases h108:x.op.toNat=108
 .simp only[h108,if_true,if_false,Nat.reduceEqDiff];have A:=hx.loc (Or.inl h108);have m:x.b<l.length:=by rw[hl.len];exact A
  refine⟨?_,hl,hs,he,hn⟩;rw[bM (l:=l),aM m];exact hl.at' _ _ (aM m)
 by_cases h110:x.op.toNat=110
 .simp only[h110,if_true,if_false,Nat.reduceEqDiff];have p:=hx.cls (Or.inl h110);obtain⟨D,y⟩:=eX (a:=x.a) (by omega);have g:Ext s.heap (s.heap++ [⟨x.a,de im.zq x.a⟩]):=⟨by simp,λk ob d=>⟨ob,by rw[eQ (bn d).1];exact d,rfl⟩⟩
  have f: ∀(k:Nat) ob,(s.heap++ [⟨x.a,de im.zq x.a⟩])[k]?=some ob->s.heap[k]?=some ob\/ob=⟨x.a,de im.zq x.a⟩:=λk ob d=>by
   obtain hl|hl:=ju k s.heap.length
   .rw[eQ hl]at d;exact Or.inl d
   .rw[gG hl]at d
    cases hq:k-s.heap.length with
    |zero=>rw[hq]at d;simp at d;exact Or.inr d.symm
    |succ q=>rw[hq]at d;simp at d
  refine⟨⟨D,⟨x.a,de im.zq x.a⟩,by simp,by rw[y];exact p7 h.wf.cls (by omega)⟩,hl.ext g,⟨⟨?_,?_,?_⟩,by simp;omega,hs.outn,hs.bb,hs.rd⟩,he.trans g,hn⟩
  .intro k ob d;obtain h1|h1:=f k ob d
   .exact hs.ht.cls k ob h1
   .subst h1;exact p
  .intro k ob d;obtain h1|h1:=f k ob d
   .exact hs.ht.len k ob h1
   .subst h1;simp[de]
  .intro k ob j v d z;obtain h1|h1:=f k ob d
   .exact(hs.ht.fs k ob j v h1 z).ext g
   .subst h1;simp only[de,cg,Option.map_eq_some_iff]at z;obtain⟨c,hc,rfl⟩:=z;have F:=(bn hc).1;have e:(bF im.zq x.a).getD j 0=c:=by rw[bM,hc];rfl
    simp only[e];refine kv C ?_;have:=va h (a:=x.a) (k:=j) p (by unfold db;exact F);rw[iZ,e]at this;exact this
 .simp only[h114,h122,h108,h110,i,r,if_false];exact⟨⟨by decide,by omega,by have:=hx.num;omega⟩,hl,hs,he,hn⟩
theorem Ev.at {s:Ev} {k:Nat} {ob:Ob} (h:s.heap[k]?=some ob):s.cls k=ob.cls/\s.fs k=ob.fs:=by simp[Ev.cls,Ev.fs,h]
theorem nY {im:Img} (h:eE im) {s:Ev} (hs:StT im B s) {a j k:Nat} {ob:Ob} (ha:a<im.zq.length) (hj:j<db im.zq a) (hk:s.heap[k]?=some ob) (b:cB im.zq 5 ob.cls a=true):
  j<ob.fs.length/\(bF im.zq ob.cls).getD j 0=dc im.zq a j:=by
 have d:=h.cls4;have hc:=hs.ht.cls k ob hk;have hp:=nD h.wf.cls h.we.fld 4 (x:=ob.cls) (y:=a) (by omega) (by omega) (by omega) b;simp only[ny]at hp;obtain⟨u,b⟩:=hp;have c:j<(bF im.zq a).length:=hj;refine⟨by rw[hs.ht.len k ob hk,<-b];simp;omega,?_⟩;rw[<-b,iZ,bM,bM,eQ c]
theorem xy {im:Img} (h:eE im) {b:Bod} (hb:lE im.zq im.zx b) {x:Ins} (hx:WfN im.zq im.zx.length b.zy.length x) (hx1:ay x.op=1) {t a:UInt8} (ht:ba im.zq im.zx b.zy x [a]=some t) {v:V} {l:List V} {s s0:Ev} (hv:VT im.zq s.heap a v) (hl:LT im.zq s.heap b.zy l) (hs:StT im B s) (ho1:s.out.length+22*s.left+22<=B) (he:Ext s0.heap s.heap) {n:Nat} (hn:s.left<=n):gR im B b.zy t s0 n (eV im x v l s):=by
 have q:=h.cls4
 have r:x.op.toNat=115\/x.op.toNat=103\/x.op.toNat=120\/x.op.toNat=119:=by
  unfold ay at hx1
  split at hx1
  .omega
  .split at hx1
   .omega
   .split at hx1
    .rename_i h3;simpa using h3
    .omega
 unfold eV;obtain h1|h1|h1|h1:=r
 .have d:=hx.loc (Or.inr h1);simp[ba,cK,bE,arith,h1]at ht;obtain⟨g,rfl⟩:=ht;have y:=hb.loc.2 _ (cS d);have e:b.zy.getD x.b 0=b.zy[x.b]:=by rw[bM,aM d];rfl
  have c:=hv.sub h.wf.cls q hs.ht (t':=b.zy.getD x.b 0) (nW (by simpa using g)) (by rw[e];exact jL y);simp only[h1,if_true];refine⟨⟨by decide,by omega,by omega⟩,⟨by simp[hl.len],λj w hw=> ?_⟩,hs,he,hn⟩;rw[List.getElem?_set]at hw
  split at hw
  .rename_i hj
   subst hj
   split at hw
   .cases hw;exact c
   .cases hw
  .exact hl.at' j w hw
 .have p:=hx.cls (by omega);have d:=hx.fld (by omega);simp[ba,cK,bE,arith,h1]at ht;obtain⟨g,rfl⟩:=ht;obtain⟨i,f⟩:=eX (a:=x.a) (by omega);have c:=hv.sub h.wf.cls q hs.ht (t':=cE x.a) (nW (by simpa using g)) (by have:=cz.1 i;omega);simp only[h1,if_false,Nat.reduceEqDiff];obtain rfl| ⟨k,ob,rfl,hk,_,hu⟩:=c.ref (cF i)
  .exact gR.bad' hs (by omega) (by omega)
  .rw[f]at hu;obtain⟨g1,g2⟩:=nY h hs p d hk hu;simp only[(Ev.at hk).2];refine⟨?_,hl,hs,he,hn⟩;rw[<-g2,bM (l:=ob.fs),aM g1];exact hs.ht.fs k ob x.b _ hk (aM g1)
 .have p:=hx.cls (by omega);simp[ba,cK,bE,arith,h1]at ht;obtain⟨g,rfl⟩:=ht;obtain⟨i,f⟩:=eX (a:=x.a) (by omega);simp only[h1,if_true,if_false,Nat.reduceEqDiff];obtain rfl| ⟨k,ob,rfl,hk,_,hu⟩:=hv.ref g
  .exact⟨cF i,hl,hs,he,hn⟩
  .simp only[(Ev.at hk).1]
   split
   .rename_i hu'
    exact⟨⟨i,ob,hk,by rw[f];exact hu'⟩,hl,hs,he,hn⟩
   .exact gR.bad' hs (by omega) (by omega)
 .simp[ba,cK,bE,arith,h1]at ht;obtain⟨g,rfl⟩:=ht;have c:=hv.sub h.wf.cls q hs.ht (t':=105) (nW (by simpa using g)) (by decide);obtain⟨m,rfl,hm⟩:=c.int (by decide);simp only[h1,if_true,if_false,Nat.reduceEqDiff];have hi:=Lib.itoa_length_le m (by omega) (by omega);exact⟨⟨by decide,by omega,by omega⟩,hl,⟨hs.ht,hs.cap,by simp[Ev.say,V.N];omega,hs.bb,hs.rd⟩,he,hn⟩
theorem tA {im:Img} {op:Nat} {lo:L_} {a b:Int} {l:List V} {s s0:Ev} (hl:LT im.zq s.heap lo l) (hs:StT im B s) (he:Ext s0.heap s.heap) {n:Nat} (hn:s.left<=n):gR im B lo 105 s0 n (dO op a b l s):=by
 unfold dO
 split
 .split
  .exact gR.bad' hs (by omega) (by omega)
  .exact⟨⟨by decide,oP _⟩,hl,hs,he,hn⟩
 .exact⟨⟨by decide,qw _ _ _⟩,hl,hs,he,hn⟩
theorem zV {im:Img} {s:Ev} (hs:StT im B s) {k j:Nat} {v:V} {ob:Ob} (hk:s.heap[k]?=some ob) (hv:VT im.zq s.heap ((bF im.zq ob.cls).getD j 0) v):StT im B (s.put k j v)/\Ext s.heap (s.put k j v).heap:=by
 have c:=(bn hk).1;have e:(s.put k j v).heap=s.heap.set k ⟨ob.cls,ob.fs.set j v⟩:=by simp[Ev.put,(Ev.at hk).1,(Ev.at hk).2]
 have b: ∀(i:Nat) ob',(s.put k j v).heap[i]?=some ob'->(i=k/\ob'=⟨ob.cls,ob.fs.set j v⟩)\/s.heap[i]?=some ob':=λi ob' hi=>by
  rw[e,List.getElem?_set]at hi
  split at hi
  .rename_i h1;subst h1
   cases hi
   exact Or.inl ⟨rfl,rfl⟩
  .exact Or.inr hi
 have a:Ext s.heap (s.put k j v).heap:=by
  refine⟨by rw[e];simp,λi ob' hi=> ?_⟩;rw[e,List.getElem?_set]
  split
  .rename_i h1
   subst h1;rw[hk]at hi
   cases hi
   exact⟨⟨ob.cls,ob.fs.set j v⟩,by simp[c],rfl⟩
  .exact⟨ob',hi,rfl⟩
 refine⟨⟨⟨λi ob' hi=> ?_,λi ob' hi=> ?_,λi ob' m w hi hw=> ?_⟩,by rw[e];simpa[Ev.put]using hs.cap,hs.outn,hs.bb,hs.rd⟩,a⟩
 .obtain⟨_,rfl⟩ |h1:=b i ob' hi
  .exact hs.ht.cls k ob hk
  .exact hs.ht.cls i ob' h1
 .obtain⟨_,rfl⟩ |h1:=b i ob' hi
  .simpa using hs.ht.len k ob hk
  .exact hs.ht.len i ob' h1
 .obtain⟨_,rfl⟩ |h1:=b i ob' hi
  .simp only[List.getElem?_set]at hw
   split at hw
   .rename_i hm
    subst hm
    split at hw
    .cases hw;exact hv.ext a
    .cases hw
   .exact(hs.ht.fs k ob m w hk hw).ext a
  .exact(hs.ht.fs i ob' m w h1 hw).ext a
variable {B:Nat}
theorem gR.up {im:Img} {lo:L_} {t:UInt8} {s0:Ev} {n B':Nat} {r:R} (h:gR im B lo t s0 n r) (hb:B<=B') (hb2:B'<=88000):gR im B' lo t s0 n r:=by
 cases r with
 |bad e o=>exact h
 |ok v l s=>exact⟨h.1,h.2.1,h.2.2.1.mono hb hb2,h.2.2.2.1,h.2.2.2.2⟩
theorem gR.weaken {im:Img} {lo:L_} {t:UInt8} {s0 s1:Ev} {n m:Nat} {r:R} (h:gR im B lo t s1 n r) (he:Ext s0.heap s1.heap) (hn:n<=m):gR im B lo t s0 m r:=by
 cases r with
 |bad e o=>exact h
 |ok v l s=>exact⟨h.1,h.2.1,h.2.2.1,he.trans h.2.2.2.1,by have:=h.2.2.2.2;omega⟩
theorem nZ {im:Img} (h:eE im) {x:Ins} {s:Ev} (hs:StT im B s) {k:Nat} {ob:Ob} (hk:s.heap[k]?=some ob) (hxa:x.a<im.zq.length) (hxb:x.b<im.zx.length) (hu:cB im.zq 5 ob.cls x.a=true) (hf:0<=cO im.zq im.zj x.b 5 x.a) {v:V} (hv:VT im.zq s.heap (jv im.zx x.b) v):
  0<=cO im.zq im.zj x.b 5 (s.cls k)/\im.zj[(cO im.zq im.zj x.b 5 (s.cls k)).toNat]?=some (aZ im x k s)/\aZ im x k s∈im.zj/\(aZ im x k s).meth=x.b/\0<=(aZ im x k s).cls/\2<=(aZ im x k s).zy.length/\LT im.zq s.heap (aZ im x k s).zy (aO (aZ im x k s) [.o k,v]):=by
 have D:=h.cls4;have hc:=hs.ht.cls k ob hk;have z:=(Ev.at hk).1;have i:=lS (bs:=im.zj) (m:=x.b) h.wf.cls 4 (x:=ob.cls) (y:=x.a) (by omega) (by omega) hu hf;obtain⟨b,e,p,q,g⟩:=qx i;have A:aZ im x k s=b:=by simp[aZ,z,e]
 rw[z,A];have f:b∈im.zj:=a9 e;obtain⟨t,ht⟩:=h.we.loc b f g;have l:=h.wf.bod b f
 have r:b.cls.toNat<4:=by
  obtain h1|h1:=l.cls
  .omega
  .omega
 refine⟨i,e,f,p,g,by rw[ht];simp,?_⟩;have d:=l.loc.2;rw[ht]at d⊢;have hm:b.meth.toNat=x.b:=by omega
 rw[hm];refine⟨by simp[aO,ht],λj w hw=> ?_⟩;simp only[aO,ht,ie,List.length_nil,List.drop_succ_cons,List.drop_zero,List.cons_append,List.nil_append]at hw
 match j,hw with
 |0,hw=>
  cases hw
  obtain⟨E,n⟩:=eX (a:=b.cls.toNat) r;refine⟨E,ob,hk,?_⟩;have:((UInt8.ofNat (65+b.cls.toNat)).toNat:Int)-65=b.cls:=by have:=n;unfold cE at this;omega
  simp only[List.getD_cons_zero];rw[this];exact q
 |1,hw=>cases hw;simpa using hv
 |j+2,hw=>
  simp only[List.getElem?_cons_succ,cg,Option.map_eq_some_iff]at hw;obtain⟨c,hc,rfl⟩:=hw;have C:(UInt8.ofNat (65+b.cls.toNat)::jv im.zx x.b::t).getD (j+2) 0=c:=by simp[hc]
  rw[C];exact kv D (d c (by simp[a9 hc]))
theorem BB {im:Img} (h:eE im) {k:Nat} (hk:k<im.zx.length):cY im.zq.length (jv im.zx k)=true/\cY im.zq.length (gI im.zx k)=true:=by
 have:=h.wf.sig _ (cS hk);simpa[jv,gI,hk]using this
theorem xz {im:Img} (h:eE im) {b:Bod} (hb:lE im.zq im.zx b) (hbm:b∈im.zj) {x:Ins} (hx:WfN im.zq im.zx.length b.zy.length x) (hxm:x∈b.code) (hx2:ay x.op=2) (hx111:x.op.toNat≠111) {t a c:UInt8} (ht:ba im.zq im.zx b.zy x [a,c]=some t) {u v:V} {l:List V} {s s0:Ev} (hu:VT im.zq s.heap a u) (hv:VT im.zq s.heap c v) (hl:LT im.zq s.heap b.zy l) (hs:StT im B s) (he:Ext s0.heap s.heap) {n:Nat} (hn:s.left<=n)
  {call:Bod->List V->R} {d:Nat} (hcall: ∀b'∈im.zj,∀l' t' F,cA im.zq im.zx b'.zy b'.code F 0=some t'->LT im.zq s.heap b'.zy l'->gR im B b'.zy t' s s.left (call b' l')):gR im B b.zy t s0 n (eP im call d x u v l s):=by
 have y:=h.cls4
 have J:arith x.op.toNat=true\/x.op.toNat=101\/x.op.toNat=112\/x.op.toNat=99\/x.op.toNat=44:=by
  unfold ay at hx2
  split at hx2
  .omega
  .split at hx2
   .rename_i h3;simp[arith]at h3⊢;omega
   .split at hx2<;>omega
 unfold eP;obtain h1|h1|h1|h1|h1:=J
 .have A:x.op.toNat≠44/\x.op.toNat≠101/\x.op.toNat≠99/\x.op.toNat≠112/\x.op.toNat≠120/\x.op.toNat≠105/\x.op.toNat≠122/\x.op.toNat≠108/\x.op.toNat≠110/\x.op.toNat≠103:=by
   simp[arith]at h1;omega
  have L:t=105:=by
   simp[ba,cK,bE,h1,A,hx111]at ht;exact ht.2.symm
  subst L;simp only[A,if_false];exact tA hl hs he hn
 .simp[ba,cK,bE,arith,h1]at ht;obtain⟨_,rfl⟩:=ht;simp only[h1,if_true,if_false,Nat.reduceEqDiff];refine⟨?_,hl,hs,he,hn⟩
  split<;>exact⟨by decide,by omega,by omega⟩
 .have i:=hx.cls (by omega);have g:=hx.fld (by omega);simp[ba,cK,bE,arith,h1]at ht;obtain⟨I,rfl⟩:=ht;obtain⟨z,m⟩:=eX (a:=x.a) (by omega);obtain⟨D,E⟩:=nX (by simpa using I);have p:=hu.sub h.wf.cls y hs.ht (t':=cE x.a) D (by have:=cz.1 z;omega);have q:=hv.sub h.wf.cls y hs.ht (t':=dc im.zq x.a x.b) E (jL (va h i g));simp only[h1,if_true,if_false,Nat.reduceEqDiff];obtain rfl| ⟨k,ob,rfl,hk,_,hun⟩:=p.ref (cF z)
  .exact gR.bad' hs (by omega) (by omega)
  .rw[m]at hun;obtain⟨g1,g2⟩:=nY h hs i g hk hun;obtain⟨Q,p2⟩:=zV hs (j:=x.b) (v:=v) hk (by rw[g2];exact q);exact⟨⟨by decide,by omega,by omega⟩,hl.ext p2,Q,he.trans p2,hn⟩
 .have i:=hx.cls (by omega);have g:=hx.sig h1;simp[ba,cK,bE,arith,h1]at ht;obtain⟨I,rfl⟩:=ht;obtain⟨z,m⟩:=eX (a:=x.a) (by omega);obtain⟨D,E⟩:=nX (by simpa using I);obtain⟨G,H⟩:=BB h g;have p:=hu.sub h.wf.cls y hs.ht (t':=cE x.a) D (by have:=cz.1 z;omega);have q:=hv.sub h.wf.cls y hs.ht (t':=jv im.zx x.b) E (jL G);simp only[h1,if_true,if_false,Nat.reduceEqDiff];obtain rfl| ⟨k,ob,rfl,hk,_,hun⟩:=p.ref (cF z)
  .exact gR.bad' hs (by omega) (by omega)
  .rw[m]at hun;simp only
   split
   .exact gR.bad' hs (by omega) (by omega)
   .obtain⟨_,_,M,S,Y,_,T⟩:=nZ h hs hk i g hun (h.lk b hbm x hxm h1) q;have f:=h.ty _ M;unfold fa at f
    cases htn:cA im.zq im.zx (aZ im x k s).zy (aZ im x k s).code (aZ im x k s).code.length 0 with
    |none=>rw[htn]at f;cases f
    |some t'=>
     rw[htn]at f;simp only at f;rw[if_neg (by omega),S]at f;simp only[ny]at f;have C:=hcall _ M _ _ _ htn T
     cases hcr:call (aZ im x k s) (aO (aZ im x k s) [.o k,v])with
     |bad e o=>rw[hcr]at C;exact C
     |ok r l' s'=>
      rw[hcr]at C;obtain⟨X,Z,O,P,r5⟩:=C;exact⟨X.sub h.wf.cls y O.ht f (jL H),hl.ext P,O,he.trans P,by omega⟩
 .simp[ba,cK,bE,arith,h1]at ht;subst ht;simp only[h1,if_true];exact⟨hv,hl,hs,he,hn⟩
theorem ve {im:Img} {lo:L_} {c d:List V->Ev->R} {tc td:UInt8} {n:Nat} (hc: ∀l s,LT im.zq s.heap lo l->StT im B s->s.left<=n->gR im B lo tc s s.left (c l s)) (hd: ∀l s,LT im.zq s.heap lo l->StT im B s->s.left<=n->gR im B lo td s s.left (d l s)):
  ∀(k:Nat) (l:List V) (s:Ev),LT im.zq s.heap lo l->StT im B s->s.left<=n->gR im B lo 105 s s.left (fP c d k l s):=by
 intro k
 induction k with
 |zero=>intro l s _ f _;exact gR.bad' f (by omega) (by omega)
 |succ k ih=>
  intro l s hl f hn;simp only[fP];have a:=hc l s hl f hn
  cases hr:c l s with
  |bad e o=>rw[hr]at a;exact a
  |ok v l1 s1=>
   rw[hr]at a;obtain⟨a1,g,h,i,j⟩:=a;simp only
   split
   .exact⟨⟨by decide,by omega,by omega⟩,g,h,i,j⟩
   .have b:=hd l1 s1 g h (by omega)
    cases hr2:d l1 s1 with
    |bad e o=>rw[hr2]at b;exact b
    |ok v2 l2 s2=>
     rw[hr2]at b;obtain⟨b1,b2,b3,b4,m⟩:=b;exact(ih l2 s2 b2 b3 (by omega)).weaken (i.trans b4) (by omega)
theorem fo {im:Img} (h:eE im) (inp:ByteArray): ∀(f B:Nat) (b:Bod) (d i:Nat) (l:List V) (s:Ev) (t:UInt8) (F:Nat),b∈im.zj->cA im.zq im.zx b.zy b.code F i=some t->LT im.zq s.heap b.zy l->StT im B s->s.left<=f->gR im B b.zy t s (s.left-1) (bC im inp f b d i l s):=by
 intro f
 induction f with
 |zero=>intro B b d i l s t F hb ht hl g hn;exact gR.bad' g (by omega) (by omega)
 |succ f ih=>
  intro B b d i l s t F hb ht hl g hn;simp only[bC]
  split
  .exact gR.bad' g (by omega) (by omega)
  .rename_i h0
   cases F with
   |zero=>cases ht
   |succ F=>
    simp only[cA]at ht
    cases hx:b.code[i]? with
    |none=>rw[hx]at ht;cases ht
    |some x=>
     rw[hx]at ht;simp only at ht⊢;have r:=h.wf.bod b hb;have E:x∈b.code:=a9 hx;have C:=r.code x E;have z:StT im (B-22) {s with left:=s.left-1}:=⟨g.ht,by have:=g.cap;simp;omega,by have:=g.outn;simp;omega,by have:=g.bb;omega,by have:=g.rd;simp;omega⟩;have P:22<=B:=by have:=g.outn;omega
     have m:=g.bb;have IH: ∀j l s t,cA im.zq im.zx b.zy b.code F j=some t->LT im.zq s.heap b.zy l->StT im (B-22) s->s.left<=f->gR im (B-22) b.zy t s s.left (bC im inp f b d j l s):=λj l s t ht hl g hn=>(ih (B-22) b d j l s t F hb ht hl g hn).weaken (Ext.refl _) (by omega)
     obtain⟨ar,c⟩: ∃ar,ay x.op=ar:=⟨_,rfl⟩;have Q:ar<=3:=by rw[<-c];unfold ay;split;omega;split;omega;split<;>omega
     rw[c]at ht⊢
     cases hp:bO b.code (cA im.zq im.zx b.zy b.code F) ar (i+1)with
     |none=>rw[hp]at ht;cases ht
     |some ts=>
      rw[hp]at ht;simp only at ht;have S:=g.cap;have a0:=g.rd;have Z:=g.outn
      by_cases h00:ar=0
      .subst h00;simp only[bO]at hp
       cases hp
       rw[if_pos rfl];exact(vd h r C c ht (s:={s with left:=s.left-1}) hl z (by simp;omega) (by simp;omega) (Ext.refl _) (bG _)).up (by omega) m
      .rw[if_neg h00]
       by_cases h111:x.op.toNat=111
       .rw[if_pos h111];have:ar=2:=by rw[<-c];simp[ay,h111]
        subst this;obtain⟨G,t1,D,g1,rfl⟩:=iu hp;have A:t=105:=by simp[ba,cK,bE,arith,h111]at ht;exact ht.2.symm
        subst A;exact(ve (n:=f) (λl s hl g hn=>IH _ l s G D hl g hn) (λl s hl g hn=>IH _ l s t1 g1 hl g hn) f l {s with left:=s.left-1} hl z (by simp;omega)).up (by omega) m
       .rw[if_neg h111]
        obtain⟨G,D⟩: ∃G,cA im.zq im.zx b.zy b.code F (i+1)=some G:=by
         obtain rfl|rfl|rfl:=(by omega:ar=1\/ar=2\/ar=3)
         .obtain⟨a,p,_⟩:=mp hp;exact⟨a,p⟩
         .obtain⟨a,_,p,_⟩:=iu hp;exact⟨a,p⟩
         .obtain⟨a,_,_,p,_⟩:=nV hp;exact⟨a,p⟩
        have p:=ih (B-22) b d (i+1) l {s with left:=s.left-1} G F hb D hl z (by simp;omega)
        cases hr:bC im inp f b d (i+1) l {s with left:=s.left-1}with
        |bad e o=>rw[hr]at p;exact p
        |ok u l1 s1=>
         rw[hr]at p;obtain⟨a1,L,I,J,T⟩:=p;simp only at J T⊢
         by_cases h105:x.op.toNat=105
         .rw[if_pos h105];have:ar=3:=by rw[<-c];simp[ay,h105]
          subst this;obtain⟨H,t1,t2,k,g1,g2,rfl⟩:=nV hp;simp[ba,cK,bE,arith,h105]at ht;obtain⟨⟨_,Y⟩,rfl⟩:=ht;have O:(gr im.zq t1 t2).toNat≠45:=by simpa using Y
          have y:=mh h.wf.cls t1 t2
          have key: ∀j tt,cA im.zq im.zx b.zy b.code F j=some tt->bR im.zq tt (gr im.zq t1 t2)=true->gR im B b.zy (gr im.zq t1 t2) s (s.left-1) (bC im inp f b d j l1 s1):=λj tt hj1 hj2=>by
           have q:=IH j l1 s1 tt hj1 L I (by omega)
           cases hr2:bC im inp f b d j l1 s1 with
           |bad e o=>rw[hr2]at q;exact q
           |ok v l2 s2=>
            rw[hr2]at q;obtain⟨b1,b2,b3,b4,X⟩:=q;exact⟨b1.sub h.wf.cls h.cls4 b3.ht hj2 O,b2,b3.mono (by omega) m,J.trans b4,by omega⟩
          split
          .exact key _ t2 g2 y.2.1
          .exact key _ t1 g1 y.1
         .rw[if_neg h105]
          by_cases h11:ar=1
          .subst h11;rw[if_pos rfl];obtain⟨H,k,rfl⟩:=mp hp;rw[D]at k
           cases k
           have:=I.outn;exact xy h r C c ht a1 L (I.mono (by omega) m) (by omega) J (by omega)
          .rw[if_neg h11]
           have M:ar=2:=by
            rw[<-c];unfold ay at c⊢;rw[if_neg h105]at c⊢
            split at c
            .rename_i h';rw[if_pos h']
            .split at c<;>omega
           subst M;obtain⟨H,t1,k,g1,rfl⟩:=iu hp;rw[D]at k
           cases k
           have q:=IH _ l1 s1 t1 g1 L I (by omega)
           cases hr2:bC im inp f b d (bk b.code (i+1)) l1 s1 with
           |bad e o=>rw[hr2]at q;exact q
           |ok v l2 s2=>
            rw[hr2]at q;obtain⟨b1,b2,b3,b4,X⟩:=q;refine gR.up (B:=B-22) ?_ (by omega) m
            exact xz h r hb C E c h111 ht (a1.ext b4) b1 b2 b3 (J.trans b4) (by omega)
             (λb' hb' l' t' F' A hl'=>(ih (B-22) b' (d+1) 0 l' s2 t' F' hb' A hl' b3 (by omega)).weaken (Ext.refl _) (by omega))
end Sp
end Go.Proofs.YtpfkkmacakjmbaaGreatDoor
