import Derived.Test.YtpfkkmacakjmbaaGreatDoorP10
import Derived.Lib.ItoaLen
set_option maxRecDepth 100000
set_option maxHeartbeats 6400000
set_option linter.all false
namespace Go.Proofs.YtpfkkmacakjmbaaGreatDoor
namespace Sp
def VT (cs:List Cls) (hp:List Ob) (t:UInt8):V->Prop
 | .i n=>t.toNat=105/\ -2147483648<=n/\n<2147483648
 | .z=>isR t=true
 | .o k=>isC t=true/\ ∃ob,hp[k]?=some ob/\bu cs 5 ob.cls ((t.toNat:Int)-65)=true
structure HT (cs:List Cls) (hp:List Ob):Prop where
 cls: ∀(k:Nat) ob,hp[k]?=some ob->ob.cls<cs.length
 len: ∀(k:Nat) ob,hp[k]?=some ob->ob.fs.length=(bI cs ob.cls).length
 fs: ∀(k:Nat) ob (j:Nat) v,hp[k]?=some ob->ob.fs[j]?=some v->VT cs hp ((bI cs ob.cls).getD j 0) v
structure LT (cs:List Cls) (hp:List Ob) (lo:L_) (l:List V):Prop where
 len:l.length=lo.length
 at': ∀(j:Nat) v,l[j]?=some v->VT cs hp (lo.getD j 0) v
def Ext (hp hp':List Ob):Prop:=hp.length<=hp'.length/\ ∀(k:Nat) ob,hp[k]?=some ob-> ∃ob',hp'[k]?=some ob'/\ob'.cls=ob.cls
theorem Ext.refl (hp:List Ob):Ext hp hp:=⟨bP _,λ_ ob h=>⟨ob,h,rfl⟩⟩
theorem Ext.trans {a b c:List Ob} (h:Ext a b) (k:Ext b c):Ext a c:=⟨Nat.le_trans h.1 k.1,λi ob hi=>by
 obtain⟨d,j,f⟩:=h.2 i ob hi;obtain⟨e,l,g⟩:=k.2 i d j;exact⟨e,l,g.trans f⟩⟩
theorem VT.ext {cs:List Cls} {hp hp':List Ob} {t:UInt8} {v:V} (h:VT cs hp t v) (he:Ext hp hp'):VT cs hp' t v:=by
 cases v with
 |i n=>exact h
 |z=>exact h
 |o k=>
  obtain⟨a,ob,b,c⟩:=h;obtain⟨ob',d,e⟩:=he.2 k ob b;exact⟨a,ob',d,by rw[e];exact c⟩
theorem LT.ext {cs:List Cls} {hp hp':List Ob} {lo:L_} {l:List V} (h:LT cs hp lo l) (he:Ext hp hp'):LT cs hp' lo l:=⟨h.len,λj v hv=>(h.at' j v hv).ext he⟩
theorem bZ {c:UInt8} (h:isC c=true):isR c=true:=by simp[isR,h]
theorem VT.sub {cs:List Cls} {hp:List Ob} (hw:WfC cs) (hn:cs.length<=4) (hh:HT cs hp) {t t':UInt8} {v:V} (h:VT cs hp t v) (hs:bj cs t t'=true) (h45:t'.toNat≠45):VT cs hp t' v:=by
 obtain h1|h1| ⟨h1,h2⟩ | ⟨h1,h2,h3⟩:=aW.1 hs
 .subst h1;exact h
 .exact absurd h1 h45
 .cases v with
  |i n=>exact absurd h.1 (by omega)
  |z=>exact bZ h1
  |o k=>have:=bL.1 h.1;omega
 .cases v with
  |i n=>have:=bL.1 h1;have:=h.1;omega
  |z=>exact bZ h2
  |o k=>
   obtain⟨_,ob,a,b⟩:=h;have:=hh.cls k ob a;exact⟨h2,ob,a,yj hw 4 (by omega) (by omega) b h3⟩
theorem VT.int {cs:List Cls} {hp:List Ob} {t:UInt8} {v:V} (h:VT cs hp t v) (ht:t.toNat=105): ∃n,v= .i n/\ -2147483648<=n/\n<2147483648:=by
 cases v with
 |i n=>exact⟨n,rfl,h.2⟩
 |z=>have h:isR t=true:=h;simp[isR,isC,ht]at h
 |o k=>have:=bL.1 h.1;omega
theorem VT.ref {cs:List Cls} {hp:List Ob} {t:UInt8} {v:V} (h:VT cs hp t v) (ht:isR t=true):v= .z\/ ∃k ob,v= .o k/\hp[k]?=some ob/\isC t=true/\bu cs 5 ob.cls ((t.toNat:Int)-65)=true:=by
 cases v with
 |i n=>have:=h.1;simp[isR,isC,this]at ht
 |z=>exact Or.inl rfl
 |o k=>obtain⟨a,ob,b,c⟩:=h;exact Or.inr ⟨k,ob,rfl,b,a,c⟩
theorem xB {n:Nat} (hn:n<=4) {c:UInt8} (h:cw n c=true):c.toNat=105\/isC c=true:=by
 simp[cw,aK]at h;obtain h|h:=h
 .exact Or.inl h
 .exact Or.inr (bL.2 (by omega))
theorem jx {n:Nat} {c:UInt8} (h:cw n c=true):c.toNat≠45:=by
 simp[cw,aK]at h;omega
theorem kI {cs:List Cls} {hp:List Ob} {n:Nat} (hn:n<=4) {c:UInt8} (h:cw n c=true):VT cs hp c (dG c):=by
 unfold dG;obtain h1|h1:=xB hn h
 .rw[if_pos h1];exact⟨h1,by omega,by omega⟩
 .rw[if_neg (by have:=bL.1 h1;omega)];exact bZ h1
theorem eU {a:Nat} (h:a<4):isC (bQ a)=true/\((bQ a).toNat:Int)-65=a:=by
 match a,h with
 |0,_=>exact⟨by decide,by decide⟩
 |1,_=>exact⟨by decide,by decide⟩
 |2,_=>exact⟨by decide,by decide⟩
 |3,_=>exact⟨by decide,by decide⟩
theorem o7 (n:Int): -2147483648<=w32 n/\w32 n<2147483648:=by
 unfold w32 RowKit.wrap32;omega
theorem qL (op:Nat) (a b:Int): -2147483648<=qi op a b/\qi op a b<2147483648:=by
 unfold qi
 repeat' split
 all_goals first|exact o7 _|omega
theorem pE (s:ByteArray) (i:Nat): -2147483648<=iV s i/\iV s i<2147483648:=by
 unfold iV
 split
 .rename_i h;have:=s[i].toNat_lt;omega
 .omega
theorem km {t:List Ins} {g:Nat->Option UInt8} {k:Nat} {ts:L_} (h:bp t g 1 k=some ts): ∃a,g k=some a/\ts=[a]:=by
 simp only[bp]at h
 cases ha:g k with
 |none=>rw[ha]at h;cases h
 |some a=>rw[ha]at h;simp at h;exact⟨a,rfl,h.symm⟩
theorem gu {t:List Ins} {g:Nat->Option UInt8} {k:Nat} {ts:L_} (h:bp t g 2 k=some ts): ∃a b,g k=some a/\g (aR t k)=some b/\ts=[a,b]:=by
 rw[bp]at h
 cases ha:g k with
 |none=>rw[ha]at h;cases h
 |some a=>
  rw[ha]at h;simp only[Option.map_eq_some_iff]at h;obtain⟨us,d,rfl⟩:=h;obtain⟨b,c,rfl⟩:=km d;exact⟨a,b,rfl,c,rfl⟩
theorem mA {t:List Ins} {g:Nat->Option UInt8} {k:Nat} {ts:L_} (h:bp t g 3 k=some ts): ∃a b c,g k=some a/\g (aR t k)=some b/\g (aR t (aR t k))=some c/\ts=[a,b,c]:=by
 rw[bp]at h
 cases ha:g k with
 |none=>rw[ha]at h;cases h
 |some a=>
  rw[ha]at h;simp only[Option.map_eq_some_iff]at h;obtain⟨us,e,rfl⟩:=h;obtain⟨b,c,d,hc,rfl⟩:=gu e;exact⟨a,b,c,rfl,d,hc,rfl⟩
theorem nV {cs:List Cls} {a b:UInt8} (h:cF cs [a] [b]=true):bj cs a b=true:=by
 simpa[cF,List.range,List.range.loop]using h
theorem nW {cs:List Cls} {a b c d:UInt8} (h:cF cs [a,b] [c,d]=true):bj cs a c=true/\bj cs b d=true:=by
 simpa[cF,List.range,List.range.loop]using h
theorem zU {bs:List Bod} {x m:Int} (h:0<=gx bs x m): ∃b,bs[(gx bs x m).toNat]?=some b/\b.cls=x/\b.meth=m:=by
 unfold gx at*
 cases ho:ia bs x m with
 |none=>rw[ho]at h;simp at h
 |some j=>
  simp;unfold ia at ho;rw[List.findIdx?_eq_some_iff_getElem]at ho;obtain⟨c,a,_⟩:=ho;simp at a;exact⟨bs[j],aG c,a.1,a.2⟩
theorem qM {cs:List Cls} {bs:List Bod} {m:Int}: ∀{f:Nat} {x:Int},0<=bM cs bs m f x-> ∃b,bs[(bM cs bs m f x).toNat]?=some b/\b.meth=m/\bu cs f x b.cls=true/\0<=b.cls:=by
 intro f
 induction f with
 |zero=>intro x h;simp[bM]at h
 |succ f ih=>
  intro x h;simp only[bM]at h⊢
  by_cases hx:x<0
  .rw[if_pos hx]at h;simp at h
  .rw[if_neg hx]at h⊢
   by_cases ho:0<=gx bs x m
   .rw[if_pos ho];obtain⟨b,a,c,d⟩:=zU ho;exact⟨b,a,d,by simp[bu,hx,c],by omega⟩
   .rw[if_neg ho]at h⊢;obtain⟨b,a,c,d,e⟩:=ih h;refine⟨b,a,c,?_,e⟩;simp only[bu];rw[if_neg hx]
    split
    .rfl
    .exact d
theorem xC {cs:List Cls} {bs:List Bod} {m:Int} (hw:WfC cs): ∀{f:Nat} {x:Int},x<f->bM cs bs m f x=bM cs bs m (f+1) x:=by
 intro f
 induction f with
 |zero=>intro x a;simp[bM];intro h;omega
 |succ f ih=>
  intro x a;rw[bM]
  conv=>rhs;rw[bM]
  split
  .rfl
  .split
   .rfl
   .exact ih (by have:=dX hw (p:=x) (by omega);omega)
theorem lT {cs:List Cls} {bs:List Bod} {m:Int} (hw:WfC cs): ∀(k:Nat) {x y:Int},x<=k->k<=4->bu cs 5 x y=true->0<=bM cs bs m 5 y->0<=bM cs bs m 5 x:=by
 intro k
 induction k with
 |zero=>
  intro x y c b h a;have:=wT hw 0 c b h;have:x=y:=by omega
  subst this;exact a
 |succ k ih=>
  intro x y c b h a;have e:=wT hw (k+1) c b h;obtain h1|h1:=(gF hw (by omega) (by omega)).1 h
  .subst h1;exact a
  .have hp:=dX hw (p:=x) (by omega);have d:=ih (x:=cU cs x) (by omega) (by omega) h1 a;rw[bM];rw[if_neg (by omega)]
   split
   .assumption
   .rw[xC hw (by omega)];exact d
variable {B:Nat}
structure StT (im:Img) (B:Nat) (s:Ev):Prop where
 ht:HT im.zq s.heap
 cap:s.heap.length+s.left<=4000
 outn:s.out.length+22*s.left<=B
 bb:B<=88000
 rd:s.read+s.left<=4000
structure iA (im:Img):Prop where
 wf:dN im
 we:WfE im
 lk: ∀b∈im.zj,∀x∈b.code,x.op.toNat=99->0<=bM im.zq im.zj x.b 5 x.a
 ty: ∀b∈im.zj,dt im b=true
def io (im:Img) (B:Nat) (lo:L_) (t:UInt8) (s0:Ev) (n:Nat):R->Prop
 | .bad e o=>5<=e/\e<=10/\o.length<=88000
 | .ok v l s=>VT im.zq s.heap t v/\LT im.zq s.heap lo l/\StT im B s/\Ext s0.heap s.heap/\s.left<=n
theorem StT.o {im:Img} {s:Ev} (h:StT im B s):s.out.length<=88000:=by have:=h.outn;have:=h.bb;omega
theorem StT.mono {im:Img} {B':Nat} {s:Ev} (h:StT im B s) (hb:B<=B') (hb2:B'<=88000):StT im B' s:=⟨h.ht,h.cap,by have:=h.outn;omega,hb2,h.rd⟩
theorem io.bad' {im:Img} {lo:L_} {t:UInt8} {s0 s:Ev} {n e:Nat} (h:StT im B s) (h1:5<=e) (h2:e<=10):io im B lo t s0 n (.bad e s.out):=⟨h1,h2,h.o⟩
theorem iA.cls4 {im:Img} (h:iA im):im.zq.length<=4:=h.wf.nc
theorem jD {cs:List Cls} {a k:Nat}:cj cs a k=(bI cs a).getD k 0:=rfl
theorem vH {im:Img} (h:iA im) {a k:Nat} (ha:a<im.zq.length) (hk:k<bB im.zq a):cw im.zq.length (cj im.zq a k)=true:=by
 have c:=h.wf.cls a _ (aG ha);have e:bI im.zq a=im.zq[a].fields:=by simp[bI,ha]
 rw[jD,e];have b:k<im.zq[a].fields.length:=by unfold bB at hk;simpa[ha]using hk
 rw[bH,aG b];exact iB (by omega) (c.2.2.2 _ (bD b))
theorem vI {im:Img} {inp:ByteArray} (h:iA im) {b:Bod} (hb:ey im.zq im.zx b) {x:Ins} (hx:WfN im.zq im.zx.length b.zy.length x) (hx0:az x.op=0) {t:UInt8} (ht:aV im.zq im.zx b.zy x []=some t) {l:List V} {s s0:Ev} (hl:LT im.zq s.heap b.zy l) (hs:StT im B s) (hc:s.heap.length+s.left+1<=4000) (hr:s.read+s.left+1<=4000) (he:Ext s0.heap s.heap) {n:Nat} (hn:s.left<=n):io im B b.zy t s0 n (ed im inp x l s):=by
 have A:=h.cls4;have F:=hx.op
 have D:t=aT im.zq im.zx b.zy x/\x.op.toNat≠103/\x.op.toNat≠99:=by
  unfold az at hx0
  split at hx0
  .omega
  .split at hx0
   .omega
   .split at hx0
    .omega
    .rename_i h1 h2 h3
     simp at h1 h2 h3;unfold aV a9 arith at ht;simp[h1,h2,h3]at ht;exact⟨ht.symm,by omega,by omega⟩
 obtain⟨rfl,i,r⟩:=D;unfold ed aT
 by_cases h114:x.op.toNat=114
 .simp only[h114,if_true,if_false,Nat.reduceEqDiff];exact⟨⟨by decide,pE _ _⟩,hl,⟨hs.ht,hs.cap,hs.outn,hs.bb,by have:=hs.rd;simp;omega⟩,he,hn⟩
 by_cases h122:x.op.toNat=122
 .simp only[h122,if_true,if_false,Nat.reduceEqDiff];exact⟨show isR 122=true by decide,hl,hs,he,hn⟩
 by_cases h108:x.op.toNat=108
 .simp only[h108,if_true,if_false,Nat.reduceEqDiff];have z:=hx.loc (Or.inl h108);have m:x.b<l.length:=by rw[hl.len];exact z
  refine⟨?_,hl,hs,he,hn⟩;rw[bH (l:=l),aG m];exact hl.at' _ _ (aG m)
 by_cases h110:x.op.toNat=110
 .simp only[h110,if_true,if_false,Nat.reduceEqDiff];have p:=hx.cls (Or.inl h110);obtain⟨C,y⟩:=eU (a:=x.a) (by omega);have g:Ext s.heap (s.heap++ [⟨x.a,bS im.zq x.a⟩]):=⟨by simp,λk ob d=>⟨ob,by rw[dy (bc d).1];exact d,rfl⟩⟩
  have f: ∀(k:Nat) ob,(s.heap++ [⟨x.a,bS im.zq x.a⟩])[k]?=some ob->s.heap[k]?=some ob\/ob=⟨x.a,bS im.zq x.a⟩:=λk ob d=>by
   obtain hl|hl:=gC k s.heap.length
   .rw[dy hl]at d;exact Or.inl d
   .rw[f8 hl]at d
    cases hq:k-s.heap.length with
    |zero=>rw[hq]at d;simp at d;exact Or.inr d.symm
    |succ q=>rw[hq]at d;simp at d
  refine⟨⟨C,⟨x.a,bS im.zq x.a⟩,by simp,by rw[y];exact qm h.wf.cls (by omega)⟩,hl.ext g,⟨⟨?_,?_,?_⟩,by simp;omega,hs.outn,hs.bb,hs.rd⟩,he.trans g,hn⟩
  .intro k ob d;obtain h1|h1:=f k ob d
   .exact hs.ht.cls k ob h1
   .subst h1;exact p
  .intro k ob d;obtain h1|h1:=f k ob d
   .exact hs.ht.len k ob h1
   .subst h1;simp[bS]
  .intro k ob j v d hv;obtain h1|h1:=f k ob d
   .exact(hs.ht.fs k ob j v h1 hv).ext g
   .subst h1;simp only[bS,cV,Option.map_eq_some_iff]at hv;obtain⟨c,hc,rfl⟩:=hv;have E:=(bc hc).1;have e:(bI im.zq x.a).getD j 0=c:=by rw[bH,hc];rfl
    simp only[e];refine kI A ?_;have:=vH h (a:=x.a) (k:=j) p (by unfold bB;exact E);rw[jD,e]at this;exact this
 .simp only[h114,h122,h108,h110,i,r,if_false];exact⟨⟨by decide,by omega,by have:=hx.num;omega⟩,hl,hs,he,hn⟩
theorem Ev.at {s:Ev} {k:Nat} {ob:Ob} (h:s.heap[k]?=some ob):s.cls k=ob.cls/\s.fs k=ob.fs:=by simp[Ev.cls,Ev.fs,h]
theorem nX {im:Img} (h:iA im) {s:Ev} (hs:StT im B s) {a j k:Nat} {ob:Ob} (ha:a<im.zq.length) (hj:j<bB im.zq a) (hk:s.heap[k]?=some ob) (b:bu im.zq 5 ob.cls a=true):
  j<ob.fs.length/\(bI im.zq ob.cls).getD j 0=cj im.zq a j:=by
 have d:=h.cls4;have hc:=hs.ht.cls k ob hk;have hp:=nC h.wf.cls h.we.fld 4 (x:=ob.cls) (y:=a) (by omega) (by omega) (by omega) b;simp only[jZ]at hp;obtain⟨u,b⟩:=hp;have c:j<(bI im.zq a).length:=hj;refine⟨by rw[hs.ht.len k ob hk,<-b];simp;omega,?_⟩;rw[<-b,jD,bH,bH,dy c]
theorem xD {im:Img} (h:iA im) {b:Bod} (hb:ey im.zq im.zx b) {x:Ins} (hx:WfN im.zq im.zx.length b.zy.length x) (hx1:az x.op=1) {t a:UInt8} (ht:aV im.zq im.zx b.zy x [a]=some t) {v:V} {l:List V} {s s0:Ev} (hv:VT im.zq s.heap a v) (hl:LT im.zq s.heap b.zy l) (hs:StT im B s) (ho1:s.out.length+22*s.left+22<=B) (he:Ext s0.heap s.heap) {n:Nat} (hn:s.left<=n):io im B b.zy t s0 n (fa im x v l s):=by
 have p:=h.cls4
 have q:x.op.toNat=115\/x.op.toNat=103\/x.op.toNat=120\/x.op.toNat=119:=by
  unfold az at hx1
  split at hx1
  .omega
  .split at hx1
   .omega
   .split at hx1
    .rename_i h3;simpa using h3
    .omega
 unfold fa;obtain h1|h1|h1|h1:=q
 .have c:=hx.loc (Or.inr h1);simp[aV,a9,aT,arith,h1]at ht;obtain⟨f,rfl⟩:=ht;have r:=hb.loc.2 _ (bD c);have e:b.zy.getD x.b 0=b.zy[x.b]:=by rw[bH,aG c];rfl
  have hv':=hv.sub h.wf.cls p hs.ht (t':=b.zy.getD x.b 0) (nV (by simpa using f)) (by rw[e];exact jx r);simp only[h1,if_true];refine⟨⟨by decide,by omega,by omega⟩,⟨by simp[hl.len],λj w hw=> ?_⟩,hs,he,hn⟩;rw[List.getElem?_set]at hw
  split at hw
  .rename_i hj
   subst hj
   split at hw
   .cases hw;exact hv'
   .cases hw
  .exact hl.at' j w hw
 .have i:=hx.cls (by omega);have c:=hx.fld (by omega);simp[aV,a9,aT,arith,h1]at ht;obtain⟨f,rfl⟩:=ht;obtain⟨g,d⟩:=eU (a:=x.a) (by omega);have hv':=hv.sub h.wf.cls p hs.ht (t':=bQ x.a) (nV (by simpa using f)) (by have:=bL.1 g;omega);simp only[h1,if_false,Nat.reduceEqDiff];obtain rfl| ⟨k,ob,rfl,hk,_,hu⟩:=hv'.ref (bZ g)
  .exact io.bad' hs (by omega) (by omega)
  .rw[d]at hu;obtain⟨y,z⟩:=nX h hs i c hk hu;simp only[(Ev.at hk).2];refine⟨?_,hl,hs,he,hn⟩;rw[<-z,bH (l:=ob.fs),aG y];exact hs.ht.fs k ob x.b _ hk (aG y)
 .have i:=hx.cls (by omega);simp[aV,a9,aT,arith,h1]at ht;obtain⟨f,rfl⟩:=ht;obtain⟨g,d⟩:=eU (a:=x.a) (by omega);simp only[h1,if_true,if_false,Nat.reduceEqDiff];obtain rfl| ⟨k,ob,rfl,hk,_,hu⟩:=hv.ref f
  .exact⟨bZ g,hl,hs,he,hn⟩
  .simp only[(Ev.at hk).1]
   split
   .rename_i hu'
    exact⟨⟨g,ob,hk,by rw[d];exact hu'⟩,hl,hs,he,hn⟩
   .exact io.bad' hs (by omega) (by omega)
 .simp[aV,a9,aT,arith,h1]at ht;obtain⟨f,rfl⟩:=ht;have hv':=hv.sub h.wf.cls p hs.ht (t':=105) (nV (by simpa using f)) (by decide);obtain⟨m,rfl,hm⟩:=hv'.int (by decide);simp only[h1,if_true,if_false,Nat.reduceEqDiff];have hi:=Lib.itoa_length_le m (by omega) (by omega);exact⟨⟨by decide,by omega,by omega⟩,hl,⟨hs.ht,hs.cap,by simp[Ev.say,V.N];omega,hs.bb,hs.rd⟩,he,hn⟩
theorem t7 {im:Img} {op:Nat} {lo:L_} {a b:Int} {l:List V} {s s0:Ev} (hl:LT im.zq s.heap lo l) (hs:StT im B s) (he:Ext s0.heap s.heap) {n:Nat} (hn:s.left<=n):io im B lo 105 s0 n (dB op a b l s):=by
 unfold dB
 split
 .split
  .exact io.bad' hs (by omega) (by omega)
  .exact⟨⟨by decide,o7 _⟩,hl,hs,he,hn⟩
 .exact⟨⟨by decide,qL _ _ _⟩,hl,hs,he,hn⟩
theorem zV {im:Img} {s:Ev} (hs:StT im B s) {k j:Nat} {v:V} {ob:Ob} (hk:s.heap[k]?=some ob) (hv:VT im.zq s.heap ((bI im.zq ob.cls).getD j 0) v):StT im B (s.put k j v)/\Ext s.heap (s.put k j v).heap:=by
 have c:=(bc hk).1;have e:(s.put k j v).heap=s.heap.set k ⟨ob.cls,ob.fs.set j v⟩:=by simp[Ev.put,(Ev.at hk).1,(Ev.at hk).2]
 have b: ∀(i:Nat) ob',(s.put k j v).heap[i]?=some ob'->(i=k/\ob'=⟨ob.cls,ob.fs.set j v⟩)\/s.heap[i]?=some ob':=λi ob' hi=>by
  rw[e,List.getElem?_set]at hi
  split at hi
  .rename_i h1;subst h1
   cases hi
   exact Or.inl ⟨rfl,rfl⟩
  .exact Or.inr hi
 have a:Ext s.heap (s.put k j v).heap:=by
  refine⟨by rw[e];simp,λi ob' hi=> ?_⟩;rw[e,List.getElem?_set]
  split
  .rename_i h1
   subst h1;rw[hk]at hi
   cases hi
   exact⟨⟨ob.cls,ob.fs.set j v⟩,by simp[c],rfl⟩
  .exact⟨ob',hi,rfl⟩
 refine⟨⟨⟨λi ob' hi=> ?_,λi ob' hi=> ?_,λi ob' m w hi hw=> ?_⟩,by rw[e];simpa[Ev.put]using hs.cap,hs.outn,hs.bb,hs.rd⟩,a⟩
 .obtain⟨_,rfl⟩ |h1:=b i ob' hi
  .exact hs.ht.cls k ob hk
  .exact hs.ht.cls i ob' h1
 .obtain⟨_,rfl⟩ |h1:=b i ob' hi
  .simpa using hs.ht.len k ob hk
  .exact hs.ht.len i ob' h1
 .obtain⟨_,rfl⟩ |h1:=b i ob' hi
  .simp only[List.getElem?_set]at hw
   split at hw
   .rename_i hm
    subst hm
    split at hw
    .cases hw;exact hv.ext a
    .cases hw
   .exact(hs.ht.fs k ob m w hk hw).ext a
  .exact(hs.ht.fs i ob' m w h1 hw).ext a
variable {B:Nat}
theorem io.up {im:Img} {lo:L_} {t:UInt8} {s0:Ev} {n B':Nat} {r:R} (h:io im B lo t s0 n r) (hb:B<=B') (hb2:B'<=88000):io im B' lo t s0 n r:=by
 cases r with
 |bad e o=>exact h
 |ok v l s=>exact⟨h.1,h.2.1,h.2.2.1.mono hb hb2,h.2.2.2.1,h.2.2.2.2⟩
theorem io.weaken {im:Img} {lo:L_} {t:UInt8} {s0 s1:Ev} {n m:Nat} {r:R} (h:io im B lo t s1 n r) (he:Ext s0.heap s1.heap) (hn:n<=m):io im B lo t s0 m r:=by
 cases r with
 |bad e o=>exact h
 |ok v l s=>exact⟨h.1,h.2.1,h.2.2.1,he.trans h.2.2.2.1,by have:=h.2.2.2.2;omega⟩
theorem nY {im:Img} (h:iA im) {x:Ins} {s:Ev} (hs:StT im B s) {k:Nat} {ob:Ob} (hk:s.heap[k]?=some ob) (hxa:x.a<im.zq.length) (hxb:x.b<im.zx.length) (hu:bu im.zq 5 ob.cls x.a=true) (hf:0<=bM im.zq im.zj x.b 5 x.a) {v:V} (hv:VT im.zq s.heap (fU im.zx x.b) v):
  0<=bM im.zq im.zj x.b 5 (s.cls k)/\im.zj[(bM im.zq im.zj x.b 5 (s.cls k)).toNat]?=some (aZ im x k s)/\aZ im x k s∈im.zj/\(aZ im x k s).meth=x.b/\0<=(aZ im x k s).cls/\2<=(aZ im x k s).zy.length/\LT im.zq s.heap (aZ im x k s).zy (aL (aZ im x k s) [.o k,v]):=by
 have D:=h.cls4;have hc:=hs.ht.cls k ob hk;have z:=(Ev.at hk).1;have i:=lT (bs:=im.zj) (m:=x.b) h.wf.cls 4 (x:=ob.cls) (y:=x.a) (by omega) (by omega) hu hf;obtain⟨b,e,p,q,g⟩:=qM i;have A:aZ im x k s=b:=by simp[aZ,z,e]
 rw[z,A];have f:b∈im.zj:=bn e;obtain⟨t,ht⟩:=h.we.loc b f g;have l:=h.wf.bod b f
 have r:b.cls.toNat<4:=by
  obtain h1|h1:=l.cls
  .omega
  .omega
 refine⟨i,e,f,p,g,by rw[ht];simp,?_⟩;have d:=l.loc.2;rw[ht]at d⊢;have hm:b.meth.toNat=x.b:=by omega
 rw[hm];refine⟨by simp[aL,ht],λj w hw=> ?_⟩;simp only[aL,ht,iU,List.length_nil,List.drop_succ_cons,List.drop_zero,List.cons_append,List.nil_append]at hw
 match j,hw with
 |0,hw=>
  cases hw
  obtain⟨E,n⟩:=eU (a:=b.cls.toNat) r;refine⟨E,ob,hk,?_⟩;have:((UInt8.ofNat (65+b.cls.toNat)).toNat:Int)-65=b.cls:=by have:=n;unfold bQ at this;omega
  simp only[List.getD_cons_zero];rw[this];exact q
 |1,hw=>cases hw;simpa using hv
 |j+2,hw=>
  simp only[List.getElem?_cons_succ,cV,Option.map_eq_some_iff]at hw;obtain⟨c,hc,rfl⟩:=hw;have C:(UInt8.ofNat (65+b.cls.toNat)::fU im.zx x.b::t).getD (j+2) 0=c:=by simp[hc]
  rw[C];exact kI D (d c (by simp[bn hc]))
theorem BR {im:Img} (h:iA im) {k:Nat} (hk:k<im.zx.length):cw im.zq.length (fU im.zx k)=true/\cw im.zq.length (fq im.zx k)=true:=by
 have:=h.wf.sig _ (bD hk);simpa[fU,fq,hk]using this
theorem xE {im:Img} (h:iA im) {b:Bod} (hb:ey im.zq im.zx b) (hbm:b∈im.zj) {x:Ins} (hx:WfN im.zq im.zx.length b.zy.length x) (hxm:x∈b.code) (hx2:az x.op=2) (hx111:x.op.toNat≠111) {t a c:UInt8} (ht:aV im.zq im.zx b.zy x [a,c]=some t) {u v:V} {l:List V} {s s0:Ev} (hu:VT im.zq s.heap a u) (hv:VT im.zq s.heap c v) (hl:LT im.zq s.heap b.zy l) (hs:StT im B s) (he:Ext s0.heap s.heap) {n:Nat} (hn:s.left<=n)
  {call:Bod->List V->R} {d:Nat} (hcall: ∀b'∈im.zj,∀l' t' F,bX im.zq im.zx b'.zy b'.code F 0=some t'->LT im.zq s.heap b'.zy l'->io im B b'.zy t' s s.left (call b' l')):io im B b.zy t s0 n (eT im call d x u v l s):=by
 have q:=h.cls4
 have I:arith x.op.toNat=true\/x.op.toNat=101\/x.op.toNat=112\/x.op.toNat=99\/x.op.toNat=44:=by
  unfold az at hx2
  split at hx2
  .omega
  .split at hx2
   .rename_i h3;simp[arith]at h3⊢;omega
   .split at hx2<;>omega
 unfold eT;obtain h1|h1|h1|h1|h1:=I
 .have z:x.op.toNat≠44/\x.op.toNat≠101/\x.op.toNat≠99/\x.op.toNat≠112/\x.op.toNat≠120/\x.op.toNat≠105/\x.op.toNat≠122/\x.op.toNat≠108/\x.op.toNat≠110/\x.op.toNat≠103:=by
   simp[arith]at h1;omega
  have J:t=105:=by
   simp[aV,a9,aT,h1,z,hx111]at ht;exact ht.2.symm
  subst J;simp only[z,if_false];exact t7 hl hs he hn
 .simp[aV,a9,aT,arith,h1]at ht;obtain⟨_,rfl⟩:=ht;simp only[h1,if_true,if_false,Nat.reduceEqDiff];refine⟨?_,hl,hs,he,hn⟩
  split<;>exact⟨by decide,by omega,by omega⟩
 .have i:=hx.cls (by omega);have g:=hx.fld (by omega);simp[aV,a9,aT,arith,h1]at ht;obtain⟨H,rfl⟩:=ht;obtain⟨y,m⟩:=eU (a:=x.a) (by omega);obtain⟨C,D⟩:=nW (by simpa using H);have p:=hu.sub h.wf.cls q hs.ht (t':=bQ x.a) C (by have:=bL.1 y;omega);have hv':=hv.sub h.wf.cls q hs.ht (t':=cj im.zq x.a x.b) D (jx (vH h i g));simp only[h1,if_true,if_false,Nat.reduceEqDiff];obtain rfl| ⟨k,ob,rfl,hk,_,hun⟩:=p.ref (bZ y)
  .exact io.bad' hs (by omega) (by omega)
  .rw[m]at hun;obtain⟨Z,Q⟩:=nX h hs i g hk hun;obtain⟨S,L⟩:=zV hs (j:=x.b) (v:=v) hk (by rw[Q];exact hv');exact⟨⟨by decide,by omega,by omega⟩,hl.ext L,S,he.trans L,hn⟩
 .have i:=hx.cls (by omega);have g:=hx.sig h1;simp[aV,a9,aT,arith,h1]at ht;obtain⟨H,rfl⟩:=ht;obtain⟨y,m⟩:=eU (a:=x.a) (by omega);obtain⟨C,D⟩:=nW (by simpa using H);obtain⟨E,G⟩:=BR h g;have p:=hu.sub h.wf.cls q hs.ht (t':=bQ x.a) C (by have:=bL.1 y;omega);have hv':=hv.sub h.wf.cls q hs.ht (t':=fU im.zx x.b) D (jx E);simp only[h1,if_true,if_false,Nat.reduceEqDiff];obtain rfl| ⟨k,ob,rfl,hk,_,hun⟩:=p.ref (bZ y)
  .exact io.bad' hs (by omega) (by omega)
  .rw[m]at hun;simp only
   split
   .exact io.bad' hs (by omega) (by omega)
   .obtain⟨_,_,M,T,q3,_,X⟩:=nY h hs hk i g hun (h.lk b hbm x hxm h1) hv';have f:=h.ty _ M;unfold dt at f
    cases htn:bX im.zq im.zx (aZ im x k s).zy (aZ im x k s).code (aZ im x k s).code.length 0 with
    |none=>rw[htn]at f;cases f
    |some t'=>
     rw[htn]at f;simp only at f;rw[if_neg (by omega),T]at f;simp only[jZ]at f;have A:=hcall _ M _ _ _ htn X
     cases hcr:call (aZ im x k s) (aL (aZ im x k s) [.o k,v])with
     |bad e o=>rw[hcr]at A;exact A
     |ok r l' s'=>
      rw[hcr]at A;obtain⟨Y,r2,O,P,r5⟩:=A;exact⟨Y.sub h.wf.cls q O.ht f (jx G),hl.ext P,O,he.trans P,by omega⟩
 .simp[aV,a9,aT,arith,h1]at ht;subst ht;simp only[h1,if_true];exact⟨hv,hl,hs,he,hn⟩
theorem vJ {im:Img} {lo:L_} {c d:List V->Ev->R} {tc td:UInt8} {n:Nat} (hc: ∀l s,LT im.zq s.heap lo l->StT im B s->s.left<=n->io im B lo tc s s.left (c l s)) (hd: ∀l s,LT im.zq s.heap lo l->StT im B s->s.left<=n->io im B lo td s s.left (d l s)):
  ∀(k:Nat) (l:List V) (s:Ev),LT im.zq s.heap lo l->StT im B s->s.left<=n->io im B lo 105 s s.left (iW c d k l s):=by
 intro k
 induction k with
 |zero=>intro l s _ f _;exact io.bad' f (by omega) (by omega)
 |succ k ih=>
  intro l s hl f hn;simp only[iW];have a:=hc l s hl f hn
  cases hr:c l s with
  |bad e o=>rw[hr]at a;exact a
  |ok v l1 s1=>
   rw[hr]at a;obtain⟨a1,g,h,i,j⟩:=a;simp only
   split
   .exact⟨⟨by decide,by omega,by omega⟩,g,h,i,j⟩
   .have b:=hd l1 s1 g h (by omega)
    cases hr2:d l1 s1 with
    |bad e o=>rw[hr2]at b;exact b
    |ok v2 l2 s2=>
     rw[hr2]at b;obtain⟨m,b2,b3,b4,p⟩:=b;exact(ih l2 s2 b2 b3 (by omega)).weaken (i.trans b4) (by omega)
theorem iK {im:Img} (h:iA im) (inp:ByteArray): ∀(f B:Nat) (b:Bod) (d i:Nat) (l:List V) (s:Ev) (t:UInt8) (F:Nat),b∈im.zj->bX im.zq im.zx b.zy b.code F i=some t->LT im.zq s.heap b.zy l->StT im B s->s.left<=f->io im B b.zy t s (s.left-1) (bY im inp f b d i l s):=by
 intro f
 induction f with
 |zero=>intro B b d i l s t F G ht hl g hn;exact io.bad' g (by omega) (by omega)
 |succ f ih=>
  intro B b d i l s t F G ht hl g hn;simp only[bY]
  split
  .exact io.bad' g (by omega) (by omega)
  .rename_i h0
   cases F with
   |zero=>cases ht
   |succ F=>
    simp only[bX]at ht
    cases hx:b.code[i]? with
    |none=>rw[hx]at ht;cases ht
    |some x=>
     rw[hx]at ht;simp only at ht⊢;have r:=h.wf.bod b G;have H:x∈b.code:=bn hx;have C:=r.code x H;have z:StT im (B-22) {s with left:=s.left-1}:=⟨g.ht,by have:=g.cap;simp;omega,by have:=g.outn;simp;omega,by have:=g.bb;omega,by have:=g.rd;simp;omega⟩;have T:22<=B:=by have:=g.outn;omega
     have m:=g.bb;have IH: ∀j l s t,bX im.zq im.zx b.zy b.code F j=some t->LT im.zq s.heap b.zy l->StT im (B-22) s->s.left<=f->io im (B-22) b.zy t s s.left (bY im inp f b d j l s):=λj l s t ht hl g hn=>(ih (B-22) b d j l s t F G ht hl g hn).weaken (Ext.refl _) (by omega)
     obtain⟨ar,c⟩: ∃ar,az x.op=ar:=⟨_,rfl⟩;have X:ar<=3:=by rw[<-c];unfold az;split;omega;split;omega;split<;>omega
     rw[c]at ht⊢
     cases hp:bp b.code (bX im.zq im.zx b.zy b.code F) ar (i+1)with
     |none=>rw[hp]at ht;cases ht
     |some ts=>
      rw[hp]at ht;simp only at ht;have Y:=g.cap;have a6:=g.rd;have a0:=g.outn
      by_cases h00:ar=0
      .subst h00;simp only[bp]at hp
       cases hp
       rw[if_pos rfl];exact(vI h r C c ht (s:={s with left:=s.left-1}) hl z (by simp;omega) (by simp;omega) (Ext.refl _) (bP _)).up (by omega) m
      .rw[if_neg h00]
       by_cases h111:x.op.toNat=111
       .rw[if_pos h111];have:ar=2:=by rw[<-c];simp[az,h111]
        subst this;obtain⟨I,t1,D,E,rfl⟩:=gu hp;have A:t=105:=by simp[aV,a9,aT,arith,h111]at ht;exact ht.2.symm
        subst A;exact(vJ (n:=f) (λl s hl g hn=>IH _ l s I D hl g hn) (λl s hl g hn=>IH _ l s t1 E hl g hn) f l {s with left:=s.left-1} hl z (by simp;omega)).up (by omega) m
       .rw[if_neg h111]
        obtain⟨I,D⟩: ∃I,bX im.zq im.zx b.zy b.code F (i+1)=some I:=by
         obtain rfl|rfl|rfl:=(by omega:ar=1\/ar=2\/ar=3)
         .obtain⟨a,p,_⟩:=km hp;exact⟨a,p⟩
         .obtain⟨a,_,p,_⟩:=gu hp;exact⟨a,p⟩
         .obtain⟨a,_,_,p,_⟩:=mA hp;exact⟨a,p⟩
        have p:=ih (B-22) b d (i+1) l {s with left:=s.left-1} I F G D hl z (by simp;omega)
        cases hr:bY im inp f b d (i+1) l {s with left:=s.left-1}with
        |bad e o=>rw[hr]at p;exact p
        |ok u l1 s1=>
         rw[hr]at p;obtain⟨a1,O,L,M,Z⟩:=p;simp only at M Z⊢
         by_cases h105:x.op.toNat=105
         .rw[if_pos h105];have:ar=3:=by rw[<-c];simp[az,h105]
          subst this;obtain⟨J,t1,t2,k,E,g2,rfl⟩:=mA hp;simp[aV,a9,aT,arith,h105]at ht;obtain⟨⟨_,hj⟩,rfl⟩:=ht;have S:(eG im.zq t1 t2).toNat≠45:=by simpa using hj
          have y:=mg h.wf.cls t1 t2
          have key: ∀j tt,bX im.zq im.zx b.zy b.code F j=some tt->bj im.zq tt (eG im.zq t1 t2)=true->io im B b.zy (eG im.zq t1 t2) s (s.left-1) (bY im inp f b d j l1 s1):=λj tt hj1 hj2=>by
           have q:=IH j l1 s1 tt hj1 O L (by omega)
           cases hr2:bY im inp f b d j l1 s1 with
           |bad e o=>rw[hr2]at q;exact q
           |ok v l2 s2=>
            rw[hr2]at q;obtain⟨P,b2,b3,b4,b5⟩:=q;exact⟨P.sub h.wf.cls h.cls4 b3.ht hj2 S,b2,b3.mono (by omega) m,M.trans b4,by omega⟩
          split
          .exact key _ t2 g2 y.2.1
          .exact key _ t1 E y.1
         .rw[if_neg h105]
          by_cases h11:ar=1
          .subst h11;rw[if_pos rfl];obtain⟨J,k,rfl⟩:=km hp;rw[D]at k
           cases k
           have:=L.outn;exact xD h r C c ht a1 O (L.mono (by omega) m) (by omega) M (by omega)
          .rw[if_neg h11]
           have Q:ar=2:=by
            rw[<-c];unfold az at c⊢;rw[if_neg h105]at c⊢
            split at c
            .rename_i h';rw[if_pos h']
            .split at c<;>omega
           subst Q;obtain⟨J,t1,k,E,rfl⟩:=gu hp;rw[D]at k
           cases k
           have q:=IH _ l1 s1 t1 E O L (by omega)
           cases hr2:bY im inp f b d (aR b.code (i+1)) l1 s1 with
           |bad e o=>rw[hr2]at q;exact q
           |ok v l2 s2=>
            rw[hr2]at q;obtain⟨P,b2,b3,b4,b5⟩:=q;refine io.up (B:=B-22) ?_ (by omega) m
            exact xE h r G C H c h111 ht (a1.ext b4) P b2 b3 (M.trans b4) (by omega)
             (λb' hb' l' t' F' A hl'=>(ih (B-22) b' (d+1) 0 l' s2 t' F' hb' A hl' b3 (by omega)).weaken (Ext.refl _) (by omega))
end Sp
end Go.Proofs.YtpfkkmacakjmbaaGreatDoor
