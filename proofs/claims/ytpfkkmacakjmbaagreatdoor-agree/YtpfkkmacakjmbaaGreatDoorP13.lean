import Derived.Test.YtpfkkmacakjmbaaGreatDoorP12
import Derived.Test.YtpfkkmacakjmbaaGreatDoorP03
set_option maxRecDepth 100000
set_option maxHeartbeats 6400000
set_option linter.all false
namespace Go.Proofs.YtpfkkmacakjmbaaGreatDoor
namespace Sp
def VTm (cs:List Cls) (hp:List Ob) (t:UInt8) (v:V):Prop:=(t.toNat=45/\ ∀k,v= .o k->k<hp.length)\/VT cs hp t v
structure STk (cs:List Cls) (hp:List Ob) (ts:L_) (vs:List V):Prop where
 len:vs.length=ts.length
 at': ∀(j:Nat) v,vs[j]?=some v->VTm cs hp (ts.getD j 0) v
section
variable {cs:List Cls} {hp hp':List Ob} {ts us:L_} {vs ws:List V}
theorem VTm.ext {t:UInt8} {v:V} (h:VTm cs hp t v) (he:Ext hp hp'):VTm cs hp' t v:=h.imp (λh=>⟨h.1,λk e=>aP (h.2 k e) he.1⟩) (λh=>h.ext he)
theorem VTm.lt {t:UInt8} {k:Nat} (h:VTm cs hp t (.o k)):k<hp.length:=by
 obtain h| ⟨_,ob,h,_⟩:=h
 .exact h.2 k rfl
 .exact(bn h).1
theorem VTm.sub (hw:WfC cs) (hn:cs.length<=4) (hh:HT cs hp) {t t':UInt8} {v:V} (h:VTm cs hp t v) (hs:bR cs t t'=true):VTm cs hp t' v:=by
 by_cases h1:t'.toNat=45
 .exact Or.inl ⟨h1,λk e=>(e▸h).lt⟩
 .obtain⟨h,hv⟩ |h:=h
  .obtain h2|h2| ⟨h2,h3⟩ | ⟨h2,_⟩:=bc.1 hs
   .subst h2;exact Or.inl ⟨h,hv⟩
   .exact absurd h2 h1
   .omega
   .have:=cz.1 h2;omega
  .exact Or.inr (h.sub hw hn hh hs h1)
theorem STk.ext (h:STk cs hp ts vs) (he:Ext hp hp'):STk cs hp' ts vs:=⟨h.len,λj v hv=>(h.at' j v hv).ext he⟩
theorem STk.sub (hw:WfC cs) (hn:cs.length<=4) (hh:HT cs hp) (h:STk cs hp ts vs) (hl:leL cs ts us):STk cs hp us vs:=
 ⟨h.len.trans (iR hl),λj v hv=>(h.at' j v hv).sub hw hn hh (jh j hl)⟩
theorem STk.nil:STk cs hp [] []:=⟨rfl,λj v h=>by simp at h⟩
theorem STk.snoc {t:UInt8} {v:V} (h:STk cs hp ts vs) (hv:VTm cs hp t v):STk cs hp (ts++ [t]) (vs++ [v]):=by
 refine⟨by simp[h.len],λj u hj=> ?_⟩;obtain hl|hl:=ju j vs.length
 .rw[eQ hl]at hj
  have e:(ts++ [t]).getD j 0=ts.getD j 0:=by
   rw[bM,bM,eQ (by rw[<-h.len];exact hl)]
  rw[e];exact h.at' j u hj
 .rw[gG hl]at hj
  cases hk:j-vs.length with
  |zero=>
   rw[hk]at hj;simp at hj;subst hj
   have e:(ts++ [t]).getD j 0=t:=by
    rw[bM,gG (by rw[<-h.len];exact hl),<-h.len,hk];rfl
   rw[e];exact hv
  |succ k=>rw[hk]at hj;simp at hj
theorem STk.take (h:STk cs hp ts vs) (n:Nat):STk cs hp (ts.take n) (vs.take n):=by
 refine⟨by simp[h.len],λj v hj=> ?_⟩;rw[List.getElem?_take]at hj
 split at hj
 .rename_i hjn
  have e:(ts.take n).getD j 0=ts.getD j 0:=by simp[bM,List.getElem?_take,hjn]
  rw[e];exact h.at' j v hj
 .cases hj
theorem STk.set {t:UInt8} {v:V} (h:STk cs hp ts vs) (k:Nat) (hv:VTm cs hp t v):STk cs hp (ts.set k t) (vs.set k v):=by
 refine⟨by simp[h.len],λj u hj=> ?_⟩;rw[List.getElem?_set]at hj
 split at hj
 .rename_i hkj
  subst hkj
  split at hj
  .rename_i hl
   cases hj
   have e:(ts.set k t).getD k 0=t:=by rw[h.len]at hl;simp[bM,hl]
   rw[e];exact hv
  .cases hj
 .rename_i hkj
  have e:(ts.set k t).getD j 0=ts.getD j 0:=by simp[bM,List.getElem?_set,hkj]
  rw[e];exact h.at' j u hj
theorem STk.get (h:STk cs hp ts vs) {k:Nat} (hk:k<ts.length):VTm cs hp (ts.getD k 0) (vs.getD k .z):=by
 have a:k<vs.length:=by rw[h.len];exact hk
 have:=h.at' k (vs[k]) (by simp[a]);simpa[bM,a]using this
theorem STk.t1 (h:STk cs hp ts vs) (hl:1<=ts.length):VTm cs hp (ts.getD (ts.length-1) 0) (dv vs):=by
 have:=h.get (k:=ts.length-1) (by omega);unfold dv;rw[h.len];exact this
theorem STk.t2 (h:STk cs hp ts vs) (hl:2<=ts.length):VTm cs hp (ts.getD (ts.length-2) 0) (kK vs):=by
 have:=h.get (k:=ts.length-2) (by omega);unfold kK;rw[h.len];exact this
theorem STk.l1 (h:STk cs hp ts vs):STk cs hp (ts.take (ts.length-1)) (dp vs):=by unfold dp;rw[h.len];exact h.take _
theorem STk.l2 (h:STk cs hp ts vs):STk cs hp (ts.take (ts.length-2)) (iA vs):=by unfold iA;rw[h.len];exact h.take _
theorem VTm.not45 {t:UInt8} {v:V} (h:VTm cs hp t v) (ht:t.toNat≠45):VT cs hp t v:=h.resolve_left (λh=>ht h.1)
end
inductive ln (im:Img) (T:cG) (hp:List Ob):Bod->List Fm->Prop where
 |main (b:Bod) (hb:b.cls<0):ln im T hp b []
 |call (b:Bod) (g:Fm) (r:List Fm) (bg:Bod) (x:Ins) (s l:L_) (hb:0<=b.cls) (hg:im.zj[g.q]?=some bg) (hx:bg.code[g.pc]?=some x) (ho:x.op.toNat=99) (hm:(x.b:Int)=b.meth) (hs:jB T g.q g.pc=some (s,l)) (h2:2<=s.length) (hst:STk im.zq hp (s.take (s.length-2)) g.zv) (hlo:STk im.zq hp l g.loc) (hr:ln im T hp bg r):ln im T hp b (g::r)
theorem ln.ext {im:Img} {T:cG} {hp hp':List Ob} (he:Ext hp hp') {b:Bod} {r:List Fm} (h:ln im T hp b r):ln im T hp' b r:=by
 induction h with
 |main b hb=>exact .main b hb
 |call b g r bg x s l hb hg hx ho hm hs h2 hst hlo hr ih=>exact .call b g r bg x s l hb hg hx ho hm hs h2 (hst.ext he) (hlo.ext he) ih
structure tB (im:Img) (T:cG) (hp:List Ob) (f:Fm) (b:Bod) (x:Ins) (s l:L_):Prop where
 bd:im.zj[f.q]?=some b
 ins:b.code[f.pc]?=some x
 st:jB T f.q f.pc=some (s,l)
 zv:STk im.zq hp s f.zv
 loc:STk im.zq hp l f.loc
structure Fit (im:Img) (T:cG):Prop where
 wf:WfI im
 fld:WfF im.zq
 lc: ∀b∈im.zj,WfL im.zx b
 lk: ∀b∈im.zj,∀x∈b.code,x.op.toNat=99->0<=cO im.zq im.zj x.b 5 x.a
 len:T.length=im.zj.length
 good: ∀(q:Nat) b t,im.zj[q]?=some b->T[q]?=some t->oJ im b t
 wt: ∀(q:Nat) b t,im.zj[q]?=some b->T[q]?=some t->wfT im.zq.length b.zy.length b.code.length t
 main: ∃bs m,im.zj=bs++ [m]/\m.cls= -1
structure MT (im:Img) (T:cG) (f:Fm) (rest:List Fm) (s:Ev):Prop where
 ht:HT im.zq s.heap
 top: ∃b x st l,tB im T s.heap f b x st l/\ln im T s.heap b rest
 dep:rest.length+1<=12
theorem dD {T:cG} {q pc:Nat} {t:List St} {p:L_×L_} (ht:T[q]?=some t):jB T q pc=some p↔t[pc]?=some (some p):=by
 unfold jB;rw[ht];simp only[Option.getD_some]
 cases h:t[pc]? with
 |none=>simp
 |some o=>simp
theorem Fit.tab {im:Img} {T:cG} (h:Fit im T) {q:Nat} {b:Bod} (hb:im.zj[q]?=some b): ∃t,T[q]?=some t/\oJ im b t:=by
 have hl:=(bn hb).1;have a:=aM (show q<T.length by rw[h.len];exact hl);exact⟨_,a,h.good q b _ hb a⟩
theorem Fit.next {im:Img} {T:cG} (h:Fit im T) {hp hp':List Ob} {f f':Fm} {b:Bod} {x:Ins} {s l s' l':L_} (hT:tB im T hp f b x s l) (he:cX im.zq im.zx b x s l=some (s',l')) (hq:f'.q=f.q) (hpc:(f'.pc:Int)=(dJ x f.pc).1\/(f'.pc:Int)=(dJ x f.pc).2) (hh:HT im.zq hp') (hs:STk im.zq hp' s' f'.zv) (hl:STk im.zq hp' l' f'.loc): ∃x' s2 l2,tB im T hp' f' b x' s2 l2:=by
 obtain⟨t,ht,d⟩:=h.tab hT.bd;obtain⟨k,l1,a,i,j⟩:=d.go f.pc x s l hT.ins ((dD ht).1 hT.st);rw[he]at a
 cases a
 have g:fL im.zq t (f'.pc:Int) (s',l'):=by rcases hpc with e|e<;>(rw[e];assumption)
 obtain g| ⟨st',h1,h2⟩:=g
 .omega
 .simp only[ny]at h1;have c:=(bn h1).1;rw[d.len]at c;exact⟨b.code[f'.pc],st'.1,st'.2,⟨by rw[hq];exact hT.bd,by simp[c],by rw[hq];exact(dD ht).2 h1,hs.sub h.wf.cls h.wf.nc hh h2.1,hl.sub h.wf.cls h.wf.nc hh h2.2⟩⟩
theorem gz {cs:List Cls} {s:L_} {c:UInt8} (h:dz cs s [c]=true):1<=s.length/\bR cs (s.getD (s.length-1) 0) c=true:=by
 simpa[dz,List.range_succ]using h
theorem i8 {cs:List Cls} {s:L_} {c d:UInt8} (h:dz cs s [c,d]=true):2<=s.length/\bR cs (s.getD (s.length-2) 0) c=true/\bR cs (s.getD (s.length-1) 0) d=true:=by
 simp only[dz,ie,List.length_nil,dl,dk,List.all_eq_true,List.mem_range]at h;have b:=h.2 0 (by omega);have a:=h.2 1 (by omega);refine⟨h.1,by simpa using b,?_⟩;rw[show s.length-(0+1+1)+1=s.length-1 from by have:=h.1;omega]at a;simpa using a
theorem bY {cs:List Cls} {gs:List Sig} {b:Bod} {x:Ins} {s l s' l':L_} (h1: ¬(x.op.toNat=115\/x.op.toNat=100\/x.op.toNat=101\/x.op.toNat=120)) (h2:x.op.toNat≠108) (he:cX cs gs b x s l=some (s',l')):
  dz cs s (bv cs gs b x)=true/\s'=s.take (s.length-(bv cs gs b x).length)++bu cs gs x/\l'=l:=by
 unfold cX at he;rw[if_neg h1,if_neg h2]at he
 split at he
 .rename_i hf
  simp at he;exact⟨hf,he.1.symm,he.2.symm⟩
 .cases he
def OkS (im:Img) (T:cG) (s0:Ev):SR->Prop
 | .go m=> ∃f rest,m.fr=f::rest/\MT im T f rest m.ev/\m.ev.heap.length<=s0.heap.length+1/\m.ev.out.length<=s0.out.length+22/\m.ev.read<=s0.read+1
 | .bad e o=>6<=e/\e<=10/\o=s0.out
 | .fin v o=>(∃n,v= .i n/\ -2147483648<=n/\n<2147483648)/\o=s0.out
section
variable {im:Img} {T:cG} {f f':Fm} {rest:List Fm} {s s2:Ev} {b:Bod} {x:Ins} {st l st' l':L_}
theorem tC (h:Fit im T) (hT:tB im T s.heap f b x st l) (hC:ln im T s.heap b rest) (hd:rest.length+1<=12) (he:cX im.zq im.zx b x st l=some (st',l')) (hq:f'.q=f.q) (hpc:(f'.pc:Int)=(dJ x f.pc).1\/(f'.pc:Int)=(dJ x f.pc).2) (hx:Ext s.heap s2.heap) (hh:HT im.zq s2.heap) (hs:STk im.zq s2.heap st' f'.zv) (hl:STk im.zq s2.heap l' f'.loc)
  (n1:s2.heap.length<=s.heap.length+1) (n2:s2.out.length<=s.out.length+22) (n3:s2.read<=s.read+1):OkS im T s (.go ⟨f'::rest,s2⟩):=by
 obtain⟨x',a,c,hn⟩:=h.next hT he hq hpc hh hs hl;exact⟨f',rest,rfl,⟨hh,⟨b,x',a,c,hn,hC.ext hx⟩,hd⟩,n1,n2,n3⟩
theorem fg (h:Fit im T) (hM:HT im.zq s.heap) (hT:tB im T s.heap f b x st l) (hC:ln im T s.heap b rest) (hd:rest.length+1<=12) (he:cX im.zq im.zx b x st l=some (st',l')) (hq:f'.q=f.q) (hpc:(f'.pc:Int)=(dJ x f.pc).1\/(f'.pc:Int)=(dJ x f.pc).2) (e2:s2.heap=s.heap) (hs:STk im.zq s.heap st' f'.zv) (hl:STk im.zq s.heap l' f'.loc)
  (n2:s2.out.length<=s.out.length+22) (n3:s2.read<=s.read+1):OkS im T s (.go ⟨f'::rest,s2⟩):=
 tC h hT hC hd he hq hpc (by rw[e2];exact Ext.refl _) (by rw[e2];exact hM) (by rw[e2];exact hs) (by rw[e2];exact hl) (by rw[e2];omega) n2 n3
end
theorem oQ {im:Img} (h:WfI im) {a k:Nat} (ha:a<im.zq.length) (hk:k<db im.zq a):cY im.zq.length (dc im.zq a k)=true:=by
 have c:=h.cls a _ (aM ha);have e:bF im.zq a=im.zq[a].fields:=by simp[bF,ha]
 rw[iZ,e];have b:k<im.zq[a].fields.length:=by unfold db at hk;simpa[ha]using hk
 rw[bM,aM b];exact gn (by omega) (c.2.2.2 _ (cS b))
theorem Ez {im:Img} (h:WfI im) {hp:List Ob} (hh:HT im.zq hp) {a:Nat} (ha:a<im.zq.length):HT im.zq (hp++ [⟨a,de im.zq a⟩])/\Ext hp (hp++ [⟨a,de im.zq a⟩])/\VT im.zq (hp++ [⟨a,de im.zq a⟩]) (cE a) (.o hp.length):=by
 have l:=h.nc;obtain⟨m,g⟩:=eX (a:=a) (by omega);have f:Ext hp (hp++ [⟨a,de im.zq a⟩]):=⟨by simp,λk ob b=>⟨ob,by rw[eQ (bn b).1];exact b,rfl⟩⟩
 have d: ∀(k:Nat) ob,(hp++ [⟨a,de im.zq a⟩])[k]?=some ob->hp[k]?=some ob\/ob=⟨a,de im.zq a⟩:=λk ob b=>by
  obtain hl|hl:=ju k hp.length
  .rw[eQ hl]at b;exact Or.inl b
  .rw[gG hl]at b
   cases hq:k-hp.length with
   |zero=>rw[hq]at b;simp at b;exact Or.inr b.symm
   |succ q=>rw[hq]at b;simp at b
 refine⟨⟨?_,?_,?_⟩,f,m,⟨a,de im.zq a⟩,by simp,by rw[g];exact p7 h.cls (by omega)⟩
 .intro k ob b;obtain h1|h1:=d k ob b
  .exact hh.cls k ob h1
  .subst h1;exact ha
 .intro k ob b;obtain h1|h1:=d k ob b
  .exact hh.len k ob h1
  .subst h1;simp[de]
 .intro k ob j v b i;obtain h1|h1:=d k ob b
  .exact(hh.fs k ob j v h1 i).ext f
  .subst h1;simp only[de,cg,Option.map_eq_some_iff]at i;obtain⟨c,hc,rfl⟩:=i;have n:=(bn hc).1;have e:(bF im.zq a).getD j 0=c:=by rw[bM,hc];rfl
   simp only[e];refine kv l ?_;have:=oQ h (a:=a) (k:=j) ha (by unfold db;exact n);rw[iZ,e]at this;exact this
theorem mq {im:Img} {T:cG} (h:Fit im T) {hp:List Ob} (hh:HT im.zq hp) {a j k:Nat} {ob:Ob} (ha:a<im.zq.length) (hj:j<db im.zq a) (hk:hp[k]?=some ob) (b:cB im.zq 5 ob.cls a=true):
  j<ob.fs.length/\(bF im.zq ob.cls).getD j 0=dc im.zq a j:=by
 have d:=h.wf.nc;have hc:=hh.cls k ob hk;have hp':=nD h.wf.cls h.fld 4 (x:=ob.cls) (y:=a) (by omega) (by omega) (by omega) b;simp only[ny]at hp';obtain⟨u,b⟩:=hp';have c:j<(bF im.zq a).length:=hj;refine⟨by rw[hh.len k ob hk,<-b];simp;omega,?_⟩;rw[iZ,<-b,bM,eQ c,bM]
theorem EA {im:Img} {hp:List Ob} (hh:HT im.zq hp) {k j:Nat} {ob:Ob} (hk:hp[k]?=some ob) {v:V} (hv:VT im.zq hp ((bF im.zq ob.cls).getD j 0) v):HT im.zq (hp.set k ⟨ob.cls,ob.fs.set j v⟩)/\Ext hp (hp.set k ⟨ob.cls,ob.fs.set j v⟩):=by
 have hl:=(bn hk).1
 have b: ∀(i:Nat) o,(hp.set k ⟨ob.cls,ob.fs.set j v⟩)[i]?=some o->(i≠k/\hp[i]?=some o)\/(i=k/\o=⟨ob.cls,ob.fs.set j v⟩):=λi o hi=>by
  rw[List.getElem?_set]at hi
  split at hi
  .rename_i e
   subst e
   cases hi
   exact Or.inr ⟨rfl,rfl⟩
  .rename_i e
   exact Or.inl ⟨λh=>e h.symm,hi⟩
 have a:Ext hp (hp.set k ⟨ob.cls,ob.fs.set j v⟩):=⟨by simp,λi o hi=>by
  by_cases e:i=k
  .subst e;rw[hk]at hi;cases hi;exact⟨⟨ob.cls,ob.fs.set j v⟩,by simp[hl],rfl⟩
  .exact⟨o,by rw[List.getElem?_set_ne (λh=>e h.symm)];exact hi,rfl⟩⟩
 refine⟨⟨?_,?_,?_⟩,a⟩
 .intro i o hi;obtain⟨_,d⟩ | ⟨_,rfl⟩:=b i o hi
  .exact hh.cls i o d
  .exact hh.cls k ob hk
 .intro i o hi;obtain⟨_,d⟩ | ⟨_,rfl⟩:=b i o hi
  .exact hh.len i o d
  .simp only[List.length_set];exact hh.len k ob hk
 .intro i o q u hi c;obtain⟨_,d⟩ | ⟨_,rfl⟩:=b i o hi
  .exact(hh.fs i o q u d c).ext a
  .simp only[List.getElem?_set]at c
   split at c
   .rename_i e
    subst e
    split at c
    .cases c;exact hv.ext a
    .cases c
   .exact(hh.fs k ob q u hk c).ext a
theorem eY {x:Ins} {i:Nat} (h1:x.op.toNat≠116) (h2:x.op.toNat≠106) (h3:x.op.toNat≠102):dJ x i=((i:Int)+1,-1):=by simp[dJ,h1,h2,h3]
theorem VTm.toInt {cs:List Cls} {hp:List Ob} (hw:WfC cs) (hn:cs.length<=4) (hh:HT cs hp) {t:UInt8} {v:V} (h:VTm cs hp t v) (hs:bR cs t 105=true): ∃n,v= .i n/\ -2147483648<=n/\n<2147483648:=((h.sub hw hn hh hs).not45 (by decide)).int (by decide)
theorem VTm.toRef {cs:List Cls} {hp:List Ob} {t:UInt8} {v:V} (h:VTm cs hp t v) (ht:isR t=true):VT cs hp t v:=h.not45 (λe=>by simp[isR,isC,e]at ht)
theorem zW {im:Img} {T:cG} (h:Fit im T) {b:Bod} (hb:b∈im.zj) {hp:List Ob}:STk im.zq hp b.zy (b.zy.map du):=by
 refine⟨by simp,λj v hv=> ?_⟩;simp only[cg,Option.map_eq_some_iff]at hv;obtain⟨c,hc,rfl⟩:=hv;rw[show b.zy.getD j 0=c from by rw[bM,hc];rfl];exact Or.inr (kv h.wf.nc ((h.wf.bod b hb).loc.2 c (a9 hc)))
theorem yE {im:Img} {T:cG} (h:Fit im T) {x:Ins} {s:Ev} (hh:HT im.zq s.heap) {k:Nat} {ob:Ob} (hk:s.heap[k]?=some ob) (hxa:x.a<im.zq.length) (hxb:x.b<im.zx.length) (hu:cB im.zq 5 ob.cls x.a=true) (hf:0<=cO im.zq im.zj x.b 5 x.a) {v:V} (hv:VT im.zq s.heap (jv im.zx x.b) v):
  im.zj[(cO im.zq im.zj x.b 5 (s.cls k)).toNat]?=some (aZ im x k s)/\aZ im x k s∈im.zj/\(aZ im x k s).meth=x.b/\0<=(aZ im x k s).cls/\STk im.zq s.heap (aZ im x k s).zy (aO (aZ im x k s) [.o k,v]):=by
 have C:=h.wf.nc;have hc:=hh.cls k ob hk;have z:=(Ev.at hk).1;have r:=lS (bs:=im.zj) (m:=x.b) h.wf.cls 4 (x:=ob.cls) (y:=x.a) (by omega) (by omega) hu hf;obtain⟨b,e,n,p,g⟩:=qx r;have A:aZ im x k s=b:=by simp[aZ,z,e]
 rw[z,A];have f:b∈im.zj:=a9 e;obtain⟨t,ht⟩:=h.lc b f g;have i:=h.wf.bod b f
 have q:b.cls.toNat<4:=by
  obtain h1|h1:=i.cls
  .omega
  .omega
 refine⟨e,f,n,g,?_⟩;have d:=i.loc.2;rw[ht]at d⊢;have hm:b.meth.toNat=x.b:=by omega
 rw[hm];refine⟨by simp[aO,ht],λj w hw=> ?_⟩;simp only[aO,ht,ie,List.length_nil,List.drop_succ_cons,List.drop_zero,List.cons_append,List.nil_append]at hw
 right
 match j,hw with
 |0,hw=>
  cases hw
  obtain⟨D,l⟩:=eX (a:=b.cls.toNat) q;refine⟨D,ob,hk,?_⟩;have:((UInt8.ofNat (65+b.cls.toNat)).toNat:Int)-65=b.cls:=by have:=l;unfold cE at this;omega
  simp only[List.getD_cons_zero];rw[this];exact p
 |1,hw=>cases hw;simpa using hv
 |j+2,hw=>
  simp only[List.getElem?_cons_succ,cg,Option.map_eq_some_iff]at hw;obtain⟨c,hc,rfl⟩:=hw;have B:(UInt8.ofNat (65+b.cls.toNat)::jv im.zx x.b::t).getD (j+2) 0=c:=by simp[hc]
  rw[B];exact kv C (d c (by simp[a9 hc]))
theorem yF {im:Img} (h:WfI im) {k:Nat} (hk:k<im.zx.length):cY im.zq.length (jv im.zx k)=true/\cY im.zq.length (gI im.zx k)=true:=by
 have:=h.sig _ (cS hk);simpa[jv,gI,hk]using this
theorem mY {cs:List Cls} {gs:List Sig} {b:Bod} {x:Ins} {s l s' l':L_} (h1:x.op.toNat=115\/x.op.toNat=100\/x.op.toNat=101\/x.op.toNat=120) (he:cX cs gs b x s l=some (s',l')):
  ∃k,eg x.op.toNat s=some k/\s'=s.take (s.length-k)++bu cs gs x/\l'=if x.op.toNat=115 then l.set x.b (s.getD (s.length-1) 0)else l:=by
 unfold cX at he;rw[if_pos h1]at he
 cases hk:eg x.op.toNat s with
 |none=>rw[hk]at he;cases he
 |some k=>rw[hk]at he;simp only[Option.some.injEq,Prod.mk.injEq]at he;exact⟨k,rfl,he.1.symm,he.2.symm⟩
theorem gC {cs:List Cls} {gs:List Sig} {b:Bod} {x:Ins} {s l s' l':L_} (h1:x.op.toNat=115\/x.op.toNat=100\/x.op.toNat=101\/x.op.toNat=120) (h2:x.op.toNat≠115) (he:cX cs gs b x s l=some (s',l')):
  ∃k,eg x.op.toNat s=some k/\s'=s.take (s.length-k)++bu cs gs x/\l'=l:=by
 obtain⟨k,a,b,c⟩:=mY h1 he;rw[if_neg h2]at c;exact⟨k,a,b,c⟩
theorem io {c k:Nat} {s:L_} (hc:c≠101) (h:eg c s=some k):k=1/\1<=s.length/\(c=120->isR (s.getD (s.length-1) 0)=true):=by
 unfold eg at h;rw[if_neg hc]at h
 split at h
 .cases h
 .rename_i hn
  cases h
  rw[not_or]at hn;exact⟨rfl,by omega,λe=>by have:=hn.2;simp[e]at this;exact this⟩
theorem qy {k:Nat} {s:L_} (h:eg 101 s=some k):k=2/\2<=s.length/\isR (s.getD (s.length-1) 0)=true/\isR (s.getD (s.length-2) 0)=true:=by
 unfold eg at h;rw[if_pos rfl]at h
 split at h
 .cases h
 .rename_i hn
  cases h
  rw[not_or,not_or]at hn;exact⟨rfl,by omega,by simpa using hn.2.1,by simpa using hn.2.2⟩
theorem oR {s:List V} (h:1<=s.length):dp s++ [dv s]=s:=by
 unfold dp dv;have hl:s.length-1<s.length:=by omega
 rw[bM,aM hl,Option.getD_some,<-kj hl];exact g8 (by omega)
theorem BC {im:Img} {T:cG} (h:Fit im T) {hp:List Ob} {f:Fm} {b:Bod} {x:Ins} {s l:L_} (hT:tB im T hp f b x s l):l.length=b.zy.length:=by
 obtain⟨t,ht,a⟩:=h.tab hT.bd;exact((h.wt f.q b t hT.bd ht).2 f.pc s l ((dD ht).1 hT.st)).1.2.2
section
variable {im:Img} {T:cG} {f:Fm} {rest:List Fm} {s:Ev} {b:Bod} {x:Ins} {st l:L_}
theorem BD (inp:ByteArray) (cells:Nat) (h:Fit im T) (hM:HT im.zq s.heap) (hT:tB im T s.heap f b x st l) (hC:ln im T s.heap b rest) (hd:rest.length+1<=12):OkS im T s (stepX im inp T cells x f rest s):=by
 have G:=h.wf.cls;have F:=h.wf.nc;have a0:b∈im.zj:=a9 hT.bd;have a6:x∈b.code:=a9 hT.ins;have I:=(h.wf.bod b a0).code x a6;obtain⟨t,ht,hG⟩:=h.tab hT.bd;obtain⟨st',l',d,r1,r2⟩:=hG.go f.pc x st l hT.ins ((dD ht).1 hT.st);unfold stepX
 by_cases h107:x.op.toNat=107
 .rw[if_pos h107];obtain⟨_,c,rfl⟩:=bY (by omega) (by omega) d;simp[bv,bu,arith,h107]at c;subst c;exact fg h hM hT hC hd d rfl (Or.inl (by rw[eY (by omega) (by omega) (by omega)];simp[Fm.on])) rfl (hT.zv.snoc (Or.inr ⟨by decide,by omega,by have:=I.num;omega⟩)) hT.loc (by omega) (by omega)
 rw[if_neg h107]
 by_cases h114:x.op.toNat=114
 .rw[if_pos h114];obtain⟨_,c,rfl⟩:=bY (by omega) (by omega) d;simp[bv,bu,arith,h114]at c;subst c;exact fg h hM hT hC hd d rfl (Or.inl (by rw[eY (by omega) (by omega) (by omega)];simp[Fm.on])) rfl (hT.zv.snoc (Or.inr ⟨by decide,pi _ _⟩)) hT.loc (by simp) (by simp)
 rw[if_neg h114]
 by_cases h119:x.op.toNat=119
 .rw[if_pos h119];obtain⟨p,c,rfl⟩:=bY (by omega) (by omega) d;simp[bv,bu,arith,h119]at c p;subst c;obtain⟨D,E⟩:=gz p;obtain⟨n,hn,n1,n2⟩:=(hT.zv.t1 D).toInt G F hM E;rw[hn];have hi:=Lib.itoa_length_le n (by omega) (by omega);exact fg h hM hT hC hd d rfl (Or.inl (by rw[eY (by omega) (by omega) (by omega)];simp[Fm.on])) rfl hT.zv.l1 hT.loc (by simp[Ev.say,V.N];omega) (by simp[Ev.say])
 rw[if_neg h119]
 by_cases h122:x.op.toNat=122
 .rw[if_pos h122];obtain⟨_,c,rfl⟩:=bY (by omega) (by omega) d;simp[bv,bu,arith,h122]at c;subst c;exact fg h hM hT hC hd d rfl (Or.inl (by rw[eY (by omega) (by omega) (by omega)];simp[Fm.on])) rfl (hT.zv.snoc (Or.inr (show isR 122=true by decide))) hT.loc (by omega) (by omega)
 rw[if_neg h122]
 by_cases h100:x.op.toNat=100
 .rw[if_pos h100];obtain⟨k,A,c,rfl⟩:=gC (by omega) (by omega) d;obtain⟨rfl,Q,_⟩:=io (by omega) A;simp[bu,arith,h100]at c;subst c;exact fg h hM hT hC hd d rfl (Or.inl (by rw[eY (by omega) (by omega) (by omega)];simp[Fm.on])) rfl hT.zv.l1 hT.loc (by omega) (by omega)
 rw[if_neg h100]
 by_cases h108:x.op.toNat=108
 .rw[if_pos h108];have H:=d;unfold cX at H;rw[if_neg (by omega),if_pos h108]at H
  split at H
  .cases H
  .rename_i hne
   simp at H;obtain⟨rfl,rfl⟩:=H
   have b0:x.b<l.length:=by
    obtain q|q:=ju x.b l.length
    .exact q
    .have:=I.loc (Or.inl h108);have h5:=hT.loc.len;exact absurd (BC h hT) (by omega)
   exact fg h hM hT hC hd d rfl (Or.inl (by rw[eY (by omega) (by omega) (by omega)];simp[Fm.on])) rfl (hT.zv.snoc (hT.loc.get b0)) hT.loc (by omega) (by omega)
 rw[if_neg h108]
 by_cases h115:x.op.toNat=115
 .rw[if_pos h115];obtain⟨k,A,c,e3⟩:=mY (by omega) d;obtain⟨rfl,Q,_⟩:=io (by omega) A;simp[bu,arith,h115]at c e3;subst c e3;exact fg h hM hT hC hd d rfl (Or.inl (by rw[eY (by omega) (by omega) (by omega)];simp[Fm.on])) rfl hT.zv.l1 (hT.loc.set x.b (hT.zv.t1 Q)) (by omega) (by omega)
 rw[if_neg h115]
 by_cases h106:x.op.toNat=106
 .rw[if_pos h106];obtain⟨_,c,rfl⟩:=bY (by omega) (by omega) d;simp[bv,bu,arith,h106]at c;subst c;exact fg h hM hT hC hd d rfl (Or.inl (by simp[dJ,h106])) rfl hT.zv hT.loc (by omega) (by omega)
 rw[if_neg h106]
 by_cases h102:x.op.toNat=102
 .rw[if_pos h102];obtain⟨p,c,rfl⟩:=bY (by omega) (by omega) d;simp[bv,bu,arith,h102]at c p;subst c;refine fg h hM hT hC hd d rfl ?_ rfl hT.zv.l1 hT.loc (by omega) (by omega)
  by_cases hn:(dv f.zv).N=0
  .exact Or.inr (by simp[dJ,h102,hn])
  .exact Or.inl (by simp[dJ,h102,hn])
 rw[if_neg h102]
 by_cases h101:x.op.toNat=101
 .rw[if_pos h101];obtain⟨k,A,c,rfl⟩:=gC (by omega) (by omega) d;obtain⟨rfl,Q,q2,q3⟩:=qy (by rw[h101]at A;exact A);simp[bu,arith,h101]at c;subst c;refine fg h hM hT hC hd d rfl (Or.inl (by rw[eY (by omega) (by omega) (by omega)];simp[Fm.on])) rfl (hT.zv.l2.snoc ?_) hT.loc (by omega) (by omega)
  right
  split
  .exact⟨by decide,by omega,by omega⟩
  .exact⟨by decide,by omega,by omega⟩
 rw[if_neg h101]
 by_cases h110:x.op.toNat=110
 .rw[if_pos h110];obtain⟨_,c,rfl⟩:=bY (by omega) (by omega) d;simp[bv,bu,arith,h110]at c;subst c
  split
  .exact⟨by omega,by omega,rfl⟩
  .obtain⟨g1,g2,g3⟩:=Ez h.wf hM (I.cls (by omega));exact tC h hT hC hd d rfl (Or.inl (by rw[eY (by omega) (by omega) (by omega)];simp[Fm.on])) g2 g1 ((hT.zv.ext g2).snoc (Or.inr g3)) (hT.loc.ext g2) (by simp) (by simp) (by simp)
 rw[if_neg h110]
 by_cases h120:x.op.toNat=120
 .rw[if_pos h120];obtain⟨k,A,c,rfl⟩:=gC (by omega) (by omega) d;obtain⟨rfl,Q,q2⟩:=io (by omega) A;have q2:=q2 h120;simp[bu,arith,h120]at c;subst c;obtain⟨j,C⟩:=eX (a:=x.a) (by have:=I.cls (by omega);omega);have B:=(hT.zv.t1 Q).toRef q2
  have O: ∀{v},dv f.zv=v->VT im.zq s.heap (cE x.a) v->STk im.zq s.heap (st.take (st.length-1)++ [cE x.a]) f.zv:=λ{v} e B=>by
   have h1:=hT.zv.l1.snoc (Or.inr B);rw[<-e,oR (by rw[hT.zv.len];exact Q)]at h1;exact h1
  cases htv:dv f.zv with
  |i n=>rw[htv]at B;rcases B.ref q2 with e| ⟨_,_,e,_⟩<;>cases e
  |z=>
   exact fg h hM hT hC hd d rfl (Or.inl (by rw[eY (by omega) (by omega) (by omega)];simp[Fm.on])) rfl (O htv (cF j)) hT.loc (by omega) (by omega)
  |o k=>
   rw[htv]at B;obtain⟨a1,ob,a2,a3⟩:=B;simp only[(Ev.at a2).1]
   split
   .rename_i hu
    exact fg h hM hT hC hd d rfl (Or.inl (by rw[eY (by omega) (by omega) (by omega)];simp[Fm.on])) rfl (O htv ⟨j,ob,a2,by rw[C];exact hu⟩) hT.loc (by omega) (by omega)
   .exact⟨by omega,by omega,rfl⟩
 rw[if_neg h120]
 by_cases h103:x.op.toNat=103
 .rw[if_pos h103];obtain⟨p,c,rfl⟩:=bY (by omega) (by omega) d;simp[bv,bu,arith,h103]at c p;subst c;obtain⟨D,E⟩:=gz p;obtain⟨j,C⟩:=eX (a:=x.a) (by have:=I.cls (by omega);omega);have B:=((hT.zv.t1 D).sub G F hM E).toRef (cF j);obtain e| ⟨k,ob,e,A,_,hu⟩:=B.ref (cF j)
  .rw[e];exact⟨by omega,by omega,rfl⟩
  .rw[e]
   show OkS im T s (.go ⟨f.on (dp f.zv++ [(s.fs k).getD x.b .z])::rest,s⟩)
   rw[(Ev.at A).2];rw[C]at hu;obtain⟨g1,g2⟩:=mq h hM (I.cls (by omega)) (I.fld (by omega)) A hu;refine fg h hM hT hC hd d rfl (Or.inl (by rw[eY (by omega) (by omega) (by omega)];simp[Fm.on])) rfl (hT.zv.l1.snoc (Or.inr ?_)) hT.loc (by omega) (by omega);rw[<-g2,bM (l:=ob.fs),aM g1];exact hM.fs k ob x.b _ A (aM g1)
 rw[if_neg h103]
 by_cases h112:x.op.toNat=112
 .rw[if_pos h112];obtain⟨p,c,rfl⟩:=bY (by omega) (by omega) d;simp[bv,bu,arith,h112]at c p;subst c;obtain⟨D,E,X⟩:=i8 p;have M:=I.cls (by omega);have J:=I.fld (by omega);obtain⟨j,C⟩:=eX (a:=x.a) (by omega);have B:=((hT.zv.t2 D).sub G F hM E).toRef (cF j);obtain e| ⟨k,ob,e,A,_,hu⟩:=B.ref (cF j)
  .rw[e];exact⟨by omega,by omega,rfl⟩
  .rw[e];rw[C]at hu;obtain⟨g1,g2⟩:=mq h hM M J A hu;have L:=((hT.zv.t1 (by omega)).sub G F hM X).not45 (jL (oQ h.wf M J));rw[<-g2]at L;obtain⟨p1,p2⟩:=EA hM A L;have S:(s.put k x.b (dv f.zv)).heap=s.heap.set k ⟨ob.cls,ob.fs.set x.b (dv f.zv)⟩:=by simp[Ev.put,(Ev.at A).1,(Ev.at A).2]
   exact tC h hT hC hd d rfl (Or.inl (by rw[eY (by omega) (by omega) (by omega)];simp[Fm.on])) (by rw[S];exact p2) (by rw[S];exact p1) (by rw[S];exact hT.zv.l2.ext p2) (by rw[S];exact hT.loc.ext p2) (by rw[S];simp) (by simp[Ev.put]) (by simp[Ev.put])
 rw[if_neg h112]
 by_cases h99:x.op.toNat=99
 .rw[if_pos h99];obtain⟨p,c,rfl⟩:=bY (by omega) (by omega) d;simp[bv,bu,arith,h99]at c p;obtain⟨D,E,X⟩:=i8 p;have M:=I.cls (by omega);have J:=I.sig h99;obtain⟨j,C⟩:=eX (a:=x.a) (by omega);have B:=((hT.zv.t2 D).sub G F hM E).toRef (cF j);obtain e| ⟨k,ob,e,A,_,hu⟩:=B.ref (cF j)
  .rw[e];exact⟨by omega,by omega,rfl⟩
  .rw[e];rw[C]at hu;simp only
   split
   .exact⟨by omega,by omega,rfl⟩
   .have L:=((hT.zv.t1 (by omega)).sub G F hM X).not45 (jL (yF h.wf J).1);obtain⟨c1,c2,c3,c4,c5⟩:=yE h hM A M J hu (h.lk b a0 x a6 h99) L;obtain⟨t2,b3,Y⟩:=h.tab c1;obtain⟨s0,i1,i2⟩:=Y.start;have a4:=(bn i1).1;rw[Y.len]at a4;refine⟨_,_,rfl,⟨hM,⟨aZ im x k s,(aZ im x k s).code[0],s0.1,s0.2,⟨c1,by simp[a4],(dD b3).2 i1,STk.nil.sub G F hM i2.1,c5.sub G F hM i2.2⟩,?_⟩,by simp;omega⟩,by simp,by simp,by simp⟩;exact .call _ _ _ b x st _ c4 hT.bd hT.ins h99 c3.symm hT.st D hT.zv.l2 hT.loc hC
 rw[if_neg h99]
 by_cases h116:x.op.toNat=116
 .rw[if_pos h116];obtain⟨p,c,rfl⟩:=bY (by omega) (by omega) d
  cases hC with
  |main _ hb=>
   simp[bv,arith,h116,hb]at p;obtain⟨D,E⟩:=gz p;exact⟨(hT.zv.t1 D).toInt G F hM E,rfl⟩
  |call _ g r bg y sg lg hb hg hy ho hm hsg h2 hst hlo hr=>
   have b2: ¬b.cls<0:=by omega
   simp[bv,arith,h116,b2]at p;obtain⟨D,E⟩:=gz p;have a8:bg∈im.zj:=a9 hg;have b4:=((h.wf.bod bg a8).code y (a9 hy)).sig ho;have b1:b.meth.toNat=y.b:=by omega
   rw[b1]at E;have B:=(hT.zv.t1 D).sub G F hM E;obtain⟨t3,a5,Z⟩:=h.tab hg;obtain⟨s3,l3,a7,r3,r4⟩:=Z.go g.pc y sg lg hy ((dD a5).1 hsg);obtain⟨_,e4,rfl⟩:=bY (by omega) (by omega) a7;simp[bv,bu,arith,ho]at e4;subst e4;rw[eY (by omega) (by omega) (by omega)]at r3;obtain r3| ⟨stq,r5,r6⟩:=r3
   .omega
   .have P:=(bn r5).1;have e5:((g.pc:Int)+1).toNat=g.pc+1:=by omega
    rw[Z.len]at P;rw[e5]at r5 P;exact⟨_,_,rfl,⟨hM,⟨bg,bg.code[g.pc+1],stq.1,stq.2,⟨hg,by simp[Fm.on,P],(dD a5).2 r5,(hst.snoc B).sub G F hM r6.1,hlo.sub G F hM r6.2⟩,hr⟩,by simp at hd;omega⟩,by simp,by simp,by simp⟩
 rw[if_neg h116]
 have ha:arith x.op.toNat=true:=by
  have:=I.op;simp[df]at this;simp[arith];omega
 obtain⟨p,c,rfl⟩:=bY (by omega) (by omega) d;simp[bv,bu,ha,h119,h102]at c p;subst c;obtain⟨D,E,X⟩:=i8 p;obtain⟨m,hm,m1,m2⟩:=(hT.zv.t2 D).toInt G F hM E;obtain⟨n,hn,n1,n2⟩:=(hT.zv.t1 (by omega)).toInt G F hM X;rw[hm,hn];simp only[V.N];unfold dO
 split
 .rename_i hr
  split at hr
  .split at hr
   .cases hr;exact⟨by omega,by omega,rfl⟩
   .cases hr
  .cases hr
 .rename_i v l2 s2 hr
  have key:s2=s/\VT im.zq s.heap 105 v:=by
   split at hr
   .split at hr
    .cases hr
    .cases hr;exact⟨rfl,by decide,oP _⟩
   .cases hr;exact⟨rfl,by decide,qw _ _ _⟩
  obtain⟨rfl,B⟩:=key;exact fg h hM hT hC hd d rfl (Or.inl (by rw[eY (by omega) (by omega) (by omega)];simp[Fm.on])) rfl (hT.zv.l2.snoc (Or.inr B)) hT.loc (by omega) (by omega)
end
theorem BE {s:ByteArray} {cs:List Cls} {gs:List Sig}: ∀{k:Nat} {bs:List Bod} {i:Nat} {r:List Bod} {j:Nat},(∀b∈bs,WfL gs b)->kf s cs gs k bs i= .ok (r,j)-> ∀b∈r,WfL gs b:=by
 intro k
 induction k with
 |zero=>
  intro bs i r j a h;unfold kf at h
  split at h
  .cases h;exact a
  .cases h
 |succ k ih=>
  intro bs i r j a h;unfold kf at h
  split at h
  .cases h;exact a
  .split at h
   .cases h
   .split at h
    .cases h
    .split at h
     .cases h
     .split at h
      .cases h
      .split at h
       .cases h
       .refine ih (λb hb=> ?_) h;obtain hb|hb:=gH hb
        .exact a b hb
        .rw[List.mem_singleton]at hb;subst hb;exact λ_=>⟨_,rfl⟩
theorem xA {s:ByteArray} {im:Img} (h:iv s= .ok im):WfF im.zq/\(∀b∈im.zj,WfL im.zx b)/\ ∃bs m,im.zj=bs++ [m]/\m.cls= -1:=by
 unfold iv at h
 split at h
 .cases h
 .rename_i cs l1 h1
  split at h
  .cases h
  .rename_i gs l2 h2
   split at h
   .cases h
   .rename_i bs l3 h3
    split at h
    .cases h
    .rename_i t l4 h4
     split at h
     .cases h
     .rename_i is l5 h5
      split at h
      .cases h
      .cases h
       have hb:=BE (λb hb=>by simp at hb) h3;refine⟨ux (λj c h=>by simp at h) (λj c h=>by simp at h) h1,λb hbm=> ?_,bs,_,rfl,rfl⟩;simp at hbm;obtain hbm|rfl:=hbm
       .exact hb b hbm
       .exact λh=>absurd h (by simp)
def FI (im:Img) (T:cG):Prop:=T.length=im.zj.length/\ ∀(q:Nat) b t,im.zj[q]?=some b->T[q]?=some t->dP im b=some t
theorem EB {s:ByteArray} {im:Img} {T:cG} (hl:eZ s= .ok im) (hT:FI im T):Fit im T:=by
 unfold eZ at hl
 split at hl
 .cases hl
 .rename_i hs
  split at hl
  .cases hl
  .rename_i im' hr
   split at hl
   .cases hl
   .rename_i hn
    cases hl
    have a:=pW (by omega) hr;obtain⟨e,f,g⟩:=xA hr;refine⟨a,e,f,λb hb x hx ho=> ?_,hT.1,λq b t hb ht=> ?_,λq b t hb ht=> ?_,g⟩
    .rw[List.findSome?_eq_none_iff]at hn;have c:=hn b hb;unfold unl at c;rw[Option.map_eq_none_iff,List.find?_eq_none]at c;have d:=c x hx;simp[lB,ho]at d;exact d
    .exact lJ a (a.bod b (a9 hb)) (hT.2 q b t hb ht)
    .exact oH a (a.bod b (a9 hb)) (hT.2 q b t hb ht)
theorem vg {im:Img} {T:cG} (h:Fit im T) {q:Nat} {mb:Bod} (hq:im.zj.length=q+1) (hm:im.zj[q]?=some mb):MT im T ⟨q,0,[],aO mb []⟩ [] ⟨[],0,0,[]⟩:=by
 have i:=h.wf.cls;have d:HT im.zq []:=⟨λk ob h=>by simp at h,λk ob h=>by simp at h,λk ob j v h=>by simp at h⟩;obtain⟨t,ht,g⟩:=h.tab hm;obtain⟨p,l,n⟩:=g.start;have b:=(bn l).1;rw[g.len]at b;obtain⟨bs,m,a,hc⟩:=h.main
 have f:mb=m:=by
  have e:q=bs.length:=by rw[a]at hq;simp at hq;omega
  rw[a,e]at hm;simpa using hm.symm
 have c:=zW h (a9 hm) (hp:=[]);rw[show mb.zy.map du=aO mb []from by simp[aO]]at c;exact⟨d,⟨mb,mb.code[0],p.1,p.2,⟨hm,by simp[b],(dD ht).2 l,STk.nil.sub i h.wf.nc d n.1,c.sub i h.wf.nc d n.2⟩,.main mb (by rw[f,hc];omega)⟩,by simp⟩
structure MTn (im:Img) (T:cG) (f:Fm) (rest:List Fm) (s:Ev) (n:Nat):Prop where
 mt:MT im T f rest s
 hn:s.heap.length+n<=4000
 on:s.out.length+22*n<=88000
 rn:s.read+n<=4000
theorem yG {im:Img} {T:cG} (inp:ByteArray) (cells:Nat) (h:Fit im T) {f:Fm} {rest:List Fm} {s:Ev} {n:Nat} (hm:MTn im T f rest s (n+1)): ∃b x st l,tB im T s.heap f b x st l/\ln im T s.heap b rest/\fc im inp T cells ⟨f::rest,s⟩=stepX im inp T cells x f rest s/\
  match stepX im inp T cells x f rest s with
  | .go m=> ∃f' r',m.fr=f'::r'/\MTn im T f' r' m.ev n
  | .bad e o=>6<=e/\e<=10/\o=s.out
  | .fin v o=>(∃k,v= .i k/\ -2147483648<=k/\k<2147483648)/\o=s.out:=by
 obtain⟨b,x,st,l,c,d⟩:=hm.mt.top;refine⟨b,x,st,l,c,d,?_,?_⟩
 .simp only[fc,Bf,c.bd,Option.bind_some,c.ins]
 .have a:=BD inp cells h hm.mt.ht c d hm.mt.dep
  cases hr:stepX im inp T cells x f rest s with
  |go m=>
   rw[hr]at a;obtain⟨f',r',e,g,j,p,q⟩:=a;exact⟨f',r',e,g,by have:=hm.hn;omega,by have:=hm.on;omega,by have:=hm.rn;omega⟩
  |bad e o=>rw[hr]at a;exact a
  |fin v o=>rw[hr]at a;exact a
end Sp
section
open Sp
noncomputable def lT (s inp:ByteArray) (cells fuel:Int):L_×Int×Nat:=
 if 40<inp.size\/cells<0\/100<cells\/fuel<0\/4000<fuel then([],0,1)
 else match eZ s with
  | .error (e,_)=>([],0,e)
  | .ok im=>match eR im 0 im.zj with
   | .error _=>([],0,4)
   | .ok T=>iP im inp T cells.toNat fuel.toNat
theorem BF {im:Img}: ∀{bs:List Bod} {i:Nat} {T:cG},eR im i bs= .ok T->T.length=bs.length/\ ∀(q:Nat) b t,bs[q]?=some b->T[q]?=some t->dP im b=some t:=by
 intro bs
 induction bs with
 |nil=>intro i T h;simp only[eR]at h;cases h;exact⟨rfl,λq b t h=>by simp at h⟩
 |cons b bs ih=>
  intro i T h;unfold eR at h
  split at h
  .cases h
  .rename_i t ht
   split at h
   .cases h
   .rename_i ts hts
    cases h
    obtain⟨a,c⟩:=ih hts;refine⟨by simp[a],λq b' t' hb ht'=> ?_⟩
    cases q with
    |zero=>simp at hb ht';subst hb ht';exact ht
    |succ q=>simp at hb ht';exact c q b' t' hb ht'
theorem zX {im:Img} {T:cG} (inp:ByteArray) (cells:Nat) (h:Fit im T): ∀(n:Nat) {f:Fm} {rest:List Fm} {s:Ev},MTn im T f rest s n->(kZ im inp T cells n ⟨f::rest,s⟩).2.2=0\/(5<=(kZ im inp T cells n ⟨f::rest,s⟩).2.2/\(kZ im inp T cells n ⟨f::rest,s⟩).2.2<=10):=by
 intro n
 induction n with
 |zero=>intro f rest s _;right;simp[kZ]
 |succ n ih=>
  intro f rest s hm;obtain⟨b,x,st,l,_,_,c,hx⟩:=yG inp cells h hm;unfold kZ;rw[c]
  cases hr:Sp.stepX im inp T cells x f rest s with
  |go m=>
   rw[hr]at hx;obtain⟨f',r',e,a⟩:=hx;obtain⟨fr,ev⟩:=m;simp only at e a⊢;subst e;exact ih a
  |bad e o=>rw[hr]at hx;right;simp only;omega
  |fin v o=>left;rfl
theorem BG {im:Img} {T:cG} (inp:ByteArray) (cells:Nat) (h:Fit im T) {fu:Nat} (hf:fu<=4000):(iP im inp T cells fu).2.2=0\/(5<=(iP im inp T cells fu).2.2/\(iP im inp T cells fu).2.2<=10):=by
 obtain⟨bs,m,b,d⟩:=h.main;have a:im.zj.length=bs.length+1:=by rw[b];simp
 have c:im.zj[bs.length]?=some m:=by rw[b];simp
 have:=zX inp cells h fu ⟨vg h a c,by simp;omega,by simp;omega,by simp;omega⟩;unfold iP;rw[a];simpa[c]using this
end
section
open Go Sp
def od (L F:List Nat) (u:V):List Nat:=match u with
 | .o k=>if k∈L++F then F else F++ [k]
 |_=>F
def lx (L:List Nat) (vs:List V):List Nat:=vs.foldl (od L) []
theorem zY {L:List Nat} {vs:List V} {k:Nat} {u:V} {F:List Nat} (h:vs[k]?=some u) (hF:lx L (vs.take k)=F):lx L (vs.take (k+1))=od L F u:=by
 obtain⟨b,a⟩:=bn h;rw[kj b,lx,List.foldl_append,a];unfold lx at hF;rw[hF]
 rfl
theorem BH (L F:List Nat) (u:V) (k:Nat):k∈od L F u↔k∈F\/(u= .o k/\k∉L):=by
 unfold od
 cases u with
 |i n=>simp
 |z=>simp
 |o j=>
  simp only
  split
  .rename_i h
   constructor
   .exact Or.inl
   .rintro(a| ⟨a,b⟩)
    .exact a
    .cases a
     exact(gH h).resolve_left b
  .rename_i h
   simp only[List.mem_append,List.mem_singleton,V.o.injEq]
   constructor
   .rintro(a|rfl)
    .exact Or.inl a
    .exact Or.inr ⟨rfl,λb=>h (List.mem_append_left _ b)⟩
   .rintro(a| ⟨a,_⟩)
    .exact Or.inl a
    .exact Or.inr a.symm
theorem xB {L F:List Nat} (u:V) (h:F.Nodup):(od L F u).Nodup:=by
 unfold od
 cases u with
 |i n=>exact h
 |z=>exact h
 |o j=>
  simp only
  split
  .exact h
  .rename_i hj
   rw[List.nodup_append];refine⟨h,by simp,?_⟩;intro a ha b hb e;simp at hb;subst e hb;exact hj (List.mem_append_right _ ha)
theorem vh (L:List Nat): ∀(vs:List V) (F:List Nat) (k:Nat),k∈vs.foldl (od L) F↔k∈F\/(V.o k∈vs/\k∉L)
 | [],F,k=>by simp
 |u::vs,F,k=>by
  rw[List.foldl_cons,vh L vs,BH,List.mem_cons]
  constructor
  .rintro((h| ⟨h,a⟩) | ⟨h,a⟩)
   .exact Or.inl h
   .exact Or.inr ⟨Or.inl h.symm,a⟩
   .exact Or.inr ⟨Or.inr h,a⟩
  .rintro(h| ⟨h|h,a⟩)
   .exact Or.inl (Or.inl h)
   .exact Or.inl (Or.inr ⟨h.symm,a⟩)
   .exact Or.inr ⟨h,a⟩
theorem qz (L:List Nat): ∀(vs:List V) (F:List Nat),F.Nodup->(vs.foldl (od L) F).Nodup
 | [],F,h=>h
 |u::vs,F,h=>qz L vs _ (xB u h)
theorem jn (L:List Nat) (vs:List V) (k:Nat):k∈lx L vs↔V.o k∈vs/\k∉L:=by
 unfold lx;rw[vh];simp
theorem qA (L:List Nat) (vs:List V):(lx L vs).Nodup:=qz L vs [] (by simp)
theorem vj (L:List Nat) (vs:List V):(lx L vs).length<=vs.length:=by
 have: ∀(vs:List V) (F:List Nat),(vs.foldl (od L) F).length<=F.length+vs.length:=by
  intro vs
  induction vs with
  |nil=>intro F;simp
  |cons u vs ih=>
   intro F;rw[List.foldl_cons];refine Nat.le_trans (ih _) ?_
   have:(od L F u).length<=F.length+1:=by
    unfold od
    cases u with
    |i n=>simp
    |z=>simp
    |o j=>simp only;split<;>simp
   simp only[ie];omega
 have h:=this vs [];simp only[List.length_nil,Nat.zero_add]at h;exact h
def kw (n:Nat) (u:V):Prop:=(∃m,u= .i m)\/u= .z\/ ∃k,u= .o k/\k<n
theorem kw.lt {n k:Nat} (h:kw n (.o k)):k<n:=by
 obtain⟨m,h⟩ |h| ⟨j,h,a⟩:=h
 .cases h
 .cases h
 .cases h;exact a
structure vk (hp:List Ob) (vs:List V) (i:Nat) (F:List Nat):Prop where
 nd:F.Nodup
 lt: ∀j∈F,j<hp.length
 root: ∀k,V.o k∈vs->k∈F
 fld: ∀(m j:Nat) o,m<i->F[m]?=some j->hp[j]?=some o-> ∀k,V.o k∈o.fs->k∈F
 rch: ∀j∈F,Rch hp (λk=>V.o k∈vs) j
theorem qB {hp:List Ob} {vs:List V} (h: ∀u∈vs,kw hp.length u):vk hp vs 0 (lx [] vs):=by
 refine⟨qA _ _,λj hj=> ?_,λk hk=>(jn [] vs k).2 ⟨hk,by simp⟩,λm j o hm=>absurd hm (by omega),λj hj=> ?_⟩
 .exact(h _ ((jn [] vs j).1 hj).1).lt
 .exact Rch.root j ((jn [] vs j).1 hj).1
theorem sc {hp:List Ob} {vs:List V} {i j:Nat} {F:List Nat} {o:Ob} (h:vk hp vs i F) (hi:F[i]?=some j) (ho:hp[j]?=some o) (hv: ∀u∈o.fs,kw hp.length u):vk hp vs (i+1) (F++lx F o.fs):=by
 have c:i<F.length:=(bn hi).1;refine⟨?_,λk hk=> ?_,λk hk=>List.mem_append_left _ (h.root k hk),λm q p hm hq hp' k hk=> ?_,λk hk=> ?_⟩
 .rw[List.nodup_append];refine⟨h.nd,qA _ _,λa ha b hb e=> ?_⟩;subst e;exact((jn F o.fs a).1 hb).2 ha
 .obtain hk|hk:=gH hk
  .exact h.lt k hk
  .exact(hv _ ((jn F o.fs k).1 hk).1).lt
 .rw[eQ (by omega)]at hq
  by_cases e:m=i
  .subst e;rw[hi]at hq
   cases hq
   rw[ho]at hp'
   cases hp'
   by_cases hF:k∈F
   .exact List.mem_append_left _ hF
   .exact List.mem_append_right _ ((jn F o.fs k).2 ⟨hk,hF⟩)
  .exact List.mem_append_left _ (h.fld m q p (by omega) hq hp' k hk)
 .obtain hk|hk:=gH hk
  .exact h.rch k hk
  .exact Rch.field j k o (h.rch j (a9 hi)) ho ((jn F o.fs k).1 hk).1
def lp (hp:List Ob) (k:Nat):Nat:=1+((hp[k]?.map (·.fs)).getD []).length
theorem vm {hp:List Ob} {vs:List V} {i:Nat} {F:List Nat} (h:vk hp vs i F) (hi:F.length<=i):fk hp (λk=>V.o k∈vs)=(F.map (lp hp)).sum:=by
 have b: ∀k,Rch hp (λk=>V.o k∈vs) k->k∈F:=by
  intro k a
  induction a with
  |root k a=>exact h.root k a
  |field j k o _ ho a ih=>
   obtain⟨m,hm,e⟩:=List.getElem_of_mem ih;exact h.fld m j o (by omega) (by rw[aM hm,e]) ho k a
 unfold fk;refine List.Perm.sum_nat (List.Perm.map _ ?_);refine(List.perm_ext_iff_of_nodup (List.Pairwise.filter _ List.nodup_range) h.nd).2 λk=> ?_
 rw[List.mem_filter,List.mem_range]
 constructor
 .rintro⟨_,c⟩;exact b k (@of_decide_eq_true _ (Classical.propDecidable _) c)
 .exact λa=>⟨h.lt k a, @decide_eq_true _ (Classical.propDecidable _) (h.rch k a)⟩
theorem oe {hp:List Ob} {vs:List V} {i:Nat} {F:List Nat} (h:vk hp vs i F):F.length<=hp.length:=by
 have:=List.Nodup.length_le_of_subset h.nd (λj hj=>List.mem_range.2 (h.lt j hj));simpa using this
theorem tD {hp:List Ob} {p q:Nat->Prop} (h: ∀k,p k↔q k):fk hp p=fk hp q:=by
 have:p=q:=funext λk=>propext (h k)
 rw[this]
end
end Go.Proofs.YtpfkkmacakjmbaaGreatDoor
