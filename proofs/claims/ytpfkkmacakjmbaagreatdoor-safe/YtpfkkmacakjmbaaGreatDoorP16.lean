import Derived.Test.YtpfkkmacakjmbaaGreatDoorP15
import Derived.Test.YtpfkkmacakjmbaaGreatDoorP03
set_option maxRecDepth 100000
set_option maxHeartbeats 6400000
set_option linter.all false
namespace Go.Proofs.YtpfkkmacakjmbaaGreatDoor
namespace Sp
def VTm (cs:List Cls) (hp:List Ob) (t:UInt8) (v:V):Prop:=(t.toNat=45/\ ∀k,v= .o k->k<hp.length)\/VT cs hp t v
structure STk (cs:List Cls) (hp:List Ob) (ts:L_) (vs:List V):Prop where
 len:vs.length=ts.length
 at': ∀(j:Nat) v,vs[j]?=some v->VTm cs hp (ts.getD j 0) v
section
variable {cs:List Cls} {hp hp':List Ob} {ts us:L_} {vs ws:List V}
theorem VTm.ext {t:UInt8} {v:V} (h:VTm cs hp t v) (he:Ext hp hp'):VTm cs hp' t v:=h.imp (λh=>⟨h.1,λk e=>bq (h.2 k e) he.1⟩) (λh=>h.ext he)
theorem VTm.lt {t:UInt8} {k:Nat} (h:VTm cs hp t (.o k)):k<hp.length:=by
 obtain h| ⟨_,ob,h,_⟩:=h
 .exact h.2 k rfl
 .exact(bC h).1
theorem VTm.sub (hw:WfC cs) (hn:cs.length<=4) (hh:HT cs hp) {t t':UInt8} {v:V} (h:VTm cs hp t v) (hs:cy cs t t'=true):VTm cs hp t' v:=by
 by_cases h1:t'.toNat=45
 .exact Or.inl ⟨h1,λk e=>(e▸h).lt⟩
 .obtain⟨h,hv⟩ |h:=h
  .obtain h2|h2| ⟨h2,h3⟩ | ⟨h2,_⟩:=aY.1 hs
   .subst h2;exact Or.inl ⟨h,hv⟩
   .exact absurd h2 h1
   .omega
   .have:=cI.1 h2;omega
  .exact Or.inr (h.sub hw hn hh hs h1)
theorem STk.ext (h:STk cs hp ts vs) (he:Ext hp hp'):STk cs hp' ts vs:=⟨h.len,λj v hv=>(h.at' j v hv).ext he⟩
theorem STk.sub (hw:WfC cs) (hn:cs.length<=4) (hh:HT cs hp) (h:STk cs hp ts vs) (hl:leL cs ts us):STk cs hp us vs:=
 ⟨h.len.trans (iw hl),λj v hv=>(h.at' j v hv).sub hw hn hh (iP j hl)⟩
theorem STk.nil:STk cs hp [] []:=⟨rfl,λj v h=>by simp at h⟩
theorem STk.snoc {t:UInt8} {v:V} (h:STk cs hp ts vs) (hv:VTm cs hp t v):STk cs hp (ts++ [t]) (vs++ [v]):=by
 refine⟨by simp[h.len],λj u hj=> ?_⟩;obtain hl|hl:=Nat.lt_or_ge j vs.length
 .rw[fN hl]at hj
  have e:(ts++ [t]).getD j 0=ts.getD j 0:=by
   rw[co,co,fN (by rw[<-h.len];exact hl)]
  rw[e];exact h.at' j u hj
 .rw[List.getElem?_append_right hl]at hj
  cases hk:j-vs.length with
  |zero=>
   rw[hk]at hj;simp at hj;subst hj
   have e:(ts++ [t]).getD j 0=t:=by
    rw[co,List.getElem?_append_right (by rw[<-h.len];exact hl),<-h.len,hk];rfl
   rw[e];exact hv
  |succ k=>rw[hk]at hj;simp at hj
theorem STk.take (h:STk cs hp ts vs) (n:Nat):STk cs hp (ts.take n) (vs.take n):=by
 refine⟨by simp[h.len],λj v hj=> ?_⟩;rw[List.getElem?_take]at hj
 split at hj
 .rename_i hjn
  have e:(ts.take n).getD j 0=ts.getD j 0:=by simp[co,List.getElem?_take,hjn]
  rw[e];exact h.at' j v hj
 .cases hj
theorem STk.set {t:UInt8} {v:V} (h:STk cs hp ts vs) (k:Nat) (hv:VTm cs hp t v):STk cs hp (ts.set k t) (vs.set k v):=by
 refine⟨by simp[h.len],λj u hj=> ?_⟩;rw[List.getElem?_set]at hj
 split at hj
 .rename_i hkj
  subst hkj
  split at hj
  .rename_i hl
   cases hj
   have e:(ts.set k t).getD k 0=t:=by rw[h.len]at hl;simp[co,hl]
   rw[e];exact hv
  .cases hj
 .rename_i hkj
  have e:(ts.set k t).getD j 0=ts.getD j 0:=by simp[co,List.getElem?_set,hkj]
  rw[e];exact h.at' j u hj
theorem STk.get (h:STk cs hp ts vs) {k:Nat} (hk:k<ts.length):VTm cs hp (ts.getD k 0) (vs.getD k .z):=by
 have a0:k<vs.length:=by rw[h.len];exact hk
 have:=h.at' k (vs[k]) (by simp[a0]);simpa[co,a0]using this
theorem STk.t1 (h:STk cs hp ts vs) (hl:1<=ts.length):VTm cs hp (ts.getD (ts.length-1) 0) (bE vs):=by
 have:=h.get (k:=ts.length-1) (by omega);unfold bE;rw[h.len];exact this
theorem STk.t2 (h:STk cs hp ts vs) (hl:2<=ts.length):VTm cs hp (ts.getD (ts.length-2) 0) (fk vs):=by
 have:=h.get (k:=ts.length-2) (by omega);unfold fk;rw[h.len];exact this
theorem STk.l1 (h:STk cs hp ts vs):STk cs hp (ts.take (ts.length-1)) (bB vs):=by unfold bB;rw[h.len];exact h.take _
theorem STk.l2 (h:STk cs hp ts vs):STk cs hp (ts.take (ts.length-2)) (dC vs):=by unfold dC;rw[h.len];exact h.take _
theorem VTm.not45 {t:UInt8} {v:V} (h:VTm cs hp t v) (ht:t.toNat≠45):VT cs hp t v:=h.resolve_left (λh=>ht h.1)
end
inductive jQ (im:Img) (T:de) (hp:List Ob):Bod->List Fm->Prop where
 |main (b:Bod) (hb:b.cls<0):jQ im T hp b []
 |call (b:Bod) (g:Fm) (r:List Fm) (bg:Bod) (x:Ins) (s l:L_) (hb:0<=b.cls) (hg:im.zq[g.q]?=some bg) (hx:bg.code[g.pc]?=some x) (ho:x.op.toNat=99) (hm:(x.b:Int)=b.meth) (hs:jg T g.q g.pc=some (s,l)) (h2:2<=s.length) (hst:STk im.zz hp (s.take (s.length-2)) g.zx) (hlo:STk im.zz hp l g.loc) (hr:jQ im T hp bg r):jQ im T hp b (g::r)
theorem jQ.ext {im:Img} {T:de} {hp hp':List Ob} (he:Ext hp hp') {b:Bod} {r:List Fm} (h:jQ im T hp b r):jQ im T hp' b r:=by
 induction h with
 |main b hb=>exact .main b hb
 |call b g r bg x s l hb hg hx ho hm hs h2 hst hlo hr ih=>exact .call b g r bg x s l hb hg hx ho hm hs h2 (hst.ext he) (hlo.ext he) ih
structure sw (im:Img) (T:de) (hp:List Ob) (f:Fm) (b:Bod) (x:Ins) (s l:L_):Prop where
 bd:im.zq[f.q]?=some b
 ins:b.code[f.pc]?=some x
 st:jg T f.q f.pc=some (s,l)
 zx:STk im.zz hp s f.zx
 loc:STk im.zz hp l f.loc
structure Fit (im:Img) (T:de):Prop where
 wf:WfI im
 fld:WfF im.zz
 lc: ∀b∈im.zq,WfL im.zj b
 lk: ∀b∈im.zq,∀x∈b.code,x.op.toNat=99->0<=cY im.zz im.zq x.b 5 x.a
 len:T.length=im.zq.length
 good: ∀(q:Nat) b t,im.zq[q]?=some b->T[q]?=some t->oJ im b t
 wt: ∀(q:Nat) b t,im.zq[q]?=some b->T[q]?=some t->wfT im.zz.length b.locals.length b.code.length t
 main: ∃bs m,im.zq=bs++ [m]/\m.cls= -1
structure MT (im:Img) (T:de) (f:Fm) (rest:List Fm) (s:Ev):Prop where
 ht:HT im.zz s.heap
 top: ∃b x st l,sw im T s.heap f b x st l/\jQ im T s.heap b rest
 dep:rest.length+1<=12
theorem eb {T:de} {q pc:Nat} {t:List St} {p:L_×L_} (ht:T[q]?=some t):jg T q pc=some p↔t[pc]?=some (some p):=by
 unfold jg;rw[ht];simp only[Option.getD_some]
 cases h:t[pc]? with
 |none=>simp
 |some o=>simp
theorem Fit.tab {im:Img} {T:de} (h:Fit im T) {q:Nat} {b:Bod} (hb:im.zq[q]?=some b): ∃t,T[q]?=some t/\oJ im b t:=by
 have hl:=(bC hb).1;have h1:=aH (show q<T.length by rw[h.len];exact hl);exact⟨_,h1,h.good q b _ hb h1⟩
theorem Fit.next {im:Img} {T:de} (h:Fit im T) {hp hp':List Ob} {f f':Fm} {b:Bod} {x:Ins} {s l s' l':L_} (hT:sw im T hp f b x s l) (he:eN im.zz im.zj b x s l=some (s',l')) (hq:f'.q=f.q) (hpc:(f'.pc:Int)=(eC x f.pc).1\/(f'.pc:Int)=(eC x f.pc).2) (hh:HT im.zz hp') (hs:STk im.zz hp' s' f'.zx) (hl:STk im.zz hp' l' f'.loc): ∃x' s2 l2,sw im T hp' f' b x' s2 l2:=by
 obtain⟨t,ht,hG⟩:=h.tab hT.bd;obtain⟨s1,l1,a0,r1,r2⟩:=hG.go f.pc x s l hT.ins ((eb ht).1 hT.st);rw[he]at a0
 cases a0
 have hr:fp im.zz t (f'.pc:Int) (s',l'):=by rcases hpc with e|e<;>(rw[e];assumption)
 obtain hr| ⟨st',h1,h2⟩:=hr
 .omega
 .simp only[Int.toNat_natCast]at h1;have a1:=(bC h1).1;rw[hG.len]at a1;exact⟨b.code[f'.pc],st'.1,st'.2,⟨by rw[hq];exact hT.bd,by simp[a1],by rw[hq];exact(eb ht).2 h1,hs.sub h.wf.cls h.wf.nc hh h2.1,hl.sub h.wf.cls h.wf.nc hh h2.2⟩⟩
theorem fS {cs:List Cls} {s:L_} {c:UInt8} (h:eG cs s [c]=true):1<=s.length/\cy cs (s.getD (s.length-1) 0) c=true:=by
 simpa[eG,List.range_succ]using h
theorem iH {cs:List Cls} {s:L_} {c d:UInt8} (h:eG cs s [c,d]=true):2<=s.length/\cy cs (s.getD (s.length-2) 0) c=true/\cy cs (s.getD (s.length-1) 0) d=true:=by
 simp only[eG,List.length_cons,List.length_nil,et,ed,List.all_eq_true,List.mem_range]at h;have h0:=h.2 0 (by omega);have h1:=h.2 1 (by omega);refine⟨h.1,by simpa using h0,?_⟩;rw[show s.length-(0+1+1)+1=s.length-1 from by have:=h.1;omega]at h1;simpa using h1
theorem bU {cs:List Cls} {gs:List Sig} {b:Bod} {x:Ins} {s l s' l':L_} (h1: ¬(x.op.toNat=115\/x.op.toNat=100\/x.op.toNat=101\/x.op.toNat=120)) (h2:x.op.toNat≠108) (he:eN cs gs b x s l=some (s',l')):
  eG cs s (bQ cs gs b x)=true/\s'=s.take (s.length-(bQ cs gs b x).length)++bZ cs gs x/\l'=l:=by
 unfold eN at he;rw[if_neg h1,if_neg h2]at he
 split at he
 .rename_i hf
  simp at he;exact⟨hf,he.1.symm,he.2.symm⟩
 .cases he
def OkS (im:Img) (T:de) (s0:Ev):SR->Prop
 | .go m=> ∃f rest,m.fr=f::rest/\MT im T f rest m.ev/\m.ev.heap.length<=s0.heap.length+1/\m.ev.out.length<=s0.out.length+22/\m.ev.read<=s0.read+1
 | .bad e o=>6<=e/\e<=10/\o=s0.out
 | .fin v o=>(∃n,v= .i n/\ -2147483648<=n/\n<2147483648)/\o=s0.out
section
variable {im:Img} {T:de} {f f':Fm} {rest:List Fm} {s s2:Ev} {b:Bod} {x:Ins} {st l st' l':L_}
theorem sx (h:Fit im T) (hT:sw im T s.heap f b x st l) (hC:jQ im T s.heap b rest) (hd:rest.length+1<=12) (he:eN im.zz im.zj b x st l=some (st',l')) (hq:f'.q=f.q) (hpc:(f'.pc:Int)=(eC x f.pc).1\/(f'.pc:Int)=(eC x f.pc).2) (hx:Ext s.heap s2.heap) (hh:HT im.zz s2.heap) (hs:STk im.zz s2.heap st' f'.zx) (hl:STk im.zz s2.heap l' f'.loc)
  (n1:s2.heap.length<=s.heap.length+1) (n2:s2.out.length<=s.out.length+22) (n3:s2.read<=s.read+1):OkS im T s (.go ⟨f'::rest,s2⟩):=by
 obtain⟨x',a,c,hn⟩:=h.next hT he hq hpc hh hs hl;exact⟨f',rest,rfl,⟨hh,⟨b,x',a,c,hn,hC.ext hx⟩,hd⟩,n1,n2,n3⟩
theorem eH (h:Fit im T) (hM:HT im.zz s.heap) (hT:sw im T s.heap f b x st l) (hC:jQ im T s.heap b rest) (hd:rest.length+1<=12) (he:eN im.zz im.zj b x st l=some (st',l')) (hq:f'.q=f.q) (hpc:(f'.pc:Int)=(eC x f.pc).1\/(f'.pc:Int)=(eC x f.pc).2) (e2:s2.heap=s.heap) (hs:STk im.zz s.heap st' f'.zx) (hl:STk im.zz s.heap l' f'.loc)
  (n2:s2.out.length<=s.out.length+22) (n3:s2.read<=s.read+1):OkS im T s (.go ⟨f'::rest,s2⟩):=
 sx h hT hC hd he hq hpc (by rw[e2];exact Ext.refl _) (by rw[e2];exact hM) (by rw[e2];exact hs) (by rw[e2];exact hl) (by rw[e2];omega) n2 n3
end
theorem nS {im:Img} (h:WfI im) {a k:Nat} (ha:a<im.zz.length) (hk:k<bH im.zz a):cZ im.zz.length (cO im.zz a k)=true:=by
 have h1:=h.cls a _ (aH ha);have e:bJ im.zz a=im.zz[a].fields:=by simp[bJ,ha]
 rw[iG,e];have a0:k<im.zz[a].fields.length:=by unfold bH at hk;simpa[ha]using hk
 rw[co,aH a0];exact fK (by omega) (h1.2.2.2 _ (cN a0))
theorem Dq {im:Img} (h:WfI im) {hp:List Ob} (hh:HT im.zz hp) {a:Nat} (ha:a<im.zz.length):HT im.zz (hp++ [⟨a,cr im.zz a⟩])/\Ext hp (hp++ [⟨a,cr im.zz a⟩])/\VT im.zz (hp++ [⟨a,cr im.zz a⟩]) (dI a) (.o hp.length):=by
 have h4:=h.nc;obtain⟨hC,a2⟩:=fI (a:=a) (by omega);have a1:Ext hp (hp++ [⟨a,cr im.zz a⟩]):=⟨by simp,λk ob hk=>⟨ob,by rw[fN (bC hk).1];exact hk,rfl⟩⟩
 have a0: ∀(k:Nat) ob,(hp++ [⟨a,cr im.zz a⟩])[k]?=some ob->hp[k]?=some ob\/ob=⟨a,cr im.zz a⟩:=λk ob hk=>by
  obtain hl|hl:=Nat.lt_or_ge k hp.length
  .rw[fN hl]at hk;exact Or.inl hk
  .rw[List.getElem?_append_right hl]at hk
   cases hq:k-hp.length with
   |zero=>rw[hq]at hk;simp at hk;exact Or.inr hk.symm
   |succ q=>rw[hq]at hk;simp at hk
 refine⟨⟨?_,?_,?_⟩,a1,hC,⟨a,cr im.zz a⟩,by simp,by rw[a2];exact pd h.cls (by omega)⟩
 .intro k ob hk;obtain h1|h1:=a0 k ob hk
  .exact hh.cls k ob h1
  .subst h1;exact ha
 .intro k ob hk;obtain h1|h1:=a0 k ob hk
  .exact hh.len k ob h1
  .subst h1;simp[cr]
 .intro k ob j v hk hv;obtain h1|h1:=a0 k ob hk
  .exact(hh.fs k ob j v h1 hv).ext a1
  .subst h1;simp only[cr,cg,Option.map_eq_some_iff]at hv;obtain⟨c,hc,rfl⟩:=hv;have hj:=(bC hc).1;have e:(bJ im.zz a).getD j 0=c:=by rw[co,hc];rfl
   simp only[e];refine jP h4 ?_;have:=nS h (a:=a) (k:=j) ha (by unfold bH;exact hj);rw[iG,e]at this;exact this
theorem lI {im:Img} {T:de} (h:Fit im T) {hp:List Ob} (hh:HT im.zz hp) {a j k:Nat} {ob:Ob} (ha:a<im.zz.length) (hj:j<bH im.zz a) (hk:hp[k]?=some ob) (hu:bF im.zz 5 ob.cls a=true):
  j<ob.fs.length/\(bJ im.zz ob.cls).getD j 0=cO im.zz a j:=by
 have h4:=h.wf.nc;have hc:=hh.cls k ob hk;have hp':=mN h.wf.cls h.fld 4 (x:=ob.cls) (y:=a) (by omega) (by omega) (by omega) hu;simp only[Int.toNat_natCast]at hp';obtain⟨u,hu⟩:=hp';have a0:j<(bJ im.zz a).length:=hj;refine⟨by rw[hh.len k ob hk,<-hu];simp;omega,?_⟩;rw[iG,<-hu,co,fN a0,co]
theorem Dr {im:Img} {hp:List Ob} (hh:HT im.zz hp) {k j:Nat} {ob:Ob} (hk:hp[k]?=some ob) {v:V} (hv:VT im.zz hp ((bJ im.zz ob.cls).getD j 0) v):HT im.zz (hp.set k ⟨ob.cls,ob.fs.set j v⟩)/\Ext hp (hp.set k ⟨ob.cls,ob.fs.set j v⟩):=by
 have hl:=(bC hk).1
 have a1: ∀(i:Nat) o,(hp.set k ⟨ob.cls,ob.fs.set j v⟩)[i]?=some o->(i≠k/\hp[i]?=some o)\/(i=k/\o=⟨ob.cls,ob.fs.set j v⟩):=λi o hi=>by
  rw[List.getElem?_set]at hi
  split at hi
  .rename_i e
   subst e
   cases hi
   exact Or.inr ⟨rfl,rfl⟩
  .rename_i e
   exact Or.inl ⟨λh=>e h.symm,hi⟩
 have a0:Ext hp (hp.set k ⟨ob.cls,ob.fs.set j v⟩):=⟨by simp,λi o hi=>by
  by_cases e:i=k
  .subst e;rw[hk]at hi;cases hi;exact⟨⟨ob.cls,ob.fs.set j v⟩,by simp[hl],rfl⟩
  .exact⟨o,by rw[List.getElem?_set_ne (λh=>e h.symm)];exact hi,rfl⟩⟩
 refine⟨⟨?_,?_,?_⟩,a0⟩
 .intro i o hi;obtain⟨_,h1⟩ | ⟨_,rfl⟩:=a1 i o hi
  .exact hh.cls i o h1
  .exact hh.cls k ob hk
 .intro i o hi;obtain⟨_,h1⟩ | ⟨_,rfl⟩:=a1 i o hi
  .exact hh.len i o h1
  .simp only[List.length_set];exact hh.len k ob hk
 .intro i o q u hi hu;obtain⟨_,h1⟩ | ⟨_,rfl⟩:=a1 i o hi
  .exact(hh.fs i o q u h1 hu).ext a0
  .simp only[List.getElem?_set]at hu
   split at hu
   .rename_i e
    subst e
    split at hu
    .cases hu;exact hv.ext a0
    .cases hu
   .exact(hh.fs k ob q u hk hu).ext a0
theorem eB {x:Ins} {i:Nat} (h1:x.op.toNat≠116) (h2:x.op.toNat≠106) (h3:x.op.toNat≠102):eC x i=((i:Int)+1,-1):=by simp[eC,h1,h2,h3]
theorem VTm.toInt {cs:List Cls} {hp:List Ob} (hw:WfC cs) (hn:cs.length<=4) (hh:HT cs hp) {t:UInt8} {v:V} (h:VTm cs hp t v) (hs:cy cs t 105=true): ∃n,v= .i n/\ -2147483648<=n/\n<2147483648:=((h.sub hw hn hh hs).not45 (by decide)).int (by decide)
theorem VTm.toRef {cs:List Cls} {hp:List Ob} {t:UInt8} {v:V} (h:VTm cs hp t v) (ht:isR t=true):VT cs hp t v:=h.not45 (λe=>by simp[isR,isC,e]at ht)
theorem yF {im:Img} {T:de} (h:Fit im T) {b:Bod} (hb:b∈im.zq) {hp:List Ob}:STk im.zz hp b.locals (b.locals.map dc):=by
 refine⟨by simp,λj v hv=> ?_⟩;simp only[cg,Option.map_eq_some_iff]at hv;obtain⟨c,hc,rfl⟩:=hv;rw[show b.locals.getD j 0=c from by rw[co,hc];rfl];exact Or.inr (jP h.wf.nc ((h.wf.bod b hb).loc.2 c (bp hc)))
theorem xq {im:Img} {T:de} (h:Fit im T) {x:Ins} {s:Ev} (hh:HT im.zz s.heap) {k:Nat} {ob:Ob} (hk:s.heap[k]?=some ob) (hxa:x.a<im.zz.length) (hxb:x.b<im.zj.length) (hu:bF im.zz 5 ob.cls x.a=true) (hf:0<=cY im.zz im.zq x.b 5 x.a) {v:V} (hv:VT im.zz s.heap (gY im.zj x.b) v):
  im.zq[(cY im.zz im.zq x.b 5 (s.cls k)).toNat]?=some (ck im x k s)/\ck im x k s∈im.zq/\(ck im x k s).meth=x.b/\0<=(ck im x k s).cls/\STk im.zz s.heap (ck im x k s).locals (bn (ck im x k s) [.o k,v]):=by
 have h4:=h.wf.nc;have hc:=hh.cls k ob hk;have e1:=(Ev.at hk).1;have b0:=li (bs:=im.zq) (m:=x.b) h.wf.cls 4 (x:=ob.cls) (y:=x.a) (by omega) (by omega) hu hf;obtain⟨b,a1,a6,a7,a3⟩:=pL b0;have e2:ck im x k s=b:=by simp[ck,e1,a1]
 rw[e1,e2];have a2:b∈im.zq:=bp a1;obtain⟨t,ht⟩:=h.lc b a2 a3;have a4:=h.wf.bod b a2
 have a8:b.cls.toNat<4:=by
  obtain h1|h1:=a4.cls
  .omega
  .omega
 refine⟨a1,a2,a6,a3,?_⟩;have a0:=a4.loc.2;rw[ht]at a0⊢;have hm:b.meth.toNat=x.b:=by omega
 rw[hm];refine⟨by simp[bn,ht],λj w hw=> ?_⟩;simp only[bn,ht,List.length_cons,List.length_nil,List.drop_succ_cons,List.drop_zero,List.cons_append,List.nil_append]at hw
 right
 match j,hw with
 |0,hw=>
  cases hw
  obtain⟨hC,a5⟩:=fI (a:=b.cls.toNat) a8;refine⟨hC,ob,hk,?_⟩;have:((UInt8.ofNat (65+b.cls.toNat)).toNat:Int)-65=b.cls:=by have:=a5;unfold dI at this;omega
  simp only[List.getD_cons_zero];rw[this];exact a7
 |1,hw=>cases hw;simpa using hv
 |j+2,hw=>
  simp only[List.getElem?_cons_succ,cg,Option.map_eq_some_iff]at hw;obtain⟨c,hc,rfl⟩:=hw;have e3:(UInt8.ofNat (65+b.cls.toNat)::gY im.zj x.b::t).getD (j+2) 0=c:=by simp[hc]
  rw[e3];exact jP h4 (a0 c (by simp[bp hc]))
theorem xt {im:Img} (h:WfI im) {k:Nat} (hk:k<im.zj.length):cZ im.zz.length (gY im.zj k)=true/\cZ im.zz.length (gZ im.zj k)=true:=by
 have:=h.sig _ (cN hk);simpa[gY,gZ,hk]using this
theorem ko {cs:List Cls} {gs:List Sig} {b:Bod} {x:Ins} {s l s' l':L_} (h1:x.op.toNat=115\/x.op.toNat=100\/x.op.toNat=101\/x.op.toNat=120) (he:eN cs gs b x s l=some (s',l')):
  ∃k,fg x.op.toNat s=some k/\s'=s.take (s.length-k)++bZ cs gs x/\l'=if x.op.toNat=115 then l.set x.b (s.getD (s.length-1) 0)else l:=by
 unfold eN at he;rw[if_pos h1]at he
 cases hk:fg x.op.toNat s with
 |none=>rw[hk]at he;cases he
 |some k=>rw[hk]at he;simp only[Option.some.injEq,Prod.mk.injEq]at he;exact⟨k,rfl,he.1.symm,he.2.symm⟩
theorem ie {cs:List Cls} {gs:List Sig} {b:Bod} {x:Ins} {s l s' l':L_} (h1:x.op.toNat=115\/x.op.toNat=100\/x.op.toNat=101\/x.op.toNat=120) (h2:x.op.toNat≠115) (he:eN cs gs b x s l=some (s',l')):
  ∃k,fg x.op.toNat s=some k/\s'=s.take (s.length-k)++bZ cs gs x/\l'=l:=by
 obtain⟨k,a,b,c⟩:=ko h1 he;rw[if_neg h2]at c;exact⟨k,a,b,c⟩
theorem gQ {c k:Nat} {s:L_} (hc:c≠101) (h:fg c s=some k):k=1/\1<=s.length/\(c=120->isR (s.getD (s.length-1) 0)=true):=by
 unfold fg at h;rw[if_neg hc]at h
 split at h
 .cases h
 .rename_i hn
  cases h
  rw[not_or]at hn;exact⟨rfl,by omega,λe=>by have:=hn.2;simp[e]at this;exact this⟩
theorem pM {k:Nat} {s:L_} (h:fg 101 s=some k):k=2/\2<=s.length/\isR (s.getD (s.length-1) 0)=true/\isR (s.getD (s.length-2) 0)=true:=by
 unfold fg at h;rw[if_pos rfl]at h
 split at h
 .cases h
 .rename_i hn
  cases h
  rw[not_or,not_or]at hn;exact⟨rfl,by omega,by simpa using hn.2.1,by simpa using hn.2.2⟩
theorem rf {s:List V} (h:1<=s.length):bB s++ [bE s]=s:=by
 unfold bB bE;have hl:s.length-1<s.length:=by omega
 rw[co,aH hl,Option.getD_some,<-iM hl];exact List.take_of_length_le (by omega)
theorem wh {im:Img} {T:de} (h:Fit im T) {hp:List Ob} {f:Fm} {b:Bod} {x:Ins} {s l:L_} (hT:sw im T hp f b x s l):l.length=b.locals.length:=by
 obtain⟨t,ht,hG⟩:=h.tab hT.bd;exact((h.wt f.q b t hT.bd ht).2 f.pc s l ((eb ht).1 hT.st)).1.2.2
section
variable {im:Img} {T:de} {f:Fm} {rest:List Fm} {s:Ev} {b:Bod} {x:Ins} {st l:L_}
theorem AN (inp:ByteArray) (cells:Nat) (h:Fit im T) (hM:HT im.zz s.heap) (hT:sw im T s.heap f b x st l) (hC:jQ im T s.heap b rest) (hd:rest.length+1<=12):OkS im T s (stepX im inp T cells x f rest s):=by
 have hw:=h.wf.cls;have h4:=h.wf.nc;have b4:b∈im.zq:=bp hT.bd;have b9:x∈b.code:=bp hT.ins;have hX:=(h.wf.bod b b4).code x b9;obtain⟨t,ht,hG⟩:=h.tab hT.bd;obtain⟨st',l',he,r1,r2⟩:=hG.go f.pc x st l hT.ins ((eb ht).1 hT.st);unfold stepX
 by_cases h107:x.op.toNat=107
 .rw[if_pos h107];obtain⟨_,e2,rfl⟩:=bU (by omega) (by omega) he;simp[bQ,bZ,arith,h107]at e2;subst e2;exact eH h hM hT hC hd he rfl (Or.inl (by rw[eB (by omega) (by omega) (by omega)];simp[Fm.on])) rfl (hT.zx.snoc (Or.inr ⟨by decide,by omega,by have:=hX.num;omega⟩)) hT.loc (by omega) (by omega)
 rw[if_neg h107]
 by_cases h114:x.op.toNat=114
 .rw[if_pos h114];obtain⟨_,e2,rfl⟩:=bU (by omega) (by omega) he;simp[bQ,bZ,arith,h114]at e2;subst e2;exact eH h hM hT hC hd he rfl (Or.inl (by rw[eB (by omega) (by omega) (by omega)];simp[Fm.on])) rfl (hT.zx.snoc (Or.inr ⟨by decide,ox _ _⟩)) hT.loc (by simp) (by simp)
 rw[if_neg h114]
 by_cases h119:x.op.toNat=119
 .rw[if_pos h119];obtain⟨hf,e2,rfl⟩:=bU (by omega) (by omega) he;simp[bQ,bZ,arith,h119]at e2 hf;subst e2;obtain⟨f1,f2⟩:=fS hf;obtain⟨n,hn,n1,n2⟩:=(hT.zx.t1 f1).toInt hw h4 hM f2;rw[hn];have hi:=Lib.itoa_length_le n (by omega) (by omega);exact eH h hM hT hC hd he rfl (Or.inl (by rw[eB (by omega) (by omega) (by omega)];simp[Fm.on])) rfl hT.zx.l1 hT.loc (by simp[Ev.say,V.N];omega) (by simp[Ev.say])
 rw[if_neg h119]
 by_cases h122:x.op.toNat=122
 .rw[if_pos h122];obtain⟨_,e2,rfl⟩:=bU (by omega) (by omega) he;simp[bQ,bZ,arith,h122]at e2;subst e2;exact eH h hM hT hC hd he rfl (Or.inl (by rw[eB (by omega) (by omega) (by omega)];simp[Fm.on])) rfl (hT.zx.snoc (Or.inr (show isR 122=true by decide))) hT.loc (by omega) (by omega)
 rw[if_neg h122]
 by_cases h100:x.op.toNat=100
 .rw[if_pos h100];obtain⟨k,hk,e2,rfl⟩:=ie (by omega) (by omega) he;obtain⟨rfl,q1,_⟩:=gQ (by omega) hk;simp[bZ,arith,h100]at e2;subst e2;exact eH h hM hT hC hd he rfl (Or.inl (by rw[eB (by omega) (by omega) (by omega)];simp[Fm.on])) rfl hT.zx.l1 hT.loc (by omega) (by omega)
 rw[if_neg h100]
 by_cases h108:x.op.toNat=108
 .rw[if_pos h108];have a5:=he;unfold eN at a5;rw[if_neg (by omega),if_pos h108]at a5
  split at a5
  .cases a5
  .rename_i hne
   simp at a5;obtain⟨rfl,rfl⟩:=a5
   have d6:x.b<l.length:=by
    obtain q|q:=Nat.lt_or_ge x.b l.length
    .exact q
    .have:=hX.loc (Or.inl h108);have h5:=hT.loc.len;exact absurd (wh h hT) (by omega)
   exact eH h hM hT hC hd he rfl (Or.inl (by rw[eB (by omega) (by omega) (by omega)];simp[Fm.on])) rfl (hT.zx.snoc (hT.loc.get d6)) hT.loc (by omega) (by omega)
 rw[if_neg h108]
 by_cases h115:x.op.toNat=115
 .rw[if_pos h115];obtain⟨k,hk,e2,e3⟩:=ko (by omega) he;obtain⟨rfl,q1,_⟩:=gQ (by omega) hk;simp[bZ,arith,h115]at e2 e3;subst e2 e3;exact eH h hM hT hC hd he rfl (Or.inl (by rw[eB (by omega) (by omega) (by omega)];simp[Fm.on])) rfl hT.zx.l1 (hT.loc.set x.b (hT.zx.t1 q1)) (by omega) (by omega)
 rw[if_neg h115]
 by_cases h106:x.op.toNat=106
 .rw[if_pos h106];obtain⟨_,e2,rfl⟩:=bU (by omega) (by omega) he;simp[bQ,bZ,arith,h106]at e2;subst e2;exact eH h hM hT hC hd he rfl (Or.inl (by simp[eC,h106])) rfl hT.zx hT.loc (by omega) (by omega)
 rw[if_neg h106]
 by_cases h102:x.op.toNat=102
 .rw[if_pos h102];obtain⟨hf,e2,rfl⟩:=bU (by omega) (by omega) he;simp[bQ,bZ,arith,h102]at e2 hf;subst e2;refine eH h hM hT hC hd he rfl ?_ rfl hT.zx.l1 hT.loc (by omega) (by omega)
  by_cases hn:(bE f.zx).N=0
  .exact Or.inr (by simp[eC,h102,hn])
  .exact Or.inl (by simp[eC,h102,hn])
 rw[if_neg h102]
 by_cases h101:x.op.toNat=101
 .rw[if_pos h101];obtain⟨k,hk,e2,rfl⟩:=ie (by omega) (by omega) he;obtain⟨rfl,q1,q2,q3⟩:=pM (by rw[h101]at hk;exact hk);simp[bZ,arith,h101]at e2;subst e2;refine eH h hM hT hC hd he rfl (Or.inl (by rw[eB (by omega) (by omega) (by omega)];simp[Fm.on])) rfl (hT.zx.l2.snoc ?_) hT.loc (by omega) (by omega)
  right
  split
  .exact⟨by decide,by omega,by omega⟩
  .exact⟨by decide,by omega,by omega⟩
 rw[if_neg h101]
 by_cases h110:x.op.toNat=110
 .rw[if_pos h110];obtain⟨_,e2,rfl⟩:=bU (by omega) (by omega) he;simp[bQ,bZ,arith,h110]at e2;subst e2
  split
  .exact⟨by omega,by omega,rfl⟩
  .obtain⟨g1,g2,g3⟩:=Dq h.wf hM (hX.cls (by omega));exact sx h hT hC hd he rfl (Or.inl (by rw[eB (by omega) (by omega) (by omega)];simp[Fm.on])) g2 g1 ((hT.zx.ext g2).snoc (Or.inr g3)) (hT.loc.ext g2) (by simp) (by simp) (by simp)
 rw[if_neg h110]
 by_cases h120:x.op.toNat=120
 .rw[if_pos h120];obtain⟨k,hk,e2,rfl⟩:=ie (by omega) (by omega) he;obtain⟨rfl,q1,q2⟩:=gQ (by omega) hk;have q2:=q2 h120;simp[bZ,arith,h120]at e2;subst e2;obtain⟨a0,a4⟩:=fI (a:=x.a) (by have:=hX.cls (by omega);omega);have hv:=(hT.zx.t1 q1).toRef q2
  have a6: ∀{v},bE f.zx=v->VT im.zz s.heap (dI x.a) v->STk im.zz s.heap (st.take (st.length-1)++ [dI x.a]) f.zx:=λ{v} e hv=>by
   have h1:=hT.zx.l1.snoc (Or.inr hv);rw[<-e,rf (by rw[hT.zx.len];exact q1)]at h1;exact h1
  cases htv:bE f.zx with
  |i n=>rw[htv]at hv;rcases hv.ref q2 with e| ⟨_,_,e,_⟩<;>cases e
  |z=>
   exact eH h hM hT hC hd he rfl (Or.inl (by rw[eB (by omega) (by omega) (by omega)];simp[Fm.on])) rfl (a6 htv (cC a0)) hT.loc (by omega) (by omega)
  |o k=>
   rw[htv]at hv;obtain⟨a1,ob,a2,a3⟩:=hv;simp only[(Ev.at a2).1]
   split
   .rename_i hu
    exact eH h hM hT hC hd he rfl (Or.inl (by rw[eB (by omega) (by omega) (by omega)];simp[Fm.on])) rfl (a6 htv ⟨a0,ob,a2,by rw[a4];exact hu⟩) hT.loc (by omega) (by omega)
   .exact⟨by omega,by omega,rfl⟩
 rw[if_neg h120]
 by_cases h103:x.op.toNat=103
 .rw[if_pos h103];obtain⟨hf,e2,rfl⟩:=bU (by omega) (by omega) he;simp[bQ,bZ,arith,h103]at e2 hf;subst e2;obtain⟨f1,f2⟩:=fS hf;obtain⟨a0,a4⟩:=fI (a:=x.a) (by have:=hX.cls (by omega);omega);have hv:=((hT.zx.t1 f1).sub hw h4 hM f2).toRef (cC a0);obtain e| ⟨k,ob,e,hk,_,hu⟩:=hv.ref (cC a0)
  .rw[e];exact⟨by omega,by omega,rfl⟩
  .rw[e]
   show OkS im T s (.go ⟨f.on (bB f.zx++ [(s.fs k).getD x.b .z])::rest,s⟩)
   rw[(Ev.at hk).2];rw[a4]at hu;obtain⟨g1,g2⟩:=lI h hM (hX.cls (by omega)) (hX.fld (by omega)) hk hu;refine eH h hM hT hC hd he rfl (Or.inl (by rw[eB (by omega) (by omega) (by omega)];simp[Fm.on])) rfl (hT.zx.l1.snoc (Or.inr ?_)) hT.loc (by omega) (by omega);rw[<-g2,co (l:=ob.fs),aH g1];exact hM.fs k ob x.b _ hk (aH g1)
 rw[if_neg h103]
 by_cases h112:x.op.toNat=112
 .rw[if_pos h112];obtain⟨hf,e2,rfl⟩:=bU (by omega) (by omega) he;simp[bQ,bZ,arith,h112]at e2 hf;subst e2;obtain⟨f1,f2,f3⟩:=iH hf;have b0:=hX.cls (by omega);have a7:=hX.fld (by omega);obtain⟨a0,a4⟩:=fI (a:=x.a) (by omega);have hv:=((hT.zx.t2 f1).sub hw h4 hM f2).toRef (cC a0);obtain e| ⟨k,ob,e,hk,_,hu⟩:=hv.ref (cC a0)
  .rw[e];exact⟨by omega,by omega,rfl⟩
  .rw[e];rw[a4]at hu;obtain⟨g1,g2⟩:=lI h hM b0 a7 hk hu;have a8:=((hT.zx.t1 (by omega)).sub hw h4 hM f3).not45 (jr (nS h.wf b0 a7));rw[<-g2]at a8;obtain⟨p1,p2⟩:=Dr hM hk a8;have e1:(s.put k x.b (bE f.zx)).heap=s.heap.set k ⟨ob.cls,ob.fs.set x.b (bE f.zx)⟩:=by simp[Ev.put,(Ev.at hk).1,(Ev.at hk).2]
   exact sx h hT hC hd he rfl (Or.inl (by rw[eB (by omega) (by omega) (by omega)];simp[Fm.on])) (by rw[e1];exact p2) (by rw[e1];exact p1) (by rw[e1];exact hT.zx.l2.ext p2) (by rw[e1];exact hT.loc.ext p2) (by rw[e1];simp) (by simp[Ev.put]) (by simp[Ev.put])
 rw[if_neg h112]
 by_cases h99:x.op.toNat=99
 .rw[if_pos h99];obtain⟨hf,e2,rfl⟩:=bU (by omega) (by omega) he;simp[bQ,bZ,arith,h99]at e2 hf;obtain⟨f1,f2,f3⟩:=iH hf;have b0:=hX.cls (by omega);have a7:=hX.sig h99;obtain⟨a0,a4⟩:=fI (a:=x.a) (by omega);have hv:=((hT.zx.t2 f1).sub hw h4 hM f2).toRef (cC a0);obtain e| ⟨k,ob,e,hk,_,hu⟩:=hv.ref (cC a0)
  .rw[e];exact⟨by omega,by omega,rfl⟩
  .rw[e];rw[a4]at hu;simp only
   split
   .exact⟨by omega,by omega,rfl⟩
   .have a8:=((hT.zx.t1 (by omega)).sub hw h4 hM f3).not45 (jr (xt h.wf a7).1);obtain⟨c1,c2,c3,c4,c5⟩:=xq h hM hk b0 a7 hu (h.lk b b4 x b9 h99) a8;obtain⟨t2,e7,b2⟩:=h.tab c1;obtain⟨s0,i1,i2⟩:=b2.start;have b5:=(bC i1).1;rw[b2.len]at b5;refine⟨_,_,rfl,⟨hM,⟨ck im x k s,(ck im x k s).code[0],s0.1,s0.2,⟨c1,by simp[b5],(eb e7).2 i1,STk.nil.sub hw h4 hM i2.1,c5.sub hw h4 hM i2.2⟩,?_⟩,by simp;omega⟩,by simp,by simp,by simp⟩;exact .call _ _ _ b x st _ c4 hT.bd hT.ins h99 c3.symm hT.st f1 hT.zx.l2 hT.loc hC
 rw[if_neg h99]
 by_cases h116:x.op.toNat=116
 .rw[if_pos h116];obtain⟨hf,e2,rfl⟩:=bU (by omega) (by omega) he
  cases hC with
  |main _ hb=>
   simp[bQ,arith,h116,hb]at hf;obtain⟨f1,f2⟩:=fS hf;exact⟨(hT.zx.t1 f1).toInt hw h4 hM f2,rfl⟩
  |call _ g r bg y sg lg hb hg hy ho hm hsg h2 hst hlo hr=>
   have e6: ¬b.cls<0:=by omega
   simp[bQ,arith,h116,e6]at hf;obtain⟨f1,f2⟩:=fS hf;have c9:bg∈im.zq:=bp hg;have e8:=((h.wf.bod bg c9).code y (bp hy)).sig ho;have e0:b.meth.toNat=y.b:=by omega
   rw[e0]at f2;have hv:=(hT.zx.t1 f1).sub hw h4 hM f2;obtain⟨t3,b6,b3⟩:=h.tab hg;obtain⟨s3,l3,c7,r3,r4⟩:=b3.go g.pc y sg lg hy ((eb b6).1 hsg);obtain⟨_,e4,rfl⟩:=bU (by omega) (by omega) c7;simp[bQ,bZ,arith,ho]at e4;subst e4;rw[eB (by omega) (by omega) (by omega)]at r3;obtain r3| ⟨stq,r5,r6⟩:=r3
   .omega
   .have b1:=(bC r5).1;have e5:((g.pc:Int)+1).toNat=g.pc+1:=by omega
    rw[b3.len]at b1;rw[e5]at r5 b1;exact⟨_,_,rfl,⟨hM,⟨bg,bg.code[g.pc+1],stq.1,stq.2,⟨hg,by simp[Fm.on,b1],(eb b6).2 r5,(hst.snoc hv).sub hw h4 hM r6.1,hlo.sub hw h4 hM r6.2⟩,hr⟩,by simp at hd;omega⟩,by simp,by simp,by simp⟩
 rw[if_neg h116]
 have ha:arith x.op.toNat=true:=by
  have:=hX.op;simp[cV]at this;simp[arith];omega
 obtain⟨hf,e2,rfl⟩:=bU (by omega) (by omega) he;simp[bQ,bZ,ha,h119,h102]at e2 hf;subst e2;obtain⟨f1,f2,f3⟩:=iH hf;obtain⟨m,hm,m1,m2⟩:=(hT.zx.t2 f1).toInt hw h4 hM f2;obtain⟨n,hn,n1,n2⟩:=(hT.zx.t1 (by omega)).toInt hw h4 hM f3;rw[hm,hn];simp only[V.N];unfold eP
 split
 .rename_i hr
  split at hr
  .split at hr
   .cases hr;exact⟨by omega,by omega,rfl⟩
   .cases hr
  .cases hr
 .rename_i v l2 s2 hr
  have key:s2=s/\VT im.zz s.heap 105 v:=by
   split at hr
   .split at hr
    .cases hr
    .cases hr;exact⟨rfl,by decide,nR _⟩
   .cases hr;exact⟨rfl,by decide,pK _ _ _⟩
  obtain⟨rfl,hv⟩:=key;exact eH h hM hT hC hd he rfl (Or.inl (by rw[eB (by omega) (by omega) (by omega)];simp[Fm.on])) rfl (hT.zx.l2.snoc (Or.inr hv)) hT.loc (by omega) (by omega)
end
theorem AO {s:ByteArray} {cs:List Cls} {gs:List Sig}: ∀{k:Nat} {bs:List Bod} {i:Nat} {r:List Bod} {j:Nat},(∀b∈bs,WfL gs b)->fU s cs gs k bs i= .ok (r,j)-> ∀b∈r,WfL gs b:=by
 intro k
 induction k with
 |zero=>
  intro bs i r j hw h;unfold fU at h
  split at h
  .cases h;exact hw
  .cases h
 |succ k ih=>
  intro bs i r j hw h;unfold fU at h
  split at h
  .cases h;exact hw
  .split at h
   .cases h
   .split at h
    .cases h
    .split at h
     .cases h
     .split at h
      .cases h
      .split at h
       .cases h
       .refine ih (λb hb=> ?_) h;obtain hb|hb:=List.mem_append.1 hb
        .exact hw b hb
        .rw[List.mem_singleton]at hb;subst hb;exact λ_=>⟨_,rfl⟩
theorem wi {s:ByteArray} {im:Img} (h:ec s= .ok im):WfF im.zz/\(∀b∈im.zq,WfL im.zj b)/\ ∃bs m,im.zq=bs++ [m]/\m.cls= -1:=by
 unfold ec at h
 split at h
 .cases h
 .rename_i cs l1 h1
  split at h
  .cases h
  .rename_i gs l2 h2
   split at h
   .cases h
   .rename_i bs l3 h3
    split at h
    .cases h
    .rename_i t l4 h4
     split at h
     .cases h
     .rename_i is l5 h5
      split at h
      .cases h
      .cases h
       have hb:=AO (λb hb=>by simp at hb) h3;refine⟨tu (λj c h=>by simp at h) (λj c h=>by simp at h) h1,λb hbm=> ?_,bs,_,rfl,rfl⟩;simp at hbm;obtain hbm|rfl:=hbm
       .exact hb b hbm
       .exact λh=>absurd h (by simp)
def Eg (im:Img) (T:de):Prop:=T.length=im.zq.length/\ ∀(q:Nat) b t,im.zq[q]?=some b->T[q]?=some t->dR im b=some t
theorem Ds {s:ByteArray} {im:Img} {T:de} (hl:dQ s= .ok im) (hT:Eg im T):Fit im T:=by
 unfold dQ at hl
 split at hl
 .cases hl
 .rename_i hs
  split at hl
  .cases hl
  .rename_i im' hr
   split at hl
   .cases hl
   .rename_i hn
    cases hl
    have hW:=mC (by omega) hr;obtain⟨h1,h2,h3⟩:=wi hr;refine⟨hW,h1,h2,λb hb x hx ho=> ?_,hT.1,λq b t hb ht=> ?_,λq b t hb ht=> ?_,h3⟩
    .rw[List.findSome?_eq_none_iff]at hn;have q1:=hn b hb;unfold unl at q1;rw[Option.map_eq_none_iff,List.find?_eq_none]at q1;have q2:=q1 x hx;simp[dp,ho]at q2;exact q2
    .exact kT hW (hW.bod b (bp hb)) (hT.2 q b t hb ht)
    .exact nG hW (hW.bod b (bp hb)) (hT.2 q b t hb ht)
theorem AP {im:Img} {T:de} (h:Fit im T) {q:Nat} {mb:Bod} (hq:im.zq.length=q+1) (hm:im.zq[q]?=some mb):MT im T ⟨q,0,[],bn mb []⟩ [] ⟨[],0,0,[]⟩:=by
 have hw:=h.wf.cls;have hM:HT im.zz []:=⟨λk ob h=>by simp at h,λk ob h=>by simp at h,λk ob j v h=>by simp at h⟩;obtain⟨t,ht,hG⟩:=h.tab hm;obtain⟨s0,i1,i2⟩:=hG.start;have a1:=(bC i1).1;rw[hG.len]at a1;obtain⟨bs,m,a0,hc⟩:=h.main
 have a3:mb=m:=by
  have e:q=bs.length:=by rw[a0]at hq;simp at hq;omega
  rw[a0,e]at hm;simpa using hm.symm
 have a2:=yF h (bp hm) (hp:=[]);rw[show mb.locals.map dc=bn mb []from by simp[bn]]at a2;exact⟨hM,⟨mb,mb.code[0],s0.1,s0.2,⟨hm,by simp[a1],(eb ht).2 i1,STk.nil.sub hw h.wf.nc hM i2.1,a2.sub hw h.wf.nc hM i2.2⟩,.main mb (by rw[a3,hc];omega)⟩,by simp⟩
structure MTn (im:Img) (T:de) (f:Fm) (rest:List Fm) (s:Ev) (n:Nat):Prop where
 mt:MT im T f rest s
 hn:s.heap.length+n<=4000
 on:s.out.length+22*n<=88000
 rn:s.read+n<=4000
theorem xu {im:Img} {T:de} (inp:ByteArray) (cells:Nat) (h:Fit im T) {f:Fm} {rest:List Fm} {s:Ev} {n:Nat} (hm:MTn im T f rest s (n+1)): ∃b x st l,sw im T s.heap f b x st l/\jQ im T s.heap b rest/\jh im inp T cells ⟨f::rest,s⟩=stepX im inp T cells x f rest s/\
  match stepX im inp T cells x f rest s with
  | .go m=> ∃f' r',m.fr=f'::r'/\MTn im T f' r' m.ev n
  | .bad e o=>6<=e/\e<=10/\o=s.out
  | .fin v o=>(∃k,v= .i k/\ -2147483648<=k/\k<2147483648)/\o=s.out:=by
 obtain⟨b,x,st,l,hT,hC⟩:=hm.mt.top;refine⟨b,x,st,l,hT,hC,?_,?_⟩
 .simp only[jh,xf,hT.bd,Option.bind_some,hT.ins]
 .have hk:=AN inp cells h hm.mt.ht hT hC hm.mt.dep
  cases hr:stepX im inp T cells x f rest s with
  |go m=>
   rw[hr]at hk;obtain⟨f',r',e,h1,h2,h3,h4⟩:=hk;exact⟨f',r',e,h1,by have:=hm.hn;omega,by have:=hm.on;omega,by have:=hm.rn;omega⟩
  |bad e o=>rw[hr]at hk;exact hk
  |fin v o=>rw[hr]at hk;exact hk
end Sp
section
open Go Sp
def pN (L F:List Nat) (u:V):List Nat:=match u with
 | .o k=>if k∈L++F then F else F++ [k]
 |_=>F
def ul (L:List Nat) (vs:List V):List Nat:=vs.foldl (pN L) []
theorem AQ (L F:List Nat) (u:V) (k:Nat):k∈pN L F u↔k∈F\/(u= .o k/\k∉L):=by
 unfold pN
 cases u with
 |i n=>simp
 |z=>simp
 |o j=>
  simp only
  split
  .rename_i h
   constructor
   .exact Or.inl
   .rintro(h1| ⟨h1,h2⟩)
    .exact h1
    .cases h1
     exact(List.mem_append.1 h).resolve_left h2
  .rename_i h
   simp only[List.mem_append,List.mem_singleton,V.o.injEq]
   constructor
   .rintro(h1|rfl)
    .exact Or.inl h1
    .exact Or.inr ⟨rfl,λh2=>h (List.mem_append_left _ h2)⟩
   .rintro(h1| ⟨h1,_⟩)
    .exact Or.inl h1
    .exact Or.inr h1.symm
theorem wj {L F:List Nat} (u:V) (h:F.Nodup):(pN L F u).Nodup:=by
 unfold pN
 cases u with
 |i n=>exact h
 |z=>exact h
 |o j=>
  simp only
  split
  .exact h
  .rename_i hj
   rw[List.nodup_append];refine⟨h,by simp,?_⟩;intro a ha b hb e;simp at hb;subst e hb;exact hj (List.mem_append_right _ ha)
theorem um (L:List Nat): ∀(vs:List V) (F:List Nat) (k:Nat),k∈vs.foldl (pN L) F↔k∈F\/(V.o k∈vs/\k∉L)
 | [],F,k=>by simp
 |u::vs,F,k=>by
  rw[List.foldl_cons,um L vs,AQ,List.mem_cons]
  constructor
  .rintro((h| ⟨h,h2⟩) | ⟨h,h2⟩)
   .exact Or.inl h
   .exact Or.inr ⟨Or.inl h.symm,h2⟩
   .exact Or.inr ⟨Or.inr h,h2⟩
  .rintro(h| ⟨h|h,h2⟩)
   .exact Or.inl (Or.inl h)
   .exact Or.inl (Or.inr ⟨h.symm,h2⟩)
   .exact Or.inr ⟨h,h2⟩
theorem pO (L:List Nat): ∀(vs:List V) (F:List Nat),F.Nodup->(vs.foldl (pN L) F).Nodup
 | [],F,h=>h
 |u::vs,F,h=>pO L vs _ (wj u h)
theorem iX (L:List Nat) (vs:List V) (k:Nat):k∈ul L vs↔V.o k∈vs/\k∉L:=by
 unfold ul;rw[um];simp
theorem pP (L:List Nat) (vs:List V):(ul L vs).Nodup:=pO L vs [] (by simp)
def ig (n:Nat) (u:V):Prop:=(∃m,u= .i m)\/u= .z\/ ∃k,u= .o k/\k<n
theorem ig.lt {n k:Nat} (h:ig n (.o k)):k<n:=by
 obtain⟨m,h⟩ |h| ⟨j,h,hj⟩:=h
 .cases h
 .cases h
 .cases h;exact hj
structure un (hp:List Ob) (vs:List V) (i:Nat) (F:List Nat):Prop where
 nd:F.Nodup
 lt: ∀j∈F,j<hp.length
 root: ∀k,V.o k∈vs->k∈F
 fld: ∀(m j:Nat) o,m<i->F[m]?=some j->hp[j]?=some o-> ∀k,V.o k∈o.fs->k∈F
 rch: ∀j∈F,Rch hp (λk=>V.o k∈vs) j
theorem pQ {hp:List Ob} {vs:List V} (h: ∀u∈vs,ig hp.length u):un hp vs 0 (ul [] vs):=by
 refine⟨pP _ _,λj hj=> ?_,λk hk=>(iX [] vs k).2 ⟨hk,by simp⟩,λm j o hm=>absurd hm (by omega),λj hj=> ?_⟩
 .exact(h _ ((iX [] vs j).1 hj).1).lt
 .exact Rch.root j ((iX [] vs j).1 hj).1
theorem rg {hp:List Ob} {vs:List V} {i j:Nat} {F:List Nat} {o:Ob} (h:un hp vs i F) (hi:F[i]?=some j) (ho:hp[j]?=some o) (hv: ∀u∈o.fs,ig hp.length u):un hp vs (i+1) (F++ul F o.fs):=by
 have a0:i<F.length:=(bC hi).1;refine⟨?_,λk hk=> ?_,λk hk=>List.mem_append_left _ (h.root k hk),λm q p hm hq hp' k hk=> ?_,λk hk=> ?_⟩
 .rw[List.nodup_append];refine⟨h.nd,pP _ _,λa ha b hb e=> ?_⟩;subst e;exact((iX F o.fs a).1 hb).2 ha
 .obtain hk|hk:=List.mem_append.1 hk
  .exact h.lt k hk
  .exact(hv _ ((iX F o.fs k).1 hk).1).lt
 .rw[fN (by omega)]at hq
  by_cases e:m=i
  .subst e;rw[hi]at hq
   cases hq
   rw[ho]at hp'
   cases hp'
   by_cases hF:k∈F
   .exact List.mem_append_left _ hF
   .exact List.mem_append_right _ ((iX F o.fs k).2 ⟨hk,hF⟩)
  .exact List.mem_append_left _ (h.fld m q p (by omega) hq hp' k hk)
 .obtain hk|hk:=List.mem_append.1 hk
  .exact h.rch k hk
  .exact Rch.field j k o (h.rch j (bp hi)) ho ((iX F o.fs k).1 hk).1
def kH (hp:List Ob) (k:Nat):Nat:=1+((hp[k]?.map (·.fs)).getD []).length
theorem uo {hp:List Ob} {vs:List V} {i:Nat} {F:List Nat} (h:un hp vs i F) (hi:F.length<=i):md hp (λk=>V.o k∈vs)=(F.map (kH hp)).sum:=by
 have a0: ∀k,Rch hp (λk=>V.o k∈vs) k->k∈F:=by
  intro k hk
  induction hk with
  |root k hk=>exact h.root k hk
  |field j k o _ ho hk ih=>
   obtain⟨m,hm,e⟩:=List.getElem_of_mem ih;exact h.fld m j o (by omega) (by rw[aH hm,e]) ho k hk
 unfold md;refine List.Perm.sum_nat (List.Perm.map _ ?_);refine(List.perm_ext_iff_of_nodup (List.Pairwise.filter _ List.nodup_range) h.nd).2 λk=> ?_
 rw[List.mem_filter,List.mem_range]
 constructor
 .rintro⟨_,h2⟩;exact a0 k (@of_decide_eq_true _ (Classical.propDecidable _) h2)
 .exact λhk=>⟨h.lt k hk, @decide_eq_true _ (Classical.propDecidable _) (h.rch k hk)⟩
theorem m6 {hp:List Ob} {vs:List V} {i:Nat} {F:List Nat} (h:un hp vs i F):F.length<=hp.length:=by
 have:=List.Nodup.length_le_of_subset h.nd (λj hj=>List.mem_range.2 (h.lt j hj));simpa using this
end
section
open Sp
theorem AR {im:Img}: ∀{bs:List Bod} {i:Nat} {T:de},ff im i bs= .ok T->T.length=bs.length/\ ∀(q:Nat) b t,bs[q]?=some b->T[q]?=some t->dR im b=some t:=by
 intro bs
 induction bs with
 |nil=>intro i T h;simp only[ff]at h;cases h;exact⟨rfl,λq b t h=>by simp at h⟩
 |cons b bs ih=>
  intro i T h;unfold ff at h
  split at h
  .cases h
  .rename_i t ht
   split at h
   .cases h
   .rename_i ts hts
    cases h
    obtain⟨h1,h2⟩:=ih hts;refine⟨by simp[h1],λq b' t' hb ht'=> ?_⟩
    cases q with
    |zero=>simp at hb ht';subst hb ht';exact ht
    |succ q=>simp at hb ht';exact h2 q b' t' hb ht'
end
end Go.Proofs.YtpfkkmacakjmbaaGreatDoor
