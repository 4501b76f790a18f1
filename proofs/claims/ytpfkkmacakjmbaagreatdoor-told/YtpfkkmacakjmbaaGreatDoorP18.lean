import Derived.Test.YtpfkkmacakjmbaaGreatDoorP17
import Derived.Test.YtpfkkmacakjmbaaGreatDoorP06
import Derived.Test.YtpfkkmacakjmbaaGreatDoorP08
set_option maxRecDepth 100000
set_option maxHeartbeats 6400000
set_option linter.unusedSimpArgs false
set_option linter.unusedVariables false
namespace Go.Proofs.YtpfkkmacakjmbaaGreatDoor
namespace Sp
def VTm (cs:List Cls) (hp:List Ob) (t:UInt8) (v:V):Prop:=t.toNat=45∨VT cs hp t v
structure STk (cs:List Cls) (hp:List Ob) (ts:List UInt8) (vs:List V):Prop where
 len:vs.length=ts.length
 at': ∀(j:Nat) v,vs[j]?=some v→VTm cs hp (ts.getD j 0) v
section
variable {cs:List Cls} {hp hp':List Ob} {ts us:List UInt8} {vs ws:List V}
theorem VTm.ext {t:UInt8} {v:V} (h:VTm cs hp t v) (he:Ext hp hp'):VTm cs hp' t v:=h.imp_right (fun h=>h.ext he)
theorem VTm.sub (hw:WfC cs) (hn:cs.length≤4) (hh:HT cs hp) {t t':UInt8} {v:V} (h:VTm cs hp t v) (hs:bP cs t t'=true):VTm cs hp t' v:=by
 by_cases h1:t'.toNat=45
 ·exact Or.inl h1
 ·rcases h with h|h
  ·rcases aR.1 hs with h2|h2| ⟨h2,h3⟩ | ⟨h2,_⟩
   ·subst h2;exact Or.inl h
   ·exact absurd h2 h1
   ·omega
   ·have:=bL.1 h2;omega
  ·exact Or.inr (h.sub hw hn hh hs h1)
theorem STk.ext (h:STk cs hp ts vs) (he:Ext hp hp'):STk cs hp' ts vs:=⟨h.len,fun j v hv=>(h.at' j v hv).ext he⟩
theorem STk.sub (hw:WfC cs) (hn:cs.length≤4) (hh:HT cs hp) (h:STk cs hp ts vs) (hl:leL cs ts us):STk cs hp us vs:=
 ⟨h.len.trans (fB hl),fun j v hv=>(h.at' j v hv).sub hw hn hh (fU j hl)⟩
theorem STk.nil:STk cs hp [] []:=⟨rfl,fun j v h=>by simp at h⟩
theorem STk.snoc {t:UInt8} {v:V} (h:STk cs hp ts vs) (hv:VTm cs hp t v):STk cs hp (ts++ [t]) (vs++ [v]):=by
 refine⟨by simp[h.len],fun j u hj=> ?_⟩;rcases Nat.lt_or_ge j vs.length with hl|hl
 ·rw[List.getElem?_append_left hl]at hj
  have e:(ts++ [t]).getD j 0=ts.getD j 0:=by
   rw[List.getD_eq_getElem?_getD,List.getD_eq_getElem?_getD,List.getElem?_append_left (by rw[←h.len];exact hl)]
  rw[e];exact h.at' j u hj
 ·rw[List.getElem?_append_right hl]at hj
  cases hk:j-vs.length with
  |zero=>
   rw[hk]at hj;simp at hj;subst hj
   have e:(ts++ [t]).getD j 0=t:=by
    rw[List.getD_eq_getElem?_getD,List.getElem?_append_right (by rw[←h.len];exact hl),←h.len,hk];rfl
   rw[e];exact hv
  |succ k=>rw[hk]at hj;simp at hj
theorem STk.take (h:STk cs hp ts vs) (n:Nat):STk cs hp (ts.take n) (vs.take n):=by
 refine⟨by simp[h.len],fun j v hj=> ?_⟩;rw[List.getElem?_take]at hj
 split at hj
 ·rename_i hjn
  have e:(ts.take n).getD j 0=ts.getD j 0:=by simp[List.getD_eq_getElem?_getD,List.getElem?_take,hjn]
  rw[e];exact h.at' j v hj
 ·cases hj
theorem STk.set {t:UInt8} {v:V} (h:STk cs hp ts vs) (k:Nat) (hv:VTm cs hp t v):STk cs hp (ts.set k t) (vs.set k v):=by
 refine⟨by simp[h.len],fun j u hj=> ?_⟩;rw[List.getElem?_set]at hj
 split at hj
 ·rename_i hkj
  subst hkj
  split at hj
  ·rename_i hl
   cases hj
   have e:(ts.set k t).getD k 0=t:=by rw[h.len]at hl;simp[List.getD_eq_getElem?_getD,hl]
   rw[e];exact hv
  ·cases hj
 ·rename_i hkj
  have e:(ts.set k t).getD j 0=ts.getD j 0:=by simp[List.getD_eq_getElem?_getD,List.getElem?_set,hkj]
  rw[e];exact h.at' j u hj
theorem STk.get (h:STk cs hp ts vs) {k:Nat} (hk:k<ts.length):VTm cs hp (ts.getD k 0) (vs.getD k .z):=by
 have a0:k<vs.length:=by rw[h.len];exact hk
 have:=h.at' k (vs[k]) (by simp[a0]);simpa[List.getD_eq_getElem?_getD,a0]using this
theorem STk.t1 (h:STk cs hp ts vs) (hl:1≤ts.length):VTm cs hp (ts.getD (ts.length-1) 0) (cO vs):=by
 have:=h.get (k:=ts.length-1) (by omega);unfold cO;rw[h.len];exact this
theorem STk.t2 (h:STk cs hp ts vs) (hl:2≤ts.length):VTm cs hp (ts.getD (ts.length-2) 0) (jW vs):=by
 have:=h.get (k:=ts.length-2) (by omega);unfold jW;rw[h.len];exact this
theorem STk.l1 (h:STk cs hp ts vs):STk cs hp (ts.take (ts.length-1)) (cI vs):=by unfold cI;rw[h.len];exact h.take _
theorem STk.l2 (h:STk cs hp ts vs):STk cs hp (ts.take (ts.length-2)) (gC vs):=by unfold gC;rw[h.len];exact h.take _
theorem VTm.not45 {t:UInt8} {v:V} (h:VTm cs hp t v) (ht:t.toNat≠45):VT cs hp t v:=h.resolve_left ht
end
inductive iY (im:Img) (T:cw) (hp:List Ob):Bod→List Fm→Prop where
 |main (b:Bod) (hb:b.cls<0):iY im T hp b []
 |call (b:Bod) (g:Fm) (r:List Fm) (bg:Bod) (x:Ins) (s l:List UInt8) (hb:0≤b.cls) (hg:im.bodies[g.q]?=some bg) (hx:bg.code[g.pc]?=some x) (ho:x.op.toNat=99) (hm:(x.b:Int)=b.meth) (hs:gz T g.q g.pc=some (s,l)) (h2:2≤s.length) (hst:STk im.classes hp (s.take (s.length-2)) g.stk) (hlo:STk im.classes hp l g.loc) (hr:iY im T hp bg r):iY im T hp b (g::r)
theorem iY.ext {im:Img} {T:cw} {hp hp':List Ob} (he:Ext hp hp') {b:Bod} {r:List Fm} (h:iY im T hp b r):iY im T hp' b r:=by
 induction h with
 |main b hb=>exact .main b hb
 |call b g r bg x s l hb hg hx ho hm hs h2 hst hlo hr ih=>exact .call b g r bg x s l hb hg hx ho hm hs h2 (hst.ext he) (hlo.ext he) ih
structure qo (im:Img) (T:cw) (hp:List Ob) (f:Fm) (b:Bod) (x:Ins) (s l:List UInt8):Prop where
 bd:im.bodies[f.q]?=some b
 ins:b.code[f.pc]?=some x
 st:gz T f.q f.pc=some (s,l)
 stk:STk im.classes hp s f.stk
 loc:STk im.classes hp l f.loc
structure Fit (im:Img) (T:cw):Prop where
 wf:WfI im
 fld:WfF im.classes
 lc: ∀b∈im.bodies,WfL im.sigs b
 lk: ∀b∈im.bodies,∀x∈b.code,x.op.toNat=99→0≤cE im.classes im.bodies x.b 5 x.a
 len:T.length=im.bodies.length
 good: ∀(q:Nat) b t,im.bodies[q]?=some b→T[q]?=some t→mB im b t
 wt: ∀(q:Nat) b t,im.bodies[q]?=some b→T[q]?=some t→wfT im.classes.length b.locals.length b.code.length t
 main: ∃bs m,im.bodies=bs++ [m]∧m.cls= -1
structure MT (im:Img) (T:cw) (f:Fm) (rest:List Fm) (s:Ev):Prop where
 ht:HT im.classes s.heap
 top: ∃b x st l,qo im T s.heap f b x st l∧iY im T s.heap b rest
 dep:rest.length+1≤12
theorem cP {T:cw} {q pc:Nat} {t:List St} {p:List UInt8×List UInt8} (ht:T[q]?=some t):gz T q pc=some p↔t[pc]?=some (some p):=by
 unfold gz;rw[ht];simp only[Option.getD_some]
 cases h:t[pc]? with
 |none=>simp
 |some o=>simp
theorem Fit.tab {im:Img} {T:cw} (h:Fit im T) {q:Nat} {b:Bod} (hb:im.bodies[q]?=some b): ∃t,T[q]?=some t∧mB im b t:=by
 have hl:=(List.getElem?_eq_some_iff.1 hb).1;have h1:=List.getElem?_eq_getElem (show q<T.length by rw[h.len];exact hl);exact⟨_,h1,h.good q b _ hb h1⟩
theorem Fit.next {im:Img} {T:cw} (h:Fit im T) {hp hp':List Ob} {f f':Fm} {b:Bod} {x:Ins} {s l s' l':List UInt8} (hT:qo im T hp f b x s l) (he:dP im.classes im.sigs b x s l=some (s',l')) (hq:f'.q=f.q) (hpc:(f'.pc:Int)=(dG x f.pc).1∨(f'.pc:Int)=(dG x f.pc).2) (hh:HT im.classes hp') (hs:STk im.classes hp' s' f'.stk) (hl:STk im.classes hp' l' f'.loc): ∃x' s2 l2,qo im T hp' f' b x' s2 l2:=by
 obtain⟨t,ht,hG⟩:=h.tab hT.bd;obtain⟨s1,l1,a0,r1,r2⟩:=hG.go f.pc x s l hT.ins ((cP ht).1 hT.st);rw[he]at a0
 cases a0
 have hr:ee im.classes t (f'.pc:Int) (s',l'):=by rcases hpc with e|e<;>(rw[e];assumption)
 rcases hr with hr| ⟨st',h1,h2⟩
 ·omega
 ·simp only[Int.toNat_natCast]at h1;have a1:=(List.getElem?_eq_some_iff.1 h1).1;rw[hG.len]at a1;exact⟨b.code[f'.pc],st'.1,st'.2,⟨by rw[hq];exact hT.bd,by simp[a1],by rw[hq];exact(cP ht).2 h1,hs.sub h.wf.cls h.wf.nc hh h2.1,hl.sub h.wf.cls h.wf.nc hh h2.2⟩⟩
theorem eC {cs:List Cls} {s:List UInt8} {c:UInt8} (h:dJ cs s [c]=true):1≤s.length∧bP cs (s.getD (s.length-1) 0) c=true:=by
 simpa[dJ,List.range_succ]using h
theorem fI {cs:List Cls} {s:List UInt8} {c d:UInt8} (h:dJ cs s [c,d]=true):2≤s.length∧bP cs (s.getD (s.length-2) 0) c=true∧bP cs (s.getD (s.length-1) 0) d=true:=by
 simp only[dJ,List.length_cons,List.length_nil,Bool.and_eq_true,decide_eq_true_eq,List.all_eq_true,List.mem_range]at h;have h0:=h.2 0 (by omega);have h1:=h.2 1 (by omega);refine⟨h.1,by simpa using h0,?_⟩;rw[show s.length-(0+1+1)+1=s.length-1 from by have:=h.1;omega]at h1;simpa using h1
theorem bC {cs:List Cls} {gs:List Sig} {b:Bod} {x:Ins} {s l s' l':List UInt8} (h1: ¬(x.op.toNat=115∨x.op.toNat=100∨x.op.toNat=101∨x.op.toNat=120)) (h2:x.op.toNat≠108) (he:dP cs gs b x s l=some (s',l')):
  dJ cs s (bB cs gs b x)=true∧s'=s.take (s.length-(bB cs gs b x).length)++bG cs gs x∧l'=l:=by
 unfold dP at he;rw[if_neg h1,if_neg h2]at he
 split at he
 ·rename_i hf
  simp at he;exact⟨hf,he.1.symm,he.2.symm⟩
 ·cases he
def OkS (im:Img) (T:cw) (s0:Ev):SR→Prop
 | .go m=> ∃f rest,m.fr=f::rest∧MT im T f rest m.ev∧m.ev.heap.length≤s0.heap.length+1∧m.ev.out.length≤s0.out.length+22∧m.ev.read≤s0.read+1
 | .bad e o=>6≤e∧e≤10∧o=s0.out
 | .fin v o=>(∃n,v= .i n∧ -2147483648≤n∧n<2147483648)∧o=s0.out
section
variable {im:Img} {T:cw} {f f':Fm} {rest:List Fm} {s s2:Ev} {b:Bod} {x:Ins} {st l st' l':List UInt8}
theorem qp (h:Fit im T) (hT:qo im T s.heap f b x st l) (hC:iY im T s.heap b rest) (hd:rest.length+1≤12) (he:dP im.classes im.sigs b x st l=some (st',l')) (hq:f'.q=f.q) (hpc:(f'.pc:Int)=(dG x f.pc).1∨(f'.pc:Int)=(dG x f.pc).2) (hx:Ext s.heap s2.heap) (hh:HT im.classes s2.heap) (hs:STk im.classes s2.heap st' f'.stk) (hl:STk im.classes s2.heap l' f'.loc)
  (n1:s2.heap.length≤s.heap.length+1) (n2:s2.out.length≤s.out.length+22) (n3:s2.read≤s.read+1):OkS im T s (.go ⟨f'::rest,s2⟩):=by
 obtain⟨x',a,c,hn⟩:=h.next hT he hq hpc hh hs hl;exact⟨f',rest,rfl,⟨hh,⟨b,x',a,c,hn,hC.ext hx⟩,hd⟩,n1,n2,n3⟩
theorem dK (h:Fit im T) (hM:HT im.classes s.heap) (hT:qo im T s.heap f b x st l) (hC:iY im T s.heap b rest) (hd:rest.length+1≤12) (he:dP im.classes im.sigs b x st l=some (st',l')) (hq:f'.q=f.q) (hpc:(f'.pc:Int)=(dG x f.pc).1∨(f'.pc:Int)=(dG x f.pc).2) (e2:s2.heap=s.heap) (hs:STk im.classes s.heap st' f'.stk) (hl:STk im.classes s.heap l' f'.loc)
  (n2:s2.out.length≤s.out.length+22) (n3:s2.read≤s.read+1):OkS im T s (.go ⟨f'::rest,s2⟩):=
 qp h hT hC hd he hq hpc (by rw[e2];exact Ext.refl _) (by rw[e2];exact hM) (by rw[e2];exact hs) (by rw[e2];exact hl) (by rw[e2];omega) n2 n3
end
theorem lO {im:Img} (h:WfI im) {a k:Nat} (ha:a<im.classes.length) (hk:k<cF im.classes a):cG im.classes.length (cz im.classes a k)=true:=by
 have h1:=h.cls a _ (List.getElem?_eq_getElem ha);have e:bc im.classes a=im.classes[a].fields:=by simp[bc,ha]
 rw[fH,e];have a0:k<im.classes[a].fields.length:=by unfold cF at hk;simpa[ha]using hk
 rw[List.getD_eq_getElem?_getD,List.getElem?_eq_getElem a0];exact ew (by omega) (h1.2.2.2 _ (List.getElem_mem a0))
theorem AR {im:Img} (h:WfI im) {hp:List Ob} (hh:HT im.classes hp) {a:Nat} (ha:a<im.classes.length):HT im.classes (hp++ [⟨a,cC im.classes a⟩])∧Ext hp (hp++ [⟨a,cC im.classes a⟩])∧VT im.classes (hp++ [⟨a,cC im.classes a⟩]) (cL a) (.o hp.length):=by
 have h4:=h.nc;obtain⟨hC,a2⟩:=dD (a:=a) (by omega);have a1:Ext hp (hp++ [⟨a,cC im.classes a⟩]):=⟨by simp,fun k ob hk=>⟨ob,by rw[List.getElem?_append_left (List.getElem?_eq_some_iff.1 hk).1];exact hk,rfl⟩⟩
 have a0: ∀(k:Nat) ob,(hp++ [⟨a,cC im.classes a⟩])[k]?=some ob→hp[k]?=some ob∨ob=⟨a,cC im.classes a⟩:=fun k ob hk=>by
  rcases Nat.lt_or_ge k hp.length with hl|hl
  ·rw[List.getElem?_append_left hl]at hk;exact Or.inl hk
  ·rw[List.getElem?_append_right hl]at hk
   cases hq:k-hp.length with
   |zero=>rw[hq]at hk;simp at hk;exact Or.inr hk.symm
   |succ q=>rw[hq]at hk;simp at hk
 refine⟨⟨?_,?_,?_⟩,a1,hC,⟨a,cC im.classes a⟩,by simp,by rw[a2];exact mS h.cls (by omega)⟩
 ·intro k ob hk;rcases a0 k ob hk with h1|h1
  ·exact hh.cls k ob h1
  ·subst h1;exact ha
 ·intro k ob hk;rcases a0 k ob hk with h1|h1
  ·exact hh.len k ob h1
  ·subst h1;simp[cC]
 ·intro k ob j v hk hv;rcases a0 k ob hk with h1|h1
  ·exact(hh.fs k ob j v h1 hv).ext a1
  ·subst h1;simp only[cC,List.getElem?_map,Option.map_eq_some_iff]at hv;obtain⟨c,hc,rfl⟩:=hv;have hj:=(List.getElem?_eq_some_iff.1 hc).1;have e:(bc im.classes a).getD j 0=c:=by rw[List.getD_eq_getElem?_getD,hc];rfl
   simp only[e];refine iq h4 ?_;have:=lO h (a:=a) (k:=j) ha (by unfold cF;exact hj);rw[fH,e]at this;exact this
theorem jS {im:Img} {T:cw} (h:Fit im T) {hp:List Ob} (hh:HT im.classes hp) {a j k:Nat} {ob:Ob} (ha:a<im.classes.length) (hj:j<cF im.classes a) (hk:hp[k]?=some ob) (hu:bO im.classes 5 ob.cls a=true):
  j<ob.fs.length∧(bc im.classes ob.cls).getD j 0=cz im.classes a j:=by
 have h4:=h.wf.nc;have hc:=hh.cls k ob hk;have hp':=kO h.wf.cls h.fld 4 (x:=ob.cls) (y:=a) (by omega) (by omega) (by omega) hu;simp only[Int.toNat_natCast]at hp';obtain⟨u,hu⟩:=hp';have a0:j<(bc im.classes a).length:=hj;refine⟨by rw[hh.len k ob hk,←hu];simp;omega,?_⟩;rw[fH,←hu,List.getD_eq_getElem?_getD,List.getElem?_append_left a0,List.getD_eq_getElem?_getD]
theorem AS {im:Img} {hp:List Ob} (hh:HT im.classes hp) {k j:Nat} {ob:Ob} (hk:hp[k]?=some ob) {v:V} (hv:VT im.classes hp ((bc im.classes ob.cls).getD j 0) v):HT im.classes (hp.set k ⟨ob.cls,ob.fs.set j v⟩)∧Ext hp (hp.set k ⟨ob.cls,ob.fs.set j v⟩):=by
 have hl:=(List.getElem?_eq_some_iff.1 hk).1
 have a1: ∀(i:Nat) o,(hp.set k ⟨ob.cls,ob.fs.set j v⟩)[i]?=some o→(i≠k∧hp[i]?=some o)∨(i=k∧o=⟨ob.cls,ob.fs.set j v⟩):=fun i o hi=>by
  rw[List.getElem?_set]at hi
  split at hi
  ·rename_i e
   subst e
   cases hi
   exact Or.inr ⟨rfl,rfl⟩
  ·rename_i e
   exact Or.inl ⟨fun h=>e h.symm,hi⟩
 have a0:Ext hp (hp.set k ⟨ob.cls,ob.fs.set j v⟩):=⟨by simp,fun i o hi=>by
  by_cases e:i=k
  ·subst e;rw[hk]at hi;cases hi;exact⟨⟨ob.cls,ob.fs.set j v⟩,by simp[hl],rfl⟩
  ·exact⟨o,by rw[List.getElem?_set_ne (fun h=>e h.symm)];exact hi,rfl⟩⟩
 refine⟨⟨?_,?_,?_⟩,a0⟩
 ·intro i o hi;rcases a1 i o hi with⟨_,h1⟩ | ⟨_,rfl⟩
  ·exact hh.cls i o h1
  ·exact hh.cls k ob hk
 ·intro i o hi;rcases a1 i o hi with⟨_,h1⟩ | ⟨_,rfl⟩
  ·exact hh.len i o h1
  ·simp only[List.length_set];exact hh.len k ob hk
 ·intro i o q u hi hu;rcases a1 i o hi with⟨_,h1⟩ | ⟨_,rfl⟩
  ·exact(hh.fs i o q u h1 hu).ext a0
  ·simp only[List.getElem?_set]at hu
   split at hu
   ·rename_i e
    subst e
    split at hu
    ·cases hu;exact hv.ext a0
    ·cases hu
   ·exact(hh.fs k ob q u hk hu).ext a0
theorem dE {x:Ins} {i:Nat} (h1:x.op.toNat≠116) (h2:x.op.toNat≠106) (h3:x.op.toNat≠102):dG x i=((i:Int)+1,-1):=by simp[dG,h1,h2,h3]
theorem VTm.toInt {cs:List Cls} {hp:List Ob} (hw:WfC cs) (hn:cs.length≤4) (hh:HT cs hp) {t:UInt8} {v:V} (h:VTm cs hp t v) (hs:bP cs t 105=true): ∃n,v= .i n∧ -2147483648≤n∧n<2147483648:=((h.sub hw hn hh hs).not45 (by decide)).int (by decide)
theorem VTm.toRef {cs:List Cls} {hp:List Ob} {t:UInt8} {v:V} (h:VTm cs hp t v) (ht:isR t=true):VT cs hp t v:=h.not45 (fun e=>by simp[isR,isC,e]at ht)
theorem vO {im:Img} {T:cw} (h:Fit im T) {b:Bod} (hb:b∈im.bodies) {hp:List Ob}:STk im.classes hp b.locals (b.locals.map cB):=by
 refine⟨by simp,fun j v hv=> ?_⟩;simp only[List.getElem?_map,Option.map_eq_some_iff]at hv;obtain⟨c,hc,rfl⟩:=hv;rw[show b.locals.getD j 0=c from by rw[List.getD_eq_getElem?_getD,hc];rfl];exact Or.inr (iq h.wf.nc ((h.wf.bod b hb).loc.2 c (List.mem_of_getElem? hc)))
theorem uM {im:Img} {T:cw} (h:Fit im T) {x:Ins} {s:Ev} (hh:HT im.classes s.heap) {k:Nat} {ob:Ob} (hk:s.heap[k]?=some ob) (hxa:x.a<im.classes.length) (hxb:x.b<im.sigs.length) (hu:bO im.classes 5 ob.cls x.a=true) (hf:0≤cE im.classes im.bodies x.b 5 x.a) {v:V} (hv:VT im.classes s.heap (gU im.sigs x.b) v):
  im.bodies[(cE im.classes im.bodies x.b 5 (s.cls k)).toNat]?=some (bj im x k s)∧bj im x k s∈im.bodies∧(bj im x k s).meth=x.b∧0≤(bj im x k s).cls∧STk im.classes s.heap (bj im x k s).locals (aX (bj im x k s) [.o k,v]):=by
 have h4:=h.wf.nc;have hc:=hh.cls k ob hk;have e1:=(Ev.at hk).1;have a9:=jz (bs:=im.bodies) (m:=x.b) h.wf.cls 4 (x:=ob.cls) (y:=x.a) (by omega) (by omega) hu hf;obtain⟨b,a1,a6,a7,a3⟩:=nJ a9;have e2:bj im x k s=b:=by simp[bj,e1,a1]
 rw[e1,e2];have a2:b∈im.bodies:=List.mem_of_getElem? a1;obtain⟨t,ht⟩:=h.lc b a2 a3;have a4:=h.wf.bod b a2
 have a8:b.cls.toNat<4:=by
  rcases a4.cls with h1|h1
  ·omega
  ·omega
 refine⟨a1,a2,a6,a3,?_⟩;have a0:=a4.loc.2;rw[ht]at a0⊢;have hm:b.meth.toNat=x.b:=by omega
 rw[hm];refine⟨by simp[aX,ht],fun j w hw=> ?_⟩;simp only[aX,ht,List.length_cons,List.length_nil,List.drop_succ_cons,List.drop_zero,List.cons_append,List.nil_append]at hw
 right
 match j,hw with
 |0,hw=>
  cases hw
  obtain⟨hC,a5⟩:=dD (a:=b.cls.toNat) a8;refine⟨hC,ob,hk,?_⟩;have:((UInt8.ofNat (65+b.cls.toNat)).toNat:Int)-65=b.cls:=by have:=a5;unfold cL at this;omega
  simp only[List.getD_cons_zero];rw[this];exact a7
 |1,hw=>cases hw;simpa using hv
 |j+2,hw=>
  simp only[List.getElem?_cons_succ,List.getElem?_map,Option.map_eq_some_iff]at hw;obtain⟨c,hc,rfl⟩:=hw;have e3:(UInt8.ofNat (65+b.cls.toNat)::gU im.sigs x.b::t).getD (j+2) 0=c:=by simp[hc]
  rw[e3];exact iq h4 (a0 c (by simp[List.mem_of_getElem? hc]))
theorem uN {im:Img} (h:WfI im) {k:Nat} (hk:k<im.sigs.length):cG im.classes.length (gU im.sigs k)=true∧cG im.classes.length (fh im.sigs k)=true:=by
 have:=h.sig _ (List.getElem_mem hk);simpa[gU,fh,hk]using this
theorem kB {cs:List Cls} {gs:List Sig} {b:Bod} {x:Ins} {s l s' l':List UInt8} (h1:x.op.toNat=115∨x.op.toNat=100∨x.op.toNat=101∨x.op.toNat=120) (he:dP cs gs b x s l=some (s',l')):
  ∃k,d7 x.op.toNat s=some k∧s'=s.take (s.length-k)++bG cs gs x∧l'=if x.op.toNat=115 then l.set x.b (s.getD (s.length-1) 0)else l:=by
 unfold dP at he;rw[if_pos h1]at he
 cases hk:d7 x.op.toNat s with
 |none=>rw[hk]at he;cases he
 |some k=>rw[hk]at he;simp only[Option.some.injEq,Prod.mk.injEq]at he;exact⟨k,rfl,he.1.symm,he.2.symm⟩
theorem eD {cs:List Cls} {gs:List Sig} {b:Bod} {x:Ins} {s l s' l':List UInt8} (h1:x.op.toNat=115∨x.op.toNat=100∨x.op.toNat=101∨x.op.toNat=120) (h2:x.op.toNat≠115) (he:dP cs gs b x s l=some (s',l')):
  ∃k,d7 x.op.toNat s=some k∧s'=s.take (s.length-k)++bG cs gs x∧l'=l:=by
 obtain⟨k,a,b,c⟩:=kB h1 he;rw[if_neg h2]at c;exact⟨k,a,b,c⟩
theorem fa {c k:Nat} {s:List UInt8} (hc:c≠101) (h:d7 c s=some k):k=1∧1≤s.length∧(c=120→isR (s.getD (s.length-1) 0)=true):=by
 unfold d7 at h;rw[if_neg hc]at h
 split at h
 ·cases h
 ·rename_i hn
  cases h
  rw[not_or]at hn;exact⟨rfl,by omega,fun e=>by have:=hn.2;simp[e]at this;exact this⟩
theorem nK {k:Nat} {s:List UInt8} (h:d7 101 s=some k):k=2∧2≤s.length∧isR (s.getD (s.length-1) 0)=true∧isR (s.getD (s.length-2) 0)=true:=by
 unfold d7 at h;rw[if_pos rfl]at h
 split at h
 ·cases h
 ·rename_i hn
  cases h
  rw[not_or,not_or]at hn;exact⟨rfl,by omega,by simpa using hn.2.1,by simpa using hn.2.2⟩
theorem lP {s:List V} (h:1≤s.length):cI s++ [cO s]=s:=by
 unfold cI cO;have hl:s.length-1<s.length:=by omega
 rw[List.getD_eq_getElem?_getD,List.getElem?_eq_getElem hl,Option.getD_some,←List.take_succ_eq_append_getElem hl];exact List.take_of_length_le (by omega)
theorem xW {im:Img} {T:cw} (h:Fit im T) {hp:List Ob} {f:Fm} {b:Bod} {x:Ins} {s l:List UInt8} (hT:qo im T hp f b x s l):l.length=b.locals.length:=by
 obtain⟨t,ht,hG⟩:=h.tab hT.bd;exact((h.wt f.q b t hT.bd ht).2 f.pc s l ((cP ht).1 hT.st)).1.2.2
section
variable {im:Img} {T:cw} {f:Fm} {rest:List Fm} {s:Ev} {b:Bod} {x:Ins} {st l:List UInt8}
theorem xX (inp:ByteArray) (cells:Nat) (h:Fit im T) (hM:HT im.classes s.heap) (hT:qo im T s.heap f b x st l) (hC:iY im T s.heap b rest) (hd:rest.length+1≤12):OkS im T s (stepX im inp T cells x f rest s):=by
 have hw:=h.wf.cls;have h4:=h.wf.nc;have b3:b∈im.bodies:=List.mem_of_getElem? hT.bd;have b6:x∈b.code:=List.mem_of_getElem? hT.ins;have hX:=(h.wf.bod b b3).code x b6;obtain⟨t,ht,hG⟩:=h.tab hT.bd;obtain⟨st',l',he,r1,r2⟩:=hG.go f.pc x st l hT.ins ((cP ht).1 hT.st);unfold stepX
 by_cases h107:x.op.toNat=107
 ·rw[if_pos h107];obtain⟨_,e2,rfl⟩:=bC (by omega) (by omega) he;simp[bB,bG,arith,h107]at e2;subst e2;exact dK h hM hT hC hd he rfl (Or.inl (by rw[dE (by omega) (by omega) (by omega)];simp[Fm.on])) rfl (hT.stk.snoc (Or.inr ⟨by decide,by omega,by have:=hX.num;omega⟩)) hT.loc (by omega) (by omega)
 rw[if_neg h107]
 by_cases h114:x.op.toNat=114
 ·rw[if_pos h114];obtain⟨_,e2,rfl⟩:=bC (by omega) (by omega) he;simp[bB,bG,arith,h114]at e2;subst e2;exact dK h hM hT hC hd he rfl (Or.inl (by rw[dE (by omega) (by omega) (by omega)];simp[Fm.on])) rfl (hT.stk.snoc (Or.inr ⟨by decide,mf _ _⟩)) hT.loc (by simp) (by simp)
 rw[if_neg h114]
 by_cases h119:x.op.toNat=119
 ·rw[if_pos h119];obtain⟨hf,e2,rfl⟩:=bC (by omega) (by omega) he;simp[bB,bG,arith,h119]at e2 hf;subst e2;obtain⟨f1,f2⟩:=eC hf;obtain⟨n,hn,n1,n2⟩:=(hT.stk.t1 f1).toInt hw h4 hM f2;rw[hn];have hi:=Lib.itoa_length_le n (by omega) (by omega);exact dK h hM hT hC hd he rfl (Or.inl (by rw[dE (by omega) (by omega) (by omega)];simp[Fm.on])) rfl hT.stk.l1 hT.loc (by simp[Ev.say,V.N];omega) (by simp[Ev.say])
 rw[if_neg h119]
 by_cases h122:x.op.toNat=122
 ·rw[if_pos h122];obtain⟨_,e2,rfl⟩:=bC (by omega) (by omega) he;simp[bB,bG,arith,h122]at e2;subst e2;exact dK h hM hT hC hd he rfl (Or.inl (by rw[dE (by omega) (by omega) (by omega)];simp[Fm.on])) rfl (hT.stk.snoc (Or.inr (show isR 122=true by decide))) hT.loc (by omega) (by omega)
 rw[if_neg h122]
 by_cases h100:x.op.toNat=100
 ·rw[if_pos h100];obtain⟨k,hk,e2,rfl⟩:=eD (by omega) (by omega) he;obtain⟨rfl,q1,_⟩:=fa (by omega) hk;simp[bG,arith,h100]at e2;subst e2;exact dK h hM hT hC hd he rfl (Or.inl (by rw[dE (by omega) (by omega) (by omega)];simp[Fm.on])) rfl hT.stk.l1 hT.loc (by omega) (by omega)
 rw[if_neg h100]
 by_cases h108:x.op.toNat=108
 ·rw[if_pos h108];have a5:=he;unfold dP at a5;rw[if_neg (by omega),if_pos h108]at a5
  split at a5
  ·cases a5
  ·rename_i hne
   simp at a5;obtain⟨rfl,rfl⟩:=a5
   have d6:x.b<l.length:=by
    rcases Nat.lt_or_ge x.b l.length with q|q
    ·exact q
    ·have:=hX.loc (Or.inl h108);have h5:=hT.loc.len;exact absurd (xW h hT) (by omega)
   exact dK h hM hT hC hd he rfl (Or.inl (by rw[dE (by omega) (by omega) (by omega)];simp[Fm.on])) rfl (hT.stk.snoc (hT.loc.get d6)) hT.loc (by omega) (by omega)
 rw[if_neg h108]
 by_cases h115:x.op.toNat=115
 ·rw[if_pos h115];obtain⟨k,hk,e2,e3⟩:=kB (by omega) he;obtain⟨rfl,q1,_⟩:=fa (by omega) hk;simp[bG,arith,h115]at e2 e3;subst e2 e3;exact dK h hM hT hC hd he rfl (Or.inl (by rw[dE (by omega) (by omega) (by omega)];simp[Fm.on])) rfl hT.stk.l1 (hT.loc.set x.b (hT.stk.t1 q1)) (by omega) (by omega)
 rw[if_neg h115]
 by_cases h106:x.op.toNat=106
 ·rw[if_pos h106];obtain⟨_,e2,rfl⟩:=bC (by omega) (by omega) he;simp[bB,bG,arith,h106]at e2;subst e2;exact dK h hM hT hC hd he rfl (Or.inl (by simp[dG,h106])) rfl hT.stk hT.loc (by omega) (by omega)
 rw[if_neg h106]
 by_cases h102:x.op.toNat=102
 ·rw[if_pos h102];obtain⟨hf,e2,rfl⟩:=bC (by omega) (by omega) he;simp[bB,bG,arith,h102]at e2 hf;subst e2;refine dK h hM hT hC hd he rfl ?_ rfl hT.stk.l1 hT.loc (by omega) (by omega)
  by_cases hn:(cO f.stk).N=0
  ·exact Or.inr (by simp[dG,h102,hn])
  ·exact Or.inl (by simp[dG,h102,hn])
 rw[if_neg h102]
 by_cases h101:x.op.toNat=101
 ·rw[if_pos h101];obtain⟨k,hk,e2,rfl⟩:=eD (by omega) (by omega) he;obtain⟨rfl,q1,q2,q3⟩:=nK (by rw[h101]at hk;exact hk);simp[bG,arith,h101]at e2;subst e2;refine dK h hM hT hC hd he rfl (Or.inl (by rw[dE (by omega) (by omega) (by omega)];simp[Fm.on])) rfl (hT.stk.l2.snoc ?_) hT.loc (by omega) (by omega)
  right
  split
  ·exact⟨by decide,by omega,by omega⟩
  ·exact⟨by decide,by omega,by omega⟩
 rw[if_neg h101]
 by_cases h110:x.op.toNat=110
 ·rw[if_pos h110];obtain⟨_,e2,rfl⟩:=bC (by omega) (by omega) he;simp[bB,bG,arith,h110]at e2;subst e2
  split
  ·exact⟨by omega,by omega,rfl⟩
  ·obtain⟨g1,g2,g3⟩:=AR h.wf hM (hX.cls (by omega));exact qp h hT hC hd he rfl (Or.inl (by rw[dE (by omega) (by omega) (by omega)];simp[Fm.on])) g2 g1 ((hT.stk.ext g2).snoc (Or.inr g3)) (hT.loc.ext g2) (by simp) (by simp) (by simp)
 rw[if_neg h110]
 by_cases h120:x.op.toNat=120
 ·rw[if_pos h120];obtain⟨k,hk,e2,rfl⟩:=eD (by omega) (by omega) he;obtain⟨rfl,q1,q2⟩:=fa (by omega) hk;have q2:=q2 h120;simp[bG,arith,h120]at e2;subst e2;obtain⟨a0,a4⟩:=dD (a:=x.a) (by have:=hX.cls (by omega);omega);have hv:=(hT.stk.t1 q1).toRef q2
  have a6: ∀{v},cO f.stk=v→VT im.classes s.heap (cL x.a) v→STk im.classes s.heap (st.take (st.length-1)++ [cL x.a]) f.stk:=fun{v} e hv=>by
   have h1:=hT.stk.l1.snoc (Or.inr hv);rw[←e,lP (by rw[hT.stk.len];exact q1)]at h1;exact h1
  cases htv:cO f.stk with
  |i n=>rw[htv]at hv;rcases hv.ref q2 with e| ⟨_,_,e,_⟩<;>cases e
  |z=>
   exact dK h hM hT hC hd he rfl (Or.inl (by rw[dE (by omega) (by omega) (by omega)];simp[Fm.on])) rfl (a6 htv (bR a0)) hT.loc (by omega) (by omega)
  |o k=>
   rw[htv]at hv;obtain⟨a1,ob,a2,a3⟩:=hv;simp only[(Ev.at a2).1]
   split
   ·rename_i hu
    exact dK h hM hT hC hd he rfl (Or.inl (by rw[dE (by omega) (by omega) (by omega)];simp[Fm.on])) rfl (a6 htv ⟨a0,ob,a2,by rw[a4];exact hu⟩) hT.loc (by omega) (by omega)
   ·exact⟨by omega,by omega,rfl⟩
 rw[if_neg h120]
 by_cases h103:x.op.toNat=103
 ·rw[if_pos h103];obtain⟨hf,e2,rfl⟩:=bC (by omega) (by omega) he;simp[bB,bG,arith,h103]at e2 hf;subst e2;obtain⟨f1,f2⟩:=eC hf;obtain⟨a0,a4⟩:=dD (a:=x.a) (by have:=hX.cls (by omega);omega);have hv:=((hT.stk.t1 f1).sub hw h4 hM f2).toRef (bR a0);rcases hv.ref (bR a0)with e| ⟨k,ob,e,hk,_,hu⟩
  ·rw[e];exact⟨by omega,by omega,rfl⟩
  ·rw[e]
   show OkS im T s (.go ⟨f.on (cI f.stk++ [(s.fs k).getD x.b .z])::rest,s⟩)
   rw[(Ev.at hk).2];rw[a4]at hu;obtain⟨g1,g2⟩:=jS h hM (hX.cls (by omega)) (hX.fld (by omega)) hk hu;refine dK h hM hT hC hd he rfl (Or.inl (by rw[dE (by omega) (by omega) (by omega)];simp[Fm.on])) rfl (hT.stk.l1.snoc (Or.inr ?_)) hT.loc (by omega) (by omega);rw[←g2,List.getD_eq_getElem?_getD (l:=ob.fs),List.getElem?_eq_getElem g1];exact hM.fs k ob x.b _ hk (List.getElem?_eq_getElem g1)
 rw[if_neg h103]
 by_cases h112:x.op.toNat=112
 ·rw[if_pos h112];obtain⟨hf,e2,rfl⟩:=bC (by omega) (by omega) he;simp[bB,bG,arith,h112]at e2 hf;subst e2;obtain⟨f1,f2,f3⟩:=fI hf;have a9:=hX.cls (by omega);have a7:=hX.fld (by omega);obtain⟨a0,a4⟩:=dD (a:=x.a) (by omega);have hv:=((hT.stk.t2 f1).sub hw h4 hM f2).toRef (bR a0);rcases hv.ref (bR a0)with e| ⟨k,ob,e,hk,_,hu⟩
  ·rw[e];exact⟨by omega,by omega,rfl⟩
  ·rw[e];rw[a4]at hu;obtain⟨g1,g2⟩:=jS h hM a9 a7 hk hu;have a8:=((hT.stk.t1 (by omega)).sub hw h4 hM f3).not45 (gN (lO h.wf a9 a7));rw[←g2]at a8;obtain⟨p1,p2⟩:=AS hM hk a8;have e1:(s.put k x.b (cO f.stk)).heap=s.heap.set k ⟨ob.cls,ob.fs.set x.b (cO f.stk)⟩:=by simp[Ev.put,(Ev.at hk).1,(Ev.at hk).2]
   exact qp h hT hC hd he rfl (Or.inl (by rw[dE (by omega) (by omega) (by omega)];simp[Fm.on])) (by rw[e1];exact p2) (by rw[e1];exact p1) (by rw[e1];exact hT.stk.l2.ext p2) (by rw[e1];exact hT.loc.ext p2) (by rw[e1];simp) (by simp[Ev.put]) (by simp[Ev.put])
 rw[if_neg h112]
 by_cases h99:x.op.toNat=99
 ·rw[if_pos h99];obtain⟨hf,e2,rfl⟩:=bC (by omega) (by omega) he;simp[bB,bG,arith,h99]at e2 hf;obtain⟨f1,f2,f3⟩:=fI hf;have a9:=hX.cls (by omega);have a7:=hX.sig h99;obtain⟨a0,a4⟩:=dD (a:=x.a) (by omega);have hv:=((hT.stk.t2 f1).sub hw h4 hM f2).toRef (bR a0);rcases hv.ref (bR a0)with e| ⟨k,ob,e,hk,_,hu⟩
  ·rw[e];exact⟨by omega,by omega,rfl⟩
  ·rw[e];rw[a4]at hu;simp only
   split
   ·exact⟨by omega,by omega,rfl⟩
   ·have a8:=((hT.stk.t1 (by omega)).sub hw h4 hM f3).not45 (gN (uN h.wf a7).1);obtain⟨c1,c2,c3,c4,c5⟩:=uM h hM hk a9 a7 hu (h.lk b b3 x b6 h99) a8;obtain⟨t2,e7,b1⟩:=h.tab c1;obtain⟨s0,i1,i2⟩:=b1.start;have b4:=(List.getElem?_eq_some_iff.1 i1).1;rw[b1.len]at b4;refine⟨_,_,rfl,⟨hM,⟨bj im x k s,(bj im x k s).code[0],s0.1,s0.2,⟨c1,by simp[b4],(cP e7).2 i1,STk.nil.sub hw h4 hM i2.1,c5.sub hw h4 hM i2.2⟩,?_⟩,by simp;omega⟩,by simp,by simp,by simp⟩;exact .call _ _ _ b x st _ c4 hT.bd hT.ins h99 c3.symm hT.st f1 hT.stk.l2 hT.loc hC
 rw[if_neg h99]
 by_cases h116:x.op.toNat=116
 ·rw[if_pos h116];obtain⟨hf,e2,rfl⟩:=bC (by omega) (by omega) he
  cases hC with
  |main _ hb=>
   simp[bB,arith,h116,hb]at hf;obtain⟨f1,f2⟩:=eC hf;exact⟨(hT.stk.t1 f1).toInt hw h4 hM f2,rfl⟩
  |call _ g r bg y sg lg hb hg hy ho hm hsg h2 hst hlo hr=>
   have e6: ¬b.cls<0:=by omega
   simp[bB,arith,h116,e6]at hf;obtain⟨f1,f2⟩:=eC hf;have c6:bg∈im.bodies:=List.mem_of_getElem? hg;have e8:=((h.wf.bod bg c6).code y (List.mem_of_getElem? hy)).sig ho;have e0:b.meth.toNat=y.b:=by omega
   rw[e0]at f2;have hv:=(hT.stk.t1 f1).sub hw h4 hM f2;obtain⟨t3,b5,b2⟩:=h.tab hg;obtain⟨s3,l3,b9,r3,r4⟩:=b2.go g.pc y sg lg hy ((cP b5).1 hsg);obtain⟨_,e4,rfl⟩:=bC (by omega) (by omega) b9;simp[bB,bG,arith,ho]at e4;subst e4;rw[dE (by omega) (by omega) (by omega)]at r3;rcases r3 with r3| ⟨stq,r5,r6⟩
   ·omega
   ·have b0:=(List.getElem?_eq_some_iff.1 r5).1;have e5:((g.pc:Int)+1).toNat=g.pc+1:=by omega
    rw[b2.len]at b0;rw[e5]at r5 b0;exact⟨_,_,rfl,⟨hM,⟨bg,bg.code[g.pc+1],stq.1,stq.2,⟨hg,by simp[Fm.on,b0],(cP b5).2 r5,(hst.snoc hv).sub hw h4 hM r6.1,hlo.sub hw h4 hM r6.2⟩,hr⟩,by simp at hd;omega⟩,by simp,by simp,by simp⟩
 rw[if_neg h116]
 have ha:arith x.op.toNat=true:=by
  have:=hX.op;simp[da]at this;simp[arith];omega
 obtain⟨hf,e2,rfl⟩:=bC (by omega) (by omega) he;simp[bB,bG,ha,h119,h102]at e2 hf;subst e2;obtain⟨f1,f2,f3⟩:=fI hf;obtain⟨m,hm,m1,m2⟩:=(hT.stk.t2 f1).toInt hw h4 hM f2;obtain⟨n,hn,n1,n2⟩:=(hT.stk.t1 (by omega)).toInt hw h4 hM f3;rw[hm,hn];simp only[V.N];unfold d8
 split
 ·rename_i hr
  split at hr
  ·split at hr
   ·cases hr;exact⟨by omega,by omega,rfl⟩
   ·cases hr
  ·cases hr
 ·rename_i v l2 s2 hr
  have key:s2=s∧VT im.classes s.heap 105 v:=by
   split at hr
   ·split at hr
    ·cases hr
    ·cases hr;exact⟨rfl,by decide,lN _⟩
   ·cases hr;exact⟨rfl,by decide,nH _ _ _⟩
  obtain⟨rfl,hv⟩:=key;exact dK h hM hT hC hd he rfl (Or.inl (by rw[dE (by omega) (by omega) (by omega)];simp[Fm.on])) rfl (hT.stk.l2.snoc (Or.inr hv)) hT.loc (by omega) (by omega)
end
theorem xY {s:ByteArray} {cs:List Cls} {gs:List Sig}: ∀{k:Nat} {bs:List Bod} {i:Nat} {r:List Bod} {j:Nat},(∀b∈bs,WfL gs b)→jU s cs gs k bs i= .ok (r,j)→ ∀b∈r,WfL gs b:=by
 intro k
 induction k with
 |zero=>
  intro bs i r j hw h;unfold jU at h
  split at h
  ·cases h;exact hw
  ·cases h
 |succ k ih=>
  intro bs i r j hw h;unfold jU at h
  split at h
  ·cases h;exact hw
  ·split at h
   ·cases h
   ·split at h
    ·cases h
    ·split at h
     ·cases h
     ·split at h
      ·cases h
      ·split at h
       ·cases h
       ·refine ih (fun b hb=> ?_) h;rcases List.mem_append.1 hb with hb|hb
        ·exact hw b hb
        ·rw[List.mem_singleton]at hb;subst hb;exact fun _=>⟨_,rfl⟩
theorem tP {s:ByteArray} {im:Img} (h:fM s= .ok im):WfF im.classes∧(∀b∈im.bodies,WfL im.sigs b)∧ ∃bs m,im.bodies=bs++ [m]∧m.cls= -1:=by
 unfold fM at h
 split at h
 ·cases h
 ·rename_i cs l1 h1
  split at h
  ·cases h
  ·rename_i gs l2 h2
   split at h
   ·cases h
   ·rename_i bs l3 h3
    split at h
    ·cases h
    ·rename_i t l4 h4
     split at h
     ·cases h
     ·rename_i is l5 h5
      split at h
      ·cases h
      ·cases h
       have hb:=xY (fun b hb=>by simp at hb) h3;refine⟨ra (fun j c h=>by simp at h) (fun j c h=>by simp at h) h1,fun b a0=> ?_,bs,_,rfl,rfl⟩;simp at a0;rcases a0 with a0|rfl
       ·exact hb b a0
       ·exact fun h=>absurd h (by simp)
def BP (im:Img) (T:cw):Prop:=T.length=im.bodies.length∧ ∀(q:Nat) b t,im.bodies[q]?=some b→T[q]?=some t→de im b=some t
theorem AT {s:ByteArray} {im:Img} {T:cw} (hl:dN s= .ok im) (hT:BP im T):Fit im T:=by
 unfold dN at hl
 split at hl
 ·cases hl
 ·rename_i hs
  split at hl
  ·cases hl
  ·rename_i im' hr
   split at hl
   ·cases hl
   ·rename_i hn
    cases hl
    have hW:=mO (by omega) hr;obtain⟨h1,h2,h3⟩:=tP hr;refine⟨hW,h1,h2,fun b hb x hx ho=> ?_,hT.1,fun q b t hb ht=> ?_,fun q b t hb ht=> ?_,h3⟩
    ·rw[List.findSome?_eq_none_iff]at hn;have q1:=hn b hb;unfold unl at q1;rw[Option.map_eq_none_iff,List.find?_eq_none]at q1;have q2:=q1 x hx;simp[km,ho]at q2;exact q2
    ·exact jp hW (hW.bod b (List.mem_of_getElem? hb)) (hT.2 q b t hb ht)
    ·exact lD hW (hW.bod b (List.mem_of_getElem? hb)) (hT.2 q b t hb ht)
theorem rQ {im:Img} {T:cw} (h:Fit im T) {q:Nat} {mb:Bod} (hq:im.bodies.length=q+1) (hm:im.bodies[q]?=some mb):MT im T ⟨q,0,[],aX mb []⟩ [] ⟨[],0,0,[]⟩:=by
 have hw:=h.wf.cls;have hM:HT im.classes []:=⟨fun k ob h=>by simp at h,fun k ob h=>by simp at h,fun k ob j v h=>by simp at h⟩;obtain⟨t,ht,hG⟩:=h.tab hm;obtain⟨s0,i1,i2⟩:=hG.start;have a1:=(List.getElem?_eq_some_iff.1 i1).1;rw[hG.len]at a1;obtain⟨bs,m,a0,hc⟩:=h.main
 have a3:mb=m:=by
  have e:q=bs.length:=by rw[a0]at hq;simp at hq;omega
  rw[a0,e]at hm;simpa using hm.symm
 have a2:=vO h (List.mem_of_getElem? hm) (hp:=[]);rw[show mb.locals.map cB=aX mb []from by simp[aX]]at a2;exact⟨hM,⟨mb,mb.code[0],s0.1,s0.2,⟨hm,by simp[a1],(cP ht).2 i1,STk.nil.sub hw h.wf.nc hM i2.1,a2.sub hw h.wf.nc hM i2.2⟩,.main mb (by rw[a3,hc];omega)⟩,by simp⟩
structure MTn (im:Img) (T:cw) (f:Fm) (rest:List Fm) (s:Ev) (n:Nat):Prop where
 mt:MT im T f rest s
 hn:s.heap.length+n≤4000
 on:s.out.length+22*n≤88000
 rn:s.read+n≤4000
theorem uO {im:Img} {T:cw} (inp:ByteArray) (cells:Nat) (h:Fit im T) {f:Fm} {rest:List Fm} {s:Ev} {n:Nat} (hm:MTn im T f rest s (n+1)): ∃b x st l,qo im T s.heap f b x st l∧iY im T s.heap b rest∧oX im inp T cells ⟨f::rest,s⟩=stepX im inp T cells x f rest s∧
  match stepX im inp T cells x f rest s with
  | .go m=> ∃f' r',m.fr=f'::r'∧MTn im T f' r' m.ev n
  | .bad e o=>6≤e∧e≤10∧o=s.out
  | .fin v o=>(∃k,v= .i k∧ -2147483648≤k∧k<2147483648)∧o=s.out:=by
 obtain⟨b,x,st,l,hT,hC⟩:=hm.mt.top;refine⟨b,x,st,l,hT,hC,?_,?_⟩
 ·simp only[oX,As,hT.bd,Option.bind_some,hT.ins]
 ·have hk:=xX inp cells h hm.mt.ht hT hC hm.mt.dep
  cases hr:stepX im inp T cells x f rest s with
  |go m=>
   rw[hr]at hk;obtain⟨f',r',e,h1,h2,h3,h4⟩:=hk;exact⟨f',r',e,h1,by have:=hm.hn;omega,by have:=hm.on;omega,by have:=hm.rn;omega⟩
  |bad e o=>rw[hr]at hk;exact hk
  |fin v o=>rw[hr]at hk;exact hk
end Sp
section
open Sp
noncomputable def lj (s inp:ByteArray) (cells fuel:Int):List UInt8×Int×Nat:=
 if 40<inp.size∨cells<0∨100<cells∨fuel<0∨4000<fuel then([],0,1)
 else match dN s with
  | .error (e,_)=>([],0,e)
  | .ok im=>match dS im 0 im.bodies with
   | .error _=>([],0,4)
   | .ok T=>kr im inp T cells.toNat fuel.toNat
theorem xZ {im:Img}: ∀{bs:List Bod} {i:Nat} {T:cw},dS im i bs= .ok T→T.length=bs.length∧ ∀(q:Nat) b t,bs[q]?=some b→T[q]?=some t→de im b=some t:=by
 intro bs
 induction bs with
 |nil=>intro i T h;simp only[dS]at h;cases h;exact⟨rfl,fun q b t h=>by simp at h⟩
 |cons b bs ih=>
  intro i T h;unfold dS at h
  split at h
  ·cases h
  ·rename_i t ht
   split at h
   ·cases h
   ·rename_i ts hts
    cases h
    obtain⟨h1,h2⟩:=ih hts;refine⟨by simp[h1],fun q b' t' hb ht'=> ?_⟩
    cases q with
    |zero=>simp at hb ht';subst hb ht';exact ht
    |succ q=>simp at hb ht';exact h2 q b' t' hb ht'
theorem vP {im:Img} {T:cw} (inp:ByteArray) (cells:Nat) (h:Fit im T): ∀(n:Nat) {f:Fm} {rest:List Fm} {s:Ev},MTn im T f rest s n→(j8 im inp T cells n ⟨f::rest,s⟩).2.2=0∨(5≤(j8 im inp T cells n ⟨f::rest,s⟩).2.2∧(j8 im inp T cells n ⟨f::rest,s⟩).2.2≤10):=by
 intro n
 induction n with
 |zero=>intro f rest s _;right;simp[j8]
 |succ n ih=>
  intro f rest s hm;obtain⟨b,x,st,l,_,_,he,hx⟩:=uO inp cells h hm;unfold j8;rw[he]
  cases hr:Sp.stepX im inp T cells x f rest s with
  |go m=>
   rw[hr]at hx;obtain⟨f',r',e,h1⟩:=hx;obtain⟨fr,ev⟩:=m;simp only at e h1⊢;subst e;exact ih h1
  |bad e o=>rw[hr]at hx;right;simp only;omega
  |fin v o=>left;rfl
theorem ya {im:Img} {T:cw} (inp:ByteArray) (cells:Nat) (h:Fit im T) {fu:Nat} (hf:fu≤4000):(kr im inp T cells fu).2.2=0∨(5≤(kr im inp T cells fu).2.2∧(kr im inp T cells fu).2.2≤10):=by
 obtain⟨bs,m,a1,a2⟩:=h.main;have a0:im.bodies.length=bs.length+1:=by rw[a1];simp
 have hq:im.bodies[bs.length]?=some m:=by rw[a1];simp
 have:=vP inp cells h fu ⟨rQ h a0 hq,by simp;omega,by simp;omega,by simp;omega⟩;unfold kr;rw[a0];simpa[hq]using this
end
section
open Go Sp
def lm (L F:List Nat) (u:V):List Nat:=match u with
 | .o k=>if k∈L++F then F else F++ [k]
 |_=>F
def jc (L:List Nat) (vs:List V):List Nat:=vs.foldl (lm L) []
theorem vQ {L:List Nat} {vs:List V} {k:Nat} {u:V} {F:List Nat} (h:vs[k]?=some u) (hF:jc L (vs.take k)=F):jc L (vs.take (k+1))=lm L F u:=by
 obtain⟨hk,he⟩:=List.getElem?_eq_some_iff.1 h;rw[List.take_succ_eq_append_getElem hk,jc,List.foldl_append,he];unfold jc at hF;rw[hF]
 rfl
theorem yb (L F:List Nat) (u:V) (k:Nat):k∈lm L F u↔k∈F∨(u= .o k∧k∉L):=by
 unfold lm
 cases u with
 |i n=>simp
 |z=>simp
 |o j=>
  simp only
  split
  ·rename_i h
   constructor
   ·exact Or.inl
   ·rintro(h1| ⟨h1,h2⟩)
    ·exact h1
    ·cases h1
     exact(List.mem_append.1 h).resolve_left h2
  ·rename_i h
   simp only[List.mem_append,List.mem_singleton,V.o.injEq]
   constructor
   ·rintro(h1|rfl)
    ·exact Or.inl h1
    ·exact Or.inr ⟨rfl,fun h2=>h (List.mem_append_left _ h2)⟩
   ·rintro(h1| ⟨h1,_⟩)
    ·exact Or.inl h1
    ·exact Or.inr h1.symm
theorem tQ {L F:List Nat} (u:V) (h:F.Nodup):(lm L F u).Nodup:=by
 unfold lm
 cases u with
 |i n=>exact h
 |z=>exact h
 |o j=>
  simp only
  split
  ·exact h
  ·rename_i hj
   rw[List.nodup_append];refine⟨h,by simp,?_⟩;intro a ha b hb e;simp at hb;subst e hb;exact hj (List.mem_append_right _ ha)
theorem rR (L:List Nat): ∀(vs:List V) (F:List Nat) (k:Nat),k∈vs.foldl (lm L) F↔k∈F∨(V.o k∈vs∧k∉L)
 | [],F,k=>by simp
 |u::vs,F,k=>by
  rw[List.foldl_cons,rR L vs,yb,List.mem_cons]
  constructor
  ·rintro((h| ⟨h,h2⟩) | ⟨h,h2⟩)
   ·exact Or.inl h
   ·exact Or.inr ⟨Or.inl h.symm,h2⟩
   ·exact Or.inr ⟨Or.inr h,h2⟩
  ·rintro(h| ⟨h|h,h2⟩)
   ·exact Or.inl (Or.inl h)
   ·exact Or.inl (Or.inr ⟨h.symm,h2⟩)
   ·exact Or.inr ⟨h,h2⟩
theorem nM (L:List Nat): ∀(vs:List V) (F:List Nat),F.Nodup→(vs.foldl (lm L) F).Nodup
 | [],F,h=>h
 |u::vs,F,h=>nM L vs _ (tQ u h)
theorem fZ (L:List Nat) (vs:List V) (k:Nat):k∈jc L vs↔V.o k∈vs∧k∉L:=by
 unfold jc;rw[rR];simp
theorem nN (L:List Nat) (vs:List V):(jc L vs).Nodup:=nM L vs [] (by simp)
theorem rS (L:List Nat) (vs:List V):(jc L vs).length≤vs.length:=by
 have: ∀(vs:List V) (F:List Nat),(vs.foldl (lm L) F).length≤F.length+vs.length:=by
  intro vs
  induction vs with
  |nil=>intro F;simp
  |cons u vs ih=>
   intro F;rw[List.foldl_cons];refine Nat.le_trans (ih _) ?_
   have:(lm L F u).length≤F.length+1:=by
    unfold lm
    cases u with
    |i n=>simp
    |z=>simp
    |o j=>simp only;split<;>simp
   simp only[List.length_cons];omega
 have h:=this vs [];simp only[List.length_nil,Nat.zero_add]at h;exact h
def ir (n:Nat) (u:V):Prop:=(∃m,u= .i m)∨u= .z∨ ∃k,u= .o k∧k<n
theorem ir.lt {n k:Nat} (h:ir n (.o k)):k<n:=by
 rcases h with⟨m,h⟩ |h| ⟨j,h,hj⟩
 ·cases h
 ·cases h
 ·cases h;exact hj
structure rT (hp:List Ob) (vs:List V) (i:Nat) (F:List Nat):Prop where
 nd:F.Nodup
 lt: ∀j∈F,j<hp.length
 root: ∀k,V.o k∈vs→k∈F
 fld: ∀(m j:Nat) o,m<i→F[m]?=some j→hp[j]?=some o→ ∀k,V.o k∈o.fs→k∈F
 rch: ∀j∈F,Rch hp (fun k=>V.o k∈vs) j
theorem nO {hp:List Ob} {vs:List V} (h: ∀u∈vs,ir hp.length u):rT hp vs 0 (jc [] vs):=by
 refine⟨nN _ _,fun j hj=> ?_,fun k hk=>(fZ [] vs k).2 ⟨hk,by simp⟩,fun m j o hm=>absurd hm (by omega),fun j hj=> ?_⟩
 ·exact(h _ ((fZ [] vs j).1 hj).1).lt
 ·exact Rch.root j ((fZ [] vs j).1 hj).1
theorem pi {hp:List Ob} {vs:List V} {i j:Nat} {F:List Nat} {o:Ob} (h:rT hp vs i F) (hi:F[i]?=some j) (ho:hp[j]?=some o) (hv: ∀u∈o.fs,ir hp.length u):rT hp vs (i+1) (F++jc F o.fs):=by
 have a0:i<F.length:=(List.getElem?_eq_some_iff.1 hi).1;refine⟨?_,fun k hk=> ?_,fun k hk=>List.mem_append_left _ (h.root k hk),fun m q p hm hq hp' k hk=> ?_,fun k hk=> ?_⟩
 ·rw[List.nodup_append];refine⟨h.nd,nN _ _,fun a ha b hb e=> ?_⟩;subst e;exact((fZ F o.fs a).1 hb).2 ha
 ·rcases List.mem_append.1 hk with hk|hk
  ·exact h.lt k hk
  ·exact(hv _ ((fZ F o.fs k).1 hk).1).lt
 ·rw[List.getElem?_append_left (by omega)]at hq
  by_cases e:m=i
  ·subst e;rw[hi]at hq
   cases hq
   rw[ho]at hp'
   cases hp'
   by_cases hF:k∈F
   ·exact List.mem_append_left _ hF
   ·exact List.mem_append_right _ ((fZ F o.fs k).2 ⟨hk,hF⟩)
  ·exact List.mem_append_left _ (h.fld m q p (by omega) hq hp' k hk)
 ·rcases List.mem_append.1 hk with hk|hk
  ·exact h.rch k hk
  ·exact Rch.field j k o (h.rch j (List.mem_of_getElem? hi)) ho ((fZ F o.fs k).1 hk).1
def iZ (hp:List Ob) (k:Nat):Nat:=1+((hp[k]?.map (·.fs)).getD []).length
theorem rU {hp:List Ob} {vs:List V} {i:Nat} {F:List Nat} (h:rT hp vs i F) (hi:F.length≤i):d9 hp (fun k=>V.o k∈vs)=(F.map (iZ hp)).sum:=by
 have a0: ∀k,Rch hp (fun k=>V.o k∈vs) k→k∈F:=by
  intro k hk
  induction hk with
  |root k hk=>exact h.root k hk
  |field j k o _ ho hk ih=>
   obtain⟨m,hm,e⟩:=List.getElem_of_mem ih;exact h.fld m j o (by omega) (by rw[List.getElem?_eq_getElem hm,e]) ho k hk
 unfold d9;refine List.Perm.sum_nat (List.Perm.map _ ?_);refine(List.perm_ext_iff_of_nodup (List.Pairwise.filter _ List.nodup_range) h.nd).2 fun k=> ?_
 rw[List.mem_filter,List.mem_range]
 constructor
 ·rintro⟨_,h2⟩;exact a0 k (@of_decide_eq_true _ (Classical.propDecidable _) h2)
 ·exact fun hk=>⟨h.lt k hk, @decide_eq_true _ (Classical.propDecidable _) (h.rch k hk)⟩
theorem ln {hp:List Ob} {vs:List V} {i:Nat} {F:List Nat} (h:rT hp vs i F):F.length≤hp.length:=by
 have:=List.Nodup.length_le_of_subset h.nd (fun j hj=>List.mem_range.2 (h.lt j hj));simpa using this
theorem qq {hp:List Ob} {p q:Nat→Prop} (h: ∀k,p k↔q k):d9 hp p=d9 hp q:=by
 have:p=q:=funext fun k=>propext (h k)
 rw[this]
end
end Go.Proofs.YtpfkkmacakjmbaaGreatDoor
