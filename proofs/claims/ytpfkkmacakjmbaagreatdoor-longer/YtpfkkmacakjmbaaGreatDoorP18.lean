import Derived.Test.YtpfkkmacakjmbaaGreatDoorP17
import Derived.Test.YtpfkkmacakjmbaaGreatDoorP04
set_option maxRecDepth 100000
set_option maxHeartbeats 6400000
set_option linter.unusedSimpArgs false
set_option linter.unusedVariables false
namespace Go.Proofs.YtpfkkmacakjmbaaGreatDoor
section
open Go Go.RowKit Sp
section
variable {im:Img} {bd:Bod} {x:Ins}
theorem kt {c:UInt8} (h:da.contains c.toNat=true):c=107∨c=114∨c=119∨c=108∨c=115∨c=43∨c=45∨c=42∨c=47∨c=60∨c=61∨c=101∨c=110∨c=122∨c=103∨c=112∨c=99∨c=120∨c=100∨c=106∨c=102∨c=116:=by
 have h1:c.toNat∈da:=List.elem_iff.1 h;simp only[da,List.mem_cons,List.not_mem_nil,or_false]at h1;have e: ∀n:Nat,n<256→c.toNat=n→c=UInt8.ofNat n:=fun n hn h=>(u8n hn).1 h
 rcases h1 with h|h|h|h|h|h|h|h|h|h|h|h|h|h|h|h|h|h|h|h|h|h<;>(have:=e _ (by decide) h;simp at this;simp[this])
theorem vA (hW:WfI im) (ha:x.a<im.classes.length) (hb:x.b<cF im.classes x.a):bM (bI (im.classes.map toX) (UInt8.ofNat (65+x.a))) x.b=cA im.classes x.a x.b:=by
 obtain⟨hl,hk⟩:=yC ha hW.nc;have hv:(UInt8.ofNat (65+x.a)).toNat-65=x.a:=by have:=hW.nc;simp;omega
 have a0:=iW (a:=0) hl;rw[hv]at a0;unfold bM;rw[if_pos (by rw[←a0];exact hb)];unfold cA bI;rw[List.length_map,if_pos hl,List.getElem?_map,hv]
 cases im.classes[x.a]?<;>rfl
theorem xh (hW:WfI im) (hbd:WfB im.classes im.sigs bd) (hx:WfX im.classes im.sigs.length bd.locals.length x):
  ay (im.classes.map toX) im.sigs (aK x).op (aK x).cls (aK x).num (aN im.sigs bd).ans=bN im.classes im.sigs bd x:=by
 have e1:(aK x).op=x.op:=rfl;have e2:(aK x).num=x.b:=rfl;rw[e1,e2];have hc:=fun h=>nV (x:=x) h
 rcases kt hx.op with h|h|h|h|h|h|h|h|h|h|h|h|h|h|h|h|h|h|h|h|h|h
 ·have hn:x.op.toNat=107:=by rw[h];rfl
  simp[ay,bN,bC,arith,hn]
 ·have hn:x.op.toNat=114:=by rw[h];rfl
  simp[ay,bN,bC,arith,hn]
 ·have hn:x.op.toNat=119:=by rw[h];rfl
  simp[ay,bN,bC,arith,hn]
 ·have hn:x.op.toNat=108:=by rw[h];rfl
  simp[ay,bN,bC,arith,hn]
 ·have hn:x.op.toNat=115:=by rw[h];rfl
  simp[ay,bN,bC,arith,hn]
 ·have hn:x.op.toNat=43:=by rw[h];rfl
  simp[ay,bN,bC,arith,hn]
 ·have hn:x.op.toNat=45:=by rw[h];rfl
  simp[ay,bN,bC,arith,hn]
 ·have hn:x.op.toNat=42:=by rw[h];rfl
  simp[ay,bN,bC,arith,hn]
 ·have hn:x.op.toNat=47:=by rw[h];rfl
  simp[ay,bN,bC,arith,hn]
 ·have hn:x.op.toNat=60:=by rw[h];rfl
  simp[ay,bN,bC,arith,hn]
 ·have hn:x.op.toNat=61:=by rw[h];rfl
  simp[ay,bN,bC,arith,hn]
 ·have hn:x.op.toNat=101:=by rw[h];rfl
  simp[ay,bN,bC,arith,hn]
 ·have hn:x.op.toNat=110:=by rw[h];rfl
  simp[ay,bN,bC,arith,hn]
 ·have hn:x.op.toNat=122:=by rw[h];rfl
  simp[ay,bN,bC,arith,hn]
 ·have hn:x.op.toNat=103:=by rw[h];rfl
  rw[hc (by omega)];simp[ay,bN,bC,arith,hn]
 ·have hn:x.op.toNat=112:=by rw[h];rfl
  have e3:=vA hW (hx.cls (by omega)) (hx.fld (by omega));rw[hc (by omega)];unfold cL;simp only[ay,bN,bC,arith,hn,cL];simp only[e3];simp
 ·have hn:x.op.toNat=99:=by rw[h];rfl
  have e3:=lr (hx.sig hn);rw[hc (by omega)];simp[ay,bN,bC,arith,hn,e3.1]
 ·have hn:x.op.toNat=120:=by rw[h];rfl
  simp[ay,bN,bC,arith,hn]
 ·have hn:x.op.toNat=100:=by rw[h];rfl
  simp[ay,bN,bC,arith,hn]
 ·have hn:x.op.toNat=106:=by rw[h];rfl
  simp[ay,bN,bC,arith,hn]
 ·have hn:x.op.toNat=102:=by rw[h];rfl
  simp[ay,bN,bC,arith,hn]
 ·have hn:x.op.toNat=116:=by rw[h];rfl
  by_cases hcl:bd.cls<0
  ·simp[ay,bN,bC,arith,hn,aN,hcl]
  ·have e3:(cN im.sigs bd.meth.toNat).ret=fm im.sigs bd.meth.toNat:=by
    rcases hbd.cls with⟨h1,_⟩ | ⟨h1,h2,h3,h4⟩
    ·omega
    ·exact(lr (by omega)).2
   simp[ay,bN,bC,arith,hn,aN,hcl,e3]
theorem xj (hW:WfI im) {a c:UInt8} (ha:okT im.classes.length a=true) (hc:okT im.classes.length c=true∨c=38):bW (im.classes.map toX) a c=fa im.classes a c:=by
 unfold bW fa;rw[List.length_map]
 by_cases h:c.toNat=38
 ·rw[if_pos h,if_pos h];unfold isR;rw[eD hW.cls hW.nc ha]
 ·rw[if_neg h,if_neg h];rcases hc with hc|rfl
  ·exact gr hW.cls hW.nc ha hc
  ·exact absurd rfl h
theorem xk (hW:WfI im) (hbd:WfB im.classes im.sigs bd) (hx:WfX im.classes im.sigs.length bd.locals.length x): ∀c∈bN im.classes im.sigs bd x,okT im.classes.length c=true∨c=38:=by
 intro c hc;unfold bN at hc
 split at hc
 ·simp at hc;subst hc;left;simp[dI]
 split at hc
 ·simp at hc;right;exact hc
 split at hc
 ·simp at hc;right;exact hc
 ·left;exact rQ hW hbd hx c hc
theorem sJ (hW:WfI im) {st asked:List UInt8} (hs: ∀c∈st,okT im.classes.length c=true) (ha: ∀c∈asked,okT im.classes.length c=true∨c=38) (hl:asked.length≤st.length):
  gX (im.classes.map toX) st asked=jf im.classes st asked:=by
 unfold gX jf;rw[show decide (asked.length≤st.length)=true from by simp[hl],Bool.true_and,Bool.eq_iff_iff];simp only[List.all_eq_true,List.mem_range]
 have key: ∀i,i<asked.length→bW (im.classes.map toX) (st.getD (st.length-asked.length+i) 0) (asked.getD i 0)=fa im.classes (st.getD (st.length-asked.length+i) 0) (asked.getD i 0):=by
  intro i hi;refine xj hW (kU hs (by omega)) ?_;have:asked.getD i 0=asked[i]:=by simp[List.getD,hi]
  rw[this];exact ha _ (List.getElem_mem hi)
 exact⟨fun h i hi=>by rw[←key i hi];exact h i hi,fun h i hi=>by rw[key i hi];exact h i hi⟩
theorem sK (hW:WfI im) (hx:WfX im.classes im.sigs.length bd.locals.length x) {lo:List UInt8} (hl:lo.length=bd.locals.length) (hlo: ∀c∈lo,okT im.classes.length c=true):
  (if(aF (im.classes.map toX) im.sigs (aK x).op (aK x).cls (aK x).num lo).toNat=0 then []else [aF (im.classes.map toX) im.sigs (aK x).op (aK x).cls (aK x).num lo])=dq im.classes im.sigs x lo∧
  (x.op.toNat=108→aF (im.classes.map toX) im.sigs (aK x).op (aK x).cls (aK x).num lo=lo.getD x.b 0):=by
 have e1:(aK x).op=x.op:=rfl;have e2:(aK x).num=x.b:=rfl;rw[e1,e2];have a1: ∀c:UInt8,okT im.classes.length c=true→c.toNat≠0:=fun c h=>by rw[dI]at h;omega
 have a0:=ru hW hx;have hc:=fun h=>nV (x:=x) h
 rcases kt hx.op with h|h|h|h|h|h|h|h|h|h|h|h|h|h|h|h|h|h|h|h|h|h
 ·have hn:x.op.toNat=107:=by rw[h];rfl
  exact⟨by simp[aF,dq,bH,arith,hn],fun h=>by omega⟩
 ·have hn:x.op.toNat=114:=by rw[h];rfl
  exact⟨by simp[aF,dq,bH,arith,hn],fun h=>by omega⟩
 ·have hn:x.op.toNat=119:=by rw[h];rfl
  exact⟨by simp[aF,dq,bH,arith,hn],fun h=>by omega⟩
 ·have hn:x.op.toNat=108:=by rw[h];rfl
  have hb:=hx.loc (Or.inl hn);have e3:bM lo x.b=lo.getD x.b 0:=by unfold bM;rw[if_pos (by omega)]
  have e4:=a1 _ (kU hlo (k:=x.b) (by omega));have e5:aF (im.classes.map toX) im.sigs x.op (aK x).cls x.b lo=lo.getD x.b 0:=by rw[←e3];simp[aF,hn]
  rw[e5,if_neg e4];exact⟨by simp[dq,hn],fun _=>rfl⟩
 ·have hn:x.op.toNat=115:=by rw[h];rfl
  exact⟨by simp[aF,dq,bH,arith,hn],fun h=>by omega⟩
 ·have hn:x.op.toNat=43:=by rw[h];rfl
  exact⟨by simp[aF,dq,bH,arith,hn],fun h=>by omega⟩
 ·have hn:x.op.toNat=45:=by rw[h];rfl
  exact⟨by simp[aF,dq,bH,arith,hn],fun h=>by omega⟩
 ·have hn:x.op.toNat=42:=by rw[h];rfl
  exact⟨by simp[aF,dq,bH,arith,hn],fun h=>by omega⟩
 ·have hn:x.op.toNat=47:=by rw[h];rfl
  exact⟨by simp[aF,dq,bH,arith,hn],fun h=>by omega⟩
 ·have hn:x.op.toNat=60:=by rw[h];rfl
  exact⟨by simp[aF,dq,bH,arith,hn],fun h=>by omega⟩
 ·have hn:x.op.toNat=61:=by rw[h];rfl
  exact⟨by simp[aF,dq,bH,arith,hn],fun h=>by omega⟩
 ·have hn:x.op.toNat=101:=by rw[h];rfl
  exact⟨by simp[aF,dq,bH,arith,hn],fun h=>by omega⟩
 ·have hn:x.op.toNat=110:=by rw[h];rfl
  have ha:=hx.cls (by omega);have a2:=hW.nc;have e4:(cL x.a).toNat≠0:=by simp[cL];omega
  rw[hc (by omega)];have e5:aF (im.classes.map toX) im.sigs x.op (cL x.a) x.b lo=cL x.a:=by simp[aF,hn]
  rw[e5,if_neg e4];exact⟨by simp[dq,bH,arith,hn],fun h=>by omega⟩
 ·have hn:x.op.toNat=122:=by rw[h];rfl
  exact⟨by simp[aF,dq,bH,arith,hn],fun h=>by omega⟩
 ·have hn:x.op.toNat=103:=by rw[h];rfl
  have e3:=vA hW (hx.cls (by omega)) (hx.fld (by omega));have e6:dq im.classes im.sigs x lo=[cA im.classes x.a x.b]:=by simp[dq,bH,arith,hn]
  have e7:cA im.classes x.a x.b∈bH im.classes im.sigs x:=by simp[bH,arith,hn]
  have e4:=a1 _ (a0 _ e7);rw[hc (by omega)];have e5:aF (im.classes.map toX) im.sigs x.op (cL x.a) x.b lo=cA im.classes x.a x.b:=by rw[←e3];simp[aF,hn,cL]
  rw[e5,if_neg e4,e6];exact⟨rfl,fun h=>by omega⟩
 ·have hn:x.op.toNat=112:=by rw[h];rfl
  exact⟨by simp[aF,dq,bH,arith,hn],fun h=>by omega⟩
 ·have hn:x.op.toNat=99:=by rw[h];rfl
  have e3:=lr (hx.sig hn);have e6:dq im.classes im.sigs x lo=[fm im.sigs x.b]:=by simp[dq,bH,arith,hn]
  have e7:fm im.sigs x.b∈bH im.classes im.sigs x:=by simp[bH,arith,hn]
  have e4:=a1 _ (a0 _ e7);have e5:aF (im.classes.map toX) im.sigs x.op (aK x).cls x.b lo=fm im.sigs x.b:=by rw[←e3.2];simp[aF,hn]
  rw[e5,if_neg e4,e6];exact⟨rfl,fun h=>by omega⟩
 ·have hn:x.op.toNat=120:=by rw[h];rfl
  have ha:=hx.cls (by omega);have a2:=hW.nc;have e4:(cL x.a).toNat≠0:=by simp[cL];omega
  rw[hc (by omega)];have e5:aF (im.classes.map toX) im.sigs x.op (cL x.a) x.b lo=cL x.a:=by simp[aF,hn]
  rw[e5,if_neg e4];exact⟨by simp[dq,bH,arith,hn],fun h=>by omega⟩
 ·have hn:x.op.toNat=100:=by rw[h];rfl
  exact⟨by simp[aF,dq,bH,arith,hn],fun h=>by omega⟩
 ·have hn:x.op.toNat=106:=by rw[h];rfl
  exact⟨by simp[aF,dq,bH,arith,hn],fun h=>by omega⟩
 ·have hn:x.op.toNat=102:=by rw[h];rfl
  exact⟨by simp[aF,dq,bH,arith,hn],fun h=>by omega⟩
 ·have hn:x.op.toNat=116:=by rw[h];rfl
  exact⟨by simp[aF,dq,bH,arith,hn],fun h=>by omega⟩
theorem xn (hW:WfI im) (hbd:WfB im.classes im.sigs bd) (hx:WfX im.classes im.sigs.length bd.locals.length x) {st lo:List UInt8} (hz:okZ im.classes.length bd.locals.length st lo):
  qP (im.classes.map toX) im.sigs (aK x) (aN im.sigs bd).ans st lo=dP im.classes im.sigs bd x st lo:=by
 rw[wb hW hbd hx];unfold qP mS;rw[xh hW hbd hx];have a3:=xk hW hbd hx;have e1:(aK x).op=x.op:=rfl;have e2:(aK x).num=x.b:=rfl
 by_cases hl:st.length<(bN im.classes im.sigs bd x).length
 ·rw[if_pos (Or.inl hl)]
  have:jf im.classes st (bN im.classes im.sigs bd x)=false:=by
   unfold jf;rw[Bool.and_eq_false_iff]
   left
   simp;omega
  rw[if_pos (Or.inl this)]
 ·have a5:=sJ hW hz.1 a3 (by omega:(bN im.classes im.sigs bd x).length≤st.length);rw[a5]
  cases hsu:jf im.classes st (bN im.classes im.sigs bd x)with
  |false=>rw[if_pos (Or.inr rfl),if_pos (Or.inl rfl)]
  |true=>
   have a4: ¬(st.length<(bN im.classes im.sigs bd x).length∨true=false):=by simp;omega
   rw[if_neg a4];rw[e1,e2]
   by_cases h115:x.op.toNat=115
   ·have hb:=hx.loc (Or.inr h115);have a2:(bN im.classes im.sigs bd x).length=1:=by unfold bN;rw[if_pos (Or.inl h115)];rfl
    have a0: ¬x.op.toNat=108:=by omega
    rw[if_neg (fun h=>h.2 (by rw[hz.2.2];exact hb))];simp only[a0,false_and,if_false,or_false,Bool.true_eq_false];rw[if_pos h115,if_pos h115,a2];have a6:okT im.classes.length (st.getD (st.length-1) 0)=true:=kU hz.1 (by rw[a2]at hl;omega)
    have a1:=sK hW hx (lo:=lo.set x.b (st.getD (st.length-1) 0)) (by rw[List.length_set];exact hz.2.2) (fun c hc=>by
     rcases List.mem_or_eq_of_mem_set hc with h|h
     ·exact hz.2.1 c h
     ·rw[h];exact a6)
    rw[e1,e2]at a1;rw[a1.1]
    congr 2
    unfold dq;rw[if_neg a0,if_neg a0]
   ·simp only[h115,false_and,if_false];have a1:=sK hW hx hz.2.2 hz.2.1;rw[e1,e2]at a1;rw[a1.1]
    by_cases a0:x.op.toNat=108
    ·rw[a1.2 a0];simp only[a0,true_and,Bool.true_eq_false,false_or]
    ·simp only[a0,false_and,if_false,or_false,Bool.true_eq_false]
end
end
section
open Go Go.RowKit Sp
attribute [local go_sem ↓] Go.wp_at_zero Go.wp_at_succ
def stC (x:St×Value×Value):List Value:=match x.1 with
 |none=> [.bool false,.slice none 0 0,.slice none 0 0]
 |some _=> [.bool true,x.2.1,x.2.2]
def dW (l:List (St×Value×Value)):List Value:=l.flatMap stC
theorem qQ (x:St×Value×Value):(stC x).length=3:=by unfold stC;split<;>rfl
theorem bZ {l:List (St×Value×Value)} {j k:Nat} {x:St×Value×Value} (h:l[j]?=some x) (hk:k<3):(dW l)[j*3+k]?=(stC x)[k]?:=jY stC 3 qQ l j k x h hk
theorem sL (l:List (St×Value×Value)):(dW l).length=l.length*3:=by
 induction l with
 |nil=>rfl
 |cons x l ih=>simp only[dW,List.flatMap_cons,List.length_append,qQ,List.length_cons]at ih⊢;rw[ih];omega
theorem sM: ∀{l:List (St×Value×Value)} {j:Nat} {y:St×Value×Value} {a b c:Value},stC y=[a,b,c]→j<l.length→(((dW l).set (j*3) a).set (j*3+1) b).set (j*3+2) c=dW (l.set j y):=by
 intro l
 induction l with
 |nil=>intro j y a b c _ h;simp at h
 |cons x l ih=>
  intro j y a b c hy hj
  obtain⟨x0,x1,x2,hx⟩: ∃x0 x1 x2,stC x=[x0,x1,x2]:=by
   have:=qQ x
   match hh:stC x,this with
   | [x0,x1,x2],_=>exact⟨x0,x1,x2,rfl⟩
  cases j with
  |zero=>simp[dW,hx,hy]
  |succ j=>
   have:=ih (j:=j) hy (by simpa using hj);simp only[dW,List.flatMap_cons,List.set_cons_succ,hx]at this⊢;rw[←this];rw[show(j+1)*3=j*3+3 from by omega];simp[List.set_append]
def StB (w:World) (g:Nat) (tab:List St):Prop:=
 ∃l:List (St×Value×Value),w.heap[g]?=some (.cells (dW l).toArray 117)∧l.map (·.1)=tab∧ ∀x∈l,∀s lo,x.1=some (s,lo)→BtB w 0 x.2.1 s∧BtB w 0 x.2.2 lo
theorem StB.off {F:Nat→Prop} {w w':World} {g:Nat} {tab:List St} (h:StB w g tab) (hb:But F w w') (hg: ¬F g) (hf: ∀k cur,w.heap[k]?=some (.cells cur 5)→ ¬F k):StB w' g tab:=by
 obtain⟨l,h1,h2,h3⟩:=h;exact⟨l,(hb.block g (ae h1) hg).trans h1,h2,fun x hx s lo e=>⟨aY (h3 x hx s lo e).1 hb (fun k cur hh _=>hf k cur hh),aY (h3 x hx s lo e).2 hb (fun k cur hh _=>hf k cur hh)⟩⟩
structure Bld (w0 w:World) (bb b gs gw:Nat) (c r:UInt8) (m:Nat) (vl vi:Value) (tab:List St) (wt:List Bool) (bad:Bool):Prop where
 but:But (fun _=>False) w0 w
 gbb:w0.heap.size≤bb
 ggs:w0.heap.size≤gs
 ggw:w0.heap.size≤gw
 blk:w.heap[bb]?=some (.cells #[.pointer (some ⟨b,0,none⟩),.int .u8 c.toNat,.int .i64 m,.int .u8 r.toNat,vl,vi,.slice (some ⟨gs,0,none⟩) tab.length tab.length,.slice (some ⟨gw,0,none⟩) tab.length tab.length,.bool bad] 181)
 sts:StB w gs tab
 wts:WtB w gw wt
 wl:wt.length=tab.length
section
variable {w0 w:World} {bb b gs gw:Nat} {c r:UInt8} {m:Nat} {vl vi:Value} {tab:List St} {wt:List Bool} {bad:Bool}
theorem Bld.cells (h:Bld w0 w bb b gs gw c r m vl vi tab wt bad):
  w.cell? ⟨bb,0,none⟩=some (.pointer (some ⟨b,0,none⟩))∧w.cell? ⟨bb,6,none⟩=some (.slice (some ⟨gs,0,none⟩) tab.length tab.length)∧w.cell? ⟨bb,7,none⟩=some (.slice (some ⟨gw,0,none⟩) tab.length tab.length)∧w.cell? ⟨bb,8,none⟩=some (.bool bad):=by
 refine⟨?_,?_,?_,?_⟩
 ·rw[cell_of_row w bb 0 _ _ (0,0) h.blk];rfl
 ·rw[cell_of_row w bb 6 _ _ (0,0) h.blk];rfl
 ·rw[cell_of_row w bb 7 _ _ (0,0) h.blk];rfl
 ·rw[cell_of_row w bb 8 _ _ (0,0) h.blk];rfl
theorem Bld.body (h:Bld w0 w bb b gs gw c r m vl vi tab wt bad):
  w.cell? ⟨bb,1,none⟩=some (.int .u8 c.toNat)∧w.cell? ⟨bb,2,none⟩=some (.int .i64 m)∧w.cell? ⟨bb,3,none⟩=some (.int .u8 r.toNat)∧w.cell? ⟨bb,4,none⟩=some vl∧w.cell? ⟨bb,5,none⟩=some vi:=by
 refine⟨?_,?_,?_,?_,?_⟩
 ·rw[cell_of_row w bb 1 _ _ (0,0) h.blk];rfl
 ·rw[cell_of_row w bb 2 _ _ (0,0) h.blk];rfl
 ·rw[cell_of_row w bb 3 _ _ (0,0) h.blk];rfl
 ·rw[cell_of_row w bb 4 _ _ (0,0) h.blk];rfl
 ·rw[cell_of_row w bb 5 _ _ (0,0) h.blk];rfl
theorem Bld.fz (h:Bld w0 w bb b gs gw c r m vl vi tab wt bad) (k:Nat):w.frozen? ⟨bb,k,none⟩=false:=frozen_of_row w bb k _ _ h.blk
theorem Bld.ne (h:Bld w0 w bb b gs gw c r m vl vi tab wt bad):bb≠gs∧bb≠gw∧gs≠gw:=by
 obtain⟨l,hs,_⟩:=h.sts;refine⟨?_,?_,?_⟩
 ·intro e;have:=h.blk;rw[e,hs]at this;injection this with this;injection this with _ h2;exact absurd h2 (by decide)
 ·intro e;have:=h.blk;rw[e]at this;have hw:=h.wts;unfold WtB at hw;rw[hw]at this;injection this with this;injection this with _ h2;exact absurd h2 (by decide)
 ·intro e;have hw:=h.wts;unfold WtB at hw;rw[e,hw]at hs;injection hs with hs;injection hs with _ h2;exact absurd h2 (by decide)
theorem Bld.u8 (h:Bld w0 w bb b gs gw c r m vl vi tab wt bad) {k:Nat} {cur:Array Value} (hk:w.heap[k]?=some (.cells cur 5)): ¬(k=bb∨k=gs∨k=gw):=by
 obtain⟨l,hs,_⟩:=h.sts;have hw:=h.wts;unfold WtB at hw;rintro(e|e|e)
 ·rw[e,h.blk]at hk;injection hk with hk;injection hk with _ h2;exact absurd h2 (by decide)
 ·rw[e,hs]at hk;injection hk with hk;injection hk with _ h2;exact absurd h2 (by decide)
 ·rw[e,hw]at hk;injection hk with hk;injection hk with _ h2;exact absurd h2 (by decide)
theorem Bld.lt (h:Bld w0 w bb b gs gw c r m vl vi tab wt bad):bb<w.heap.size∧gs<w.heap.size∧gw<w.heap.size:=by
 obtain⟨l,hs,_⟩:=h.sts;exact⟨ae h.blk,ae hs,ae h.wts⟩
theorem Bld.next {w':World} (h:Bld w0 w bb b gs gw c r m vl vi tab wt bad) (hb:But (fun _=>False) w w'):Bld w0 w' bb b gs gw c r m vl vi tab wt bad:=
 ⟨h.but.trans hb,h.gbb,h.ggs,h.ggw,hb.kp h.blk,h.sts.off hb (fun h=>h) (fun _ _ _ h=>h),hb.kp h.wts,h.wl⟩
theorem Bld.fail (h:Bld w0 w bb b gs gw c r m vl vi tab wt bad):Bld w0 (w.setCell ⟨bb,8,none⟩ (.bool true)) bb b gs gw c r m vl vi tab wt true:=by
 have hb:=But.setB w bb 8 (.bool true);have hn:=h.ne;refine⟨h.but.next hb (fun k hk e=>by have:=h.gbb;omega),h.gbb,h.ggs,h.ggw,heap_setCell_same w bb 8 _ _ _ h.blk,h.sts.off hb (fun e=>hn.1 e.symm) (fun k cur hk e=>h.u8 hk (Or.inl e)),(hb.block gw (ae h.wts) (fun e=>hn.2.1 e.symm)).trans h.wts,h.wl⟩
theorem Bld.wait (h:Bld w0 w bb b gs gw c r m vl vi tab wt bad) (k:Nat) (v:Bool):Bld w0 (w.setCell ⟨gw,k,none⟩ (.bool v)) bb b gs gw c r m vl vi tab (wt.set k v) bad:=by
 have hb:=But.setB w gw k (.bool v);have hn:=h.ne;refine⟨h.but.next hb (fun j hk e=>by have:=h.ggw;omega),h.gbb,h.ggs,h.ggw,(hb.block bb (ae h.blk) hn.2.1).trans h.blk,h.sts.off hb hn.2.2 (fun k cur hk e=>h.u8 hk (Or.inr (Or.inr e))),?_,by rw[List.length_set];exact h.wl⟩;have:=heap_setCell_same w gw k _ _ (.bool v) h.wts;unfold WtB;rw[this,List.map_set];simp
theorem Bld.wcell (h:Bld w0 w bb b gs gw c r m vl vi tab wt bad) {k:Nat} (hk:k<tab.length):w.cell? ⟨gw,k,none⟩=some (.bool (wt.getD k false))∧w.frozen? ⟨gw,k,none⟩=false:=
 ⟨h.wts.cell (by rw[h.wl];exact hk),frozen_of_row w gw k _ _ h.wts⟩
theorem Bld.known (h:Bld w0 w bb b gs gw c r m vl vi tab wt bad) {k:Nat} {s lo:List UInt8} (hk:tab[k]?=some (some (s,lo))):
  ∃a1 c1 a2 c2,w.cell? ⟨gs,k*3,none⟩=some (.bool true)∧w.cell? ⟨gs,k*3+1,none⟩=some (.slice a1 s.length c1)∧w.cell? ⟨gs,k*3+2,none⟩=some (.slice a2 lo.length c2)∧BtB w 0 (.slice a1 s.length c1) s∧BtB w 0 (.slice a2 lo.length c2) lo:=by
 obtain⟨l,hs,hm,hf⟩:=h.sts;rw[←hm,List.getElem?_map]at hk;obtain⟨x,hx,a0⟩:=Option.map_eq_some_iff.1 hk;obtain⟨h1,h2⟩:=hf x (List.mem_of_getElem? hx) s lo a0;obtain⟨a1,c1,e1⟩:=aw h1;obtain⟨a2,c2,e2⟩:=aw h2;have hc:stC x=[.bool true,x.2.1,x.2.2]:=by unfold stC;rw[a0]
 rw[e1]at h1;rw[e2]at h2;refine⟨a1,c1,a2,c2,?_,?_,?_,h1,h2⟩
 ·rw[cell_of_row w gs (k*3) _ _ (0,0) hs];have:=bZ (k:=0) hx (by omega);rw[hc]at this;simpa using this
 ·rw[cell_of_row w gs (k*3+1) _ _ (0,0) hs];have:=bZ (k:=1) hx (by omega);rw[hc,e1]at this;simpa using this
 ·rw[cell_of_row w gs (k*3+2) _ _ (0,0) hs];have:=bZ (k:=2) hx (by omega);rw[hc,e2]at this;simpa using this
theorem Bld.unk (h:Bld w0 w bb b gs gw c r m vl vi tab wt bad) {k:Nat} (hk:tab[k]?= .some .none):
  w.cell? ⟨gs,k*3,none⟩= .some (.bool false)∧w.cell? ⟨gs,k*3+1,none⟩= .some (.slice none 0 0)∧w.cell? ⟨gs,k*3+2,none⟩= .some (.slice none 0 0):=by
 obtain⟨l,hs,hm,hf⟩:=h.sts;rw[←hm,List.getElem?_map]at hk;obtain⟨x,hx,a0⟩:=Option.map_eq_some_iff.1 hk;have hc:stC x=[.bool false,.slice none 0 0,.slice none 0 0]:=by unfold stC;rw[a0]
 refine⟨?_,?_,?_⟩
 ·rw[cell_of_row w gs (k*3) _ _ (0,0) hs];have:=bZ (k:=0) hx (by omega);rw[hc]at this;simpa using this
 ·rw[cell_of_row w gs (k*3+1) _ _ (0,0) hs];have:=bZ (k:=1) hx (by omega);rw[hc]at this;simpa using this
 ·rw[cell_of_row w gs (k*3+2) _ _ (0,0) hs];have:=bZ (k:=2) hx (by omega);rw[hc]at this;simpa using this
theorem Bld.sfz (h:Bld w0 w bb b gs gw c r m vl vi tab wt bad) (k:Nat):w.frozen? ⟨gs,k,none⟩=false:=by
 obtain⟨l,hs,hm,hf⟩:=h.sts;exact frozen_of_row w gs k _ _ hs
theorem Bld.lay (h:Bld w0 w bb b gs gw c r m vl vi tab wt bad) {k:Nat} (hk:k<tab.length) {s lo:List UInt8} {v1 v2:Value} (h1:BtB w 0 v1 s) (h2:BtB w 0 v2 lo):
  Bld w0 (((w.setCell ⟨gs,k*3,none⟩ (.bool true)).setCell ⟨gs,k*3+1,none⟩ v1).setCell ⟨gs,k*3+2,none⟩ v2) bb b gs gw c r m vl vi (tab.set k (.some (s,lo))) wt bad:=by
 have hb:But (· =gs) w (((w.setCell ⟨gs,k*3,none⟩ (.bool true)).setCell ⟨gs,k*3+1,none⟩ v1).setCell ⟨gs,k*3+2,none⟩ v2):=((But.setB w gs _ _).trans (But.setB _ gs _ _)).trans (But.setB _ gs _ _);have hn:=h.ne;have hu: ∀j cur,w.heap[j]?= .some (.cells cur 5)→ ¬j=gs:=fun j cur hj e=>h.u8 hj (Or.inr (Or.inl e))
 have a0:=h.lt;have hg:=h.ggs;have a1:=(hb.block bb a0.1 hn.1).trans h.blk;have a3:=(hb.block gw a0.2.2 (fun e=>hn.2.2 e.symm)).trans h.wts;have a2:But (fun _=>False) w0 (((w.setCell ⟨gs,k*3,none⟩ (.bool true)).setCell ⟨gs,k*3+1,none⟩ v1).setCell ⟨gs,k*3+2,none⟩ v2):=h.but.next hb (fun j hj e=>by omega);obtain⟨l,hs,hm,hf⟩:=h.sts;have a4:l.length=tab.length:=by rw[←hm];simp
 have e1:=heap_setCell_same w gs (k*3) _ _ (.bool true) hs;have e2:=heap_setCell_same _ gs (k*3+1) _ _ v1 e1;have e3:=heap_setCell_same _ gs (k*3+2) _ _ v2 e2;refine⟨a2,h.gbb,h.ggs,h.ggw,by rw[List.length_set];exact a1,⟨l.set k (.some (s,lo),v1,v2),?_,?_,?_⟩,a3,by rw[List.length_set];exact h.wl⟩
 ·rw[e3]
  congr 2
  rw[←sM (l:=l) (j:=k) (y:=(.some (s,lo),v1,v2)) (a:= .bool true) (b:=v1) (c:=v2) rfl (by omega)];simp
 ·rw[List.map_set,hm]
 ·intro x hx s' lo' e;rcases List.mem_or_eq_of_mem_set hx with hx|hx
  ·obtain⟨p1,p2⟩:=hf x hx s' lo' e;exact⟨aY p1 hb (fun j cur hh _=>hu j cur hh),aY p2 hb (fun j cur hh _=>hu j cur hh)⟩
  ·subst hx;simp only[Option.some.injEq,Prod.mk.injEq]at e;obtain⟨rfl,rfl⟩:=e;exact⟨aY h1 hb (fun j cur hh _=>hu j cur hh),aY h2 hb (fun j cur hh _=>hu j cur hh)⟩
end
section
variable {cs:List Cls} {tab:List St} {wt:List Bool} {j:Nat} {sb lb sa la:List UInt8}
theorem BC (h:tab.length≤j):aV cs (tab,wt,false) j sb lb=(tab,wt,true):=by
 have:bS cs (tab,false,false) (j:Int) sb lb=(tab,false,true):=by
  unfold bS;rw[if_neg (by simp),if_pos (by simp;omega)]
 unfold aV;simp only;rw[this];simp
theorem y8 (h:tab[j]?=some none):aV cs (tab,wt,false) j sb lb=(tab.set j (some (sb,lb)),wt.set j true,false):=by
 have hj:=(List.getElem?_eq_some_iff.1 h).1
 have:bS cs (tab,false,false) (j:Int) sb lb=(tab.set j (some (sb,lb)),true,false):=by
  unfold bS;rw[if_neg (by simp),if_neg (by simp;omega)];simp[List.getD,h,fC]
 unfold aV;simp only;rw[this];simp
theorem BD (h:tab[j]?=some (some (sa,la))) (hl:sa.length≠sb.length):aV cs (tab,wt,false) j sb lb=(tab,wt,true):=by
 have hj:=(List.getElem?_eq_some_iff.1 h).1
 have:bS cs (tab,false,false) (j:Int) sb lb=(tab,false,true):=by
  unfold bS;rw[if_neg (by simp),if_neg (by simp;omega)];simp[List.getD,h,fC,hl]
 unfold aV;simp only;rw[this];simp
theorem AC (h:tab[j]?=some (some (sa,la))) (hl:sa.length=sb.length) (h1:df cs sa sb=sa) (h2:df cs la lb=la):aV cs (tab,wt,false) j sb lb=(tab,wt,false):=by
 have hj:=(List.getElem?_eq_some_iff.1 h).1
 have:bS cs (tab,false,false) (j:Int) sb lb=(tab,false,false):=by
  unfold bS;rw[if_neg (by simp),if_neg (by simp;omega)];simp[List.getD,h,fC,hl,h1,h2]
 unfold aV;simp only;rw[this];simp
theorem zb (h:tab[j]?=some (some (sa,la))) (hl:sa.length=sb.length) (h1: ¬(df cs sa sb=sa∧df cs la lb=la)):aV cs (tab,wt,false) j sb lb=(tab.set j (some (df cs sa sb,df cs la lb)),wt.set j true,false):=by
 have hj:=(List.getElem?_eq_some_iff.1 h).1
 have:bS cs (tab,false,false) (j:Int) sb lb=(tab.set j (some (df cs sa sb,df cs la lb)),true,false):=by
  unfold bS;rw[if_neg (by simp),if_neg (by simp;omega)];simp[List.getD,h,fC,hl,h1]
 unfold aV;simp only;rw[this];simp
theorem ot (hw:WfC cs) (hn:cs.length≤4): ∀{a b:List UInt8},(∀c∈a,okT cs.length c=true)→(∀c∈b,okT cs.length c=true)→List.zipWith (fq (cs.map toX)) a b=df cs a b:=by
 intro a
 induction a with
 |nil=>intro b _ _;simp[df]
 |cons x a ih=>
  intro b ha hb
  cases b with
  |nil=>simp[df]
  |cons y b=>
   simp only[df,List.zipWith_cons_cons];rw[mp hw hn (ha x (by simp)) (hb y (by simp))]
   congr 1
   exact ih (fun c h=>ha c (by simp[h])) (fun c h=>hb c (by simp[h]))
end
theorem kP (w0:World) (bb b gs gw:Nat) (c r:UInt8) (m:Nat) (vl vi:Value) (tab:List St) (wt:List Bool) (bad:Bool) (im:Img) (nl j:Nat) (aa al:Option Addr) (ca cl:Nat) (sb lb:List UInt8) (w:World) (hW:WfI im) (hnl:nl≤5) (htl:tab.length≤100)
  (hB:Bld w0 w bb b gs gw c r m vl vi tab wt bad) (hTX:TxC w0 b (im.classes.map toX)) (hwf:wfT im.classes.length nl tab.length tab) (hz:okZ im.classes.length nl sb lb) (hsl:sb.length≤101)
  (hs:BtB w 0 (.slice aa sb.length ca) sb) (hl:BtB w 0 (.slice al lb.length cl) lb):
  Calls Tryz.prog 105 #[.pointer (some ⟨bb,0,none⟩),.int .i64 j,xsV true (.slice aa sb.length ca) (.slice al lb.length cl)] w fun en w'=>en= .returned (.tuple #[])∧But (fun k=>k=bb∨k=gs∨k=gw) w w'∧
   Bld w0 w' bb b gs gw c r m vl vi (aV im.classes (tab,wt,false) j sb lb).1 (aV im.classes (tab,wt,false) j sb lb).2.1 (bad||(aV im.classes (tab,wt,false) j sb lb).2.2):=by
 have e4:But (fun _=>False) w (w.alloc (.cells #[.bool true,.slice aa sb.length ca,.slice al lb.length cl] 117)):=But.alloc _ _ _;have e2:=heap_alloc_new w (.cells #[.bool true,.slice aa sb.length ca,.slice al lb.length cl] 117);have b3:=hB.next e4;have f7:=hs.but e4 (fun _ _ h=>h);have f6:=hl.but e4 (fun _ _ h=>h);have n6:=hB.lt;have f5:=e4.mono (G:=fun k=>k=bb∨k=gs∨k=gw) (fun _ _ h=>h.elim);unfold xsV
 by_cases hj:j<tab.length
 ·have n3:(j:Int)<(tab.length:Int):=by omega
  have n2: ¬(j:Int)<0:=by omega
  obtain⟨o,ho⟩: ∃o,tab[j]?=some o:=⟨_,List.getElem?_eq_getElem hj⟩;have m5:=hid (fun(wx:World) (h:But (fun _=>False) w0 wx)=>hTX.but h);obtain⟨e8,e9⟩:=b3.wcell hj;have e5:=b3.sfz (j*3);have e6:=b3.sfz (j*3+1);have e7:=b3.sfz (j*3+2);obtain⟨c0,c6,c7,c8⟩:=b3.cells;obtain⟨k0,k1,k2⟩:=fw e2;have b5:=ae e2
  cases o with
  |none=>
   rw[y8 ho];simp only[Bool.or_false];obtain⟨t0,t1,t2⟩:=b3.unk ho;have l6:lb.length≤1000:=by have:=hz.2.2;omega
   go_in
   go_wp2_with fail;revert e4 e2 b3 f7 f6 f5 e8 e9 e5 e6 e7 c0 c6 c7 c8 k0 k1 k2 b5 t0 t1 t2;generalize (w.alloc (.cells #[.bool true,.slice aa sb.length ca,.slice al lb.length cl] 117))=W;intro e4 e2 b3 f7 f6 f5 e8 e9 e5 e6 e7 c0 c6 c7 c8 k0 k1 k2 b5 t0 t1 t2;have a8:=b3.lt;have b0:But (fun _=>False) W W.drew:=But.drew _ _;have j4:=hid (mD 0 true aa al ca cl sb lb W.drew (f7.but b0 (fun _ _ h=>h)) (f6.but b0 (fun _ _ h=>h)) (by omega) l6);unfold xsV at j4;refine aD (But (fun _=>False) W) 7 (by kernel_rfl) ?_
   iterate 6 (refine aJ (v:=?_) rfl (by kernel_rfl) (fun _ _ _ h=>h) rfl b0 ?_ ?_;rotate_left;(focus (intro wS h;have q0:=(h.kc c6 a8.1);have q1:=(h.kc k0 b5);have q2:=(h.kc k1 b5);have q3:=(h.kc k2 b5);clear h;go_simp;try rfl));dsimp only[Act.put];try simp only[aL])
   refine ah rfl (by kernel_rfl) ?_;intro KS hKS;go_simp;refine j4.out.mono ?_;rintro en w2 ⟨j1,a1,c1,a2,c2,G2,rfl,m0,j2,_,_,_⟩;clear j4;have b2:=b0.trans j1;refine hKS.out _ _ (fun _=>b2) ?_;clear hKS KS;have b4:=b3.next b2;have g1:But (fun k=>k=bb∨k=gs∨k=gw) w w2:=f5.next b2 (fun _ _ h=>h.elim);clear e8 e9 e5 e6 e7 c0 c6 c7 c8 k0 k1 k2 t0 t1 t2;obtain⟨t0,t1,t2⟩:=b4.unk ho;have e5:=b4.sfz (j*3);have e6:=b4.sfz (j*3+1);have e7:=b4.sfz (j*3+2);have a0:=b4.lay hj (v1:= .slice a1 sb.length c1) (v2:= .slice a2 lb.length c2) (World.ownsRow.mono m0 (Nat.zero_le _)) (World.ownsRow.mono j2 (Nat.zero_le _))
   have i6:But (fun k=>k=bb∨k=gs∨k=gw) w2 (((w2.setCell ⟨gs,j*3,none⟩ (.bool true)).setCell ⟨gs,j*3+1,none⟩ (.slice a1 sb.length c1)).setCell ⟨gs,j*3+2,none⟩ (.slice a2 lb.length c2)):=(((But.setB w2 gs _ _).trans (But.setB _ gs _ _)).trans (But.setB _ gs _ _)).mono (fun k _ h=>Or.inr (Or.inl h));have h3:=hid a0;have h1:=hid i6;clear a0 i6 b3 e2 hB e4;refine ah rfl (by kernel_rfl) ?_;intro KS hKS;go_simp;refine hKS.out _ _ nofun ?_;clear hKS KS;refine ah rfl (by kernel_rfl) ?_;intro KS hKS;go_simp;refine hKS.out _ _ nofun ?_;clear hKS KS;refine aH rfl (by kernel_rfl) ?_;revert h3 h1;generalize (((w2.setCell ⟨gs,j*3,none⟩ (.bool true)).setCell ⟨gs,j*3+1,none⟩ (.slice a1 sb.length c1)).setCell ⟨gs,j*3+2,none⟩ (.slice a2 lb.length c2))=w3
   intro h3 h1;have a0:=h3.out;clear t0 t1 t2 e5 e6 e7;obtain⟨c0,c6,c7,c8⟩:=a0.cells;obtain⟨e8,e9⟩:=a0.wcell (k:=j) (by rw[List.length_set];exact hj);rw[List.length_set]at c6 c7;have b9:=a0.wait j true;have j3:=hid b9;clear b9 a0;go_wp2_with fail;exact tI Tryz.results105 rfl ⟨rfl,(g1.trans h1.out).trans ((But.setB _ _ _ _).mono (fun k _ h=>Or.inr (Or.inr h))),j3.out⟩
  |some o=>
   obtain⟨sa,la⟩:=o;obtain⟨m4,m1⟩:=hwf.2 j sa la ho;have n8:=mR tab;obtain⟨a3,c3,a4,c4,t0,t1,t2,h0,g6⟩:=b3.known ho
   by_cases hlen:sa.length=sb.length
   ·have l3:((sa.length:Int)==(sb.length:Int))=true:=by rw[hlen];simp
    have l4:((sa.length:Int)!=(sb.length:Int))=false:=by simp[bne,l3]
    have h9:(sa.length:Int)=(sb.length:Int):=by rw[hlen]
    have n1:=hid h9;have f9:=hid hlen;have n4:sa.length≤sb.length:=by omega
    have n5:sb.length≤sa.length:=by omega
    clear h9 hlen
    go_in
    go_wp2_with fail;revert e4 e2 b3 f7 f6 f5 e8 e9 e5 e6 e7 c0 c6 c7 c8 k0 k1 k2 b5 t0 t1 t2 h0 g6;generalize (w.alloc (.cells #[.bool true,.slice aa sb.length ca,.slice al lb.length cl] 117))=W;intro e4 e2 b3 f7 f6 f5 e8 e9 e5 e6 e7 c0 c6 c7 c8 k0 k1 k2 b5 t0 t1 t2 h0 g6;have a8:=b3.lt;have b0:But (fun _=>False) W W.drew:=But.drew _ _;refine aD (But (fun _=>False) W) 13 (by kernel_rfl) ?_
    iterate 13 (refine aJ (v:=?_) rfl (by kernel_rfl) (fun _ _ _ h=>h) rfl b0 ?_ ?_;rotate_left;(focus (intro wS h;have q0:=(h.kc c6 a8.1);have q1:=(h.kc t1 a8.2.1);have q2:=(h.kc k1 b5);clear h;go_simp;try rfl));dsimp only[Act.put];try simp only[aL])
    refine aH rfl (by kernel_rfl) ?_;have b1:=b3.next b0;have g7:=f7.but b0 (fun _ _ h=>h);have h8:=f6.but b0 (fun _ _ h=>h);have e0:=h0.but b0 (fun _ _ h=>h);have e1:=g6.but b0 (fun _ _ h=>h);have g5:=(b0.block w.heap.size b5 (fun h=>h)).trans e2;have d6:But (fun k=>k=bb∨k=gs∨k=gw) w W.drew:=f5.next b0 (fun _ _ h=>h.elim);have u0:=b0.kc t0 a8.2.1;have u1:=b0.kc t1 a8.2.1;have u2:=b0.kc t2 a8.2.1;clear e8 e9 e5 e6 e7 c0 c6 c7 c8 k0 k1 k2 t0 t1 t2 h0 g6 b3 f7 f6 e2 e4 f5 b5 a8 hB;revert b1 g7 h8 e0 e1 g5 d6 u0 u1 u2;generalize W.drew=w1;intro b1 g7 h8 e0 e1 g5 d6 t0 t1 t2;clear b0;obtain⟨c0,c6,c7,c8⟩:=b1.cells
    obtain⟨k0,k1,k2⟩:=fw g5;have b5:=ae g5;have a7:=b1.lt;go_wp2_with fail;have i2:But (fun _=>False) w1 w1.drew:=But.drew _ _;have i1:=ko b (im.classes.map toX) a3 aa c3 ca sa sb w1.drew (by rw[List.length_map];have:=hW.nc;omega) (m5.out _ (b1.but.trans i2)) (e0.but i2 (fun _ _ h=>h)) (g7.but i2 (fun _ _ h=>h)) f9.out (by omega);rw[ot hW.cls hW.nc m4.1 hz.1]at i1;have i4:=hid i1;clear i1;refine aD (But (fun _=>False) w1) 15 (by kernel_rfl) ?_
    iterate 14 (refine aJ (v:=?_) rfl (by kernel_rfl) (fun _ _ _ h=>h) rfl i2 ?_ ?_;rotate_left;(focus (intro wS h;have q0:=(h.kc c0 a7.1);have q1:=(h.kc c6 a7.1);have q2:=(h.kc t1 a7.2.1);have q3:=(h.kc k1 b5);clear h;go_simp;try rfl));dsimp only[Act.put];try simp only[aL])
    refine ah rfl (by kernel_rfl) ?_;intro KS hKS;go_simp;refine i4.out.mono ?_;rintro en w2 ⟨j1,v5,rfl,j7⟩;obtain⟨a5,c5,n9⟩:=aw j7;subst n9;have b2:=i2.trans j1;refine hKS.out _ _ (fun _=>b2) ?_;clear hKS KS i4;refine ah rfl (by kernel_rfl) ?_;intro KS hKS;go_simp;refine hKS.out _ _ nofun ?_;clear hKS KS;refine aH rfl (by kernel_rfl) ?_;have b4:=b1.next b2;have m0:=g7.but b2 (fun _ _ h=>h);have j2:=h8.but b2 (fun _ _ h=>h);have i7:=e0.but b2 (fun _ _ h=>h);have i0:=e1.but b2 (fun _ _ h=>h);have l0:=(b2.block w.heap.size b5 (fun h=>h)).trans g5;have g1:But (fun k=>k=bb∨k=gs∨k=gw) w w2:=d6.next b2 (fun _ _ h=>h.elim)
    have h6:BtB w2 0 (.slice a5 (df im.classes sa sb).length c5) (df im.classes sa sb):=World.ownsRow.mono j7 (Nat.zero_le _);have u0:=b2.kc t0 a7.2.1;have u1:=b2.kc t1 a7.2.1;have u2:=b2.kc t2 a7.2.1;clear c0 c6 c7 c8 k0 k1 k2 t0 t1 t2 b1 g7 h8 e0 e1 g5 d6 b5 a7 b2 j1 i2 j7;obtain⟨c0,c6,c7,c8⟩:=b4.cells;obtain⟨k0,k1,k2⟩:=fw l0;have b5:=ae l0;have a7:=b4.lt;have t0:=u0;have t1:=u1;have t2:=u2;clear u0 u1 u2;obtain⟨M1,g2⟩: ∃M1,df im.classes sa sb=M1:=⟨_,rfl⟩;rw[g2]at h6;rw[g2];have f0:=hid g2;clear g2;go_wp2_with fail;have i3:But (fun _=>False) w2 w2.drew:=But.drew _ _;have i1:=ko b (im.classes.map toX) a4 al c4 cl la lb w2.drew (by rw[List.length_map];have:=hW.nc;omega) (m5.out _ (b4.but.trans i3)) (i0.but i3 (fun _ _ h=>h)) (j2.but i3 (fun _ _ h=>h)) (by rw[m4.2.2,hz.2.2]) (by have:=hz.2.2;omega)
    rw[ot hW.cls hW.nc m4.2.1 hz.2.1]at i1;have i4:=hid i1;clear i1;refine aD (But (fun _=>False) w2) 15 (by kernel_rfl) ?_
    iterate 14 (refine aJ (v:=?_) rfl (by kernel_rfl) (fun _ _ _ h=>h) rfl i3 ?_ ?_;rotate_left;(focus (intro wS h;have q0:=(h.kc c0 a7.1);have q1:=(h.kc c6 a7.1);have q2:=(h.kc t2 a7.2.1);have q3:=(h.kc k2 b5);clear h;go_simp;try rfl));dsimp only[Act.put];try simp only[aL])
    refine ah rfl (by kernel_rfl) ?_;intro KS hKS;go_simp;refine i4.out.mono ?_;rintro en w3 ⟨n0,v6,rfl,k9⟩;obtain⟨a6,j0,o0⟩:=aw k9;subst o0;have b2:=i3.trans n0;refine hKS.out _ _ (fun _=>b2) ?_;clear hKS KS i4;refine ah rfl (by kernel_rfl) ?_;intro KS hKS;go_simp;refine hKS.out _ _ nofun ?_;clear hKS KS;refine aH rfl (by kernel_rfl) ?_;have a0:=b4.next b2;have m2:=i7.but b2 (fun _ _ h=>h);have l5:=i0.but b2 (fun _ _ h=>h);have h7:=h6.but b2 (fun _ _ h=>h);have h5:But (fun k=>k=bb∨k=gs∨k=gw) w w3:=g1.next b2 (fun _ _ h=>h.elim);have g3:BtB w3 0 (.slice a6 (df im.classes la lb).length j0) (df im.classes la lb):=World.ownsRow.mono k9 (Nat.zero_le _)
    have u0:=b2.kc t0 a7.2.1;have u1:=b2.kc t1 a7.2.1;have u2:=b2.kc t2 a7.2.1;clear c0 c6 c7 c8 k0 k1 k2 t0 t1 t2 b4 m0 j2 i7 i0 l0 g1 b5 a7 b2 n0 i3 k9 h6;obtain⟨c0,c6,c7,c8⟩:=a0.cells;have a7:=a0.lt;have t0:=u0;have t1:=u1;have t2:=u2;clear u0 u1 u2;obtain⟨M2,g4⟩: ∃M2,df im.classes la lb=M2:=⟨_,rfl⟩;rw[g4]at g3;rw[g4];have f1:=hid g4;clear g4;have f2:=hid (pJ a5 a3 c5 c3 M1 sa w3 h7 m2);have g0:=hid (pJ a6 a4 j0 c4 M2 la w3 g3 l5)
    by_cases hq1:M1=sa
    ·rw[show decide (M1=sa)=true from by simp[hq1]]at f2
     by_cases hq2:M2=la
     ·rw[show decide (M2=la)=true from by simp[hq2]]at g0;have b6:=AC (cs:=im.classes) (wt:=wt) (lb:=lb) ho f9.out (by rw[f0.out,hq1]) (by rw[f1.out,hq2]);have i5:=hid b6;clear b6 hq1 hq2;go_wp2_with fail;refine f2.out.mono ?_;rintro en wx ⟨rfl,e3⟩;rw[e3];clear e3 wx;go_wp2_with fail;refine g0.out.mono ?_;rintro en wx ⟨rfl,e3⟩;rw[e3];clear e3 wx;go_wp2_with fail;exact tI Tryz.results105 rfl ⟨rfl,h5,by rw[i5.out];simpa using a0⟩
     ·rw[show decide (M2=la)=false from by simp[hq2]]at g0;have j5:Hid (¬(M1=sa∧M2=la)):=hid (fun h=>hq2 h.2);clear hq1 hq2;have b6:=zb (cs:=im.classes) (wt:=wt) (lb:=lb) ho f9.out (fun h=>j5.out ⟨f0.out▸h.1,f1.out▸h.2⟩);rw[f0.out,f1.out]at b6;have i5:=hid b6;have e5:=a0.sfz (j*3);have e6:=a0.sfz (j*3+1);have e7:=a0.sfz (j*3+2);have b9:=a0.lay hj h7 g3;have f3:But (fun k=>k=bb∨k=gs∨k=gw) w3 (((w3.setCell ⟨gs,j*3,none⟩ (.bool true)).setCell ⟨gs,j*3+1,none⟩ (.slice a5 M1.length c5)).setCell ⟨gs,j*3+2,none⟩ (.slice a6 M2.length j0)):=(((But.setB w3 gs _ _).trans (But.setB _ gs _ _)).trans (But.setB _ gs _ _)).mono (fun k _ h=>Or.inr (Or.inl h))
      have m3:=a0.wcell hj;have n7:=a0.ne;have f4:=b9.wait j true;have h4:=hid f4;have h2:=hid f3;obtain⟨e8,e9⟩:=m3;clear b6 b9 f3 f4 a0;go_wp2_with fail;refine f2.out.mono ?_;rintro en wx ⟨rfl,e3⟩;rw[e3];clear e3 wx;go_wp2_with fail;refine g0.out.mono ?_;rintro en wx ⟨rfl,e3⟩;rw[e3];clear e3 wx;go_wp2_with fail;go_end0;refine⟨rfl,(h5.trans h2.out).trans ((But.setB _ _ _ _).mono (fun k _ h=>Or.inr (Or.inr h))),?_⟩;rw[i5.out];simpa using h4.out
    ·rw[show decide (M1=sa)=false from by simp[hq1]]at f2;have j5:Hid (¬(M1=sa∧M2=la)):=hid (fun h=>hq1 h.1);clear hq1;have b6:=zb (cs:=im.classes) (wt:=wt) (lb:=lb) ho f9.out (fun h=>j5.out ⟨f0.out▸h.1,f1.out▸h.2⟩);rw[f0.out,f1.out]at b6;have i5:=hid b6;have e5:=a0.sfz (j*3);have e6:=a0.sfz (j*3+1);have e7:=a0.sfz (j*3+2);have b9:=a0.lay hj h7 g3;have f3:But (fun k=>k=bb∨k=gs∨k=gw) w3 (((w3.setCell ⟨gs,j*3,none⟩ (.bool true)).setCell ⟨gs,j*3+1,none⟩ (.slice a5 M1.length c5)).setCell ⟨gs,j*3+2,none⟩ (.slice a6 M2.length j0)):=(((But.setB w3 gs _ _).trans (But.setB _ gs _ _)).trans (But.setB _ gs _ _)).mono (fun k _ h=>Or.inr (Or.inl h))
     have m3:=a0.wcell hj;have n7:=a0.ne;have f4:=b9.wait j true;have h4:=hid f4;have h2:=hid f3;obtain⟨e8,e9⟩:=m3;clear b6 b9 f3 f4 a0;go_wp2_with fail;refine f2.out.mono ?_;rintro en wx ⟨rfl,e3⟩;rw[e3];clear e3 wx;go_wp2_with fail;go_end0;refine⟨rfl,(h5.trans h2.out).trans ((But.setB _ _ _ _).mono (fun k _ h=>Or.inr (Or.inr h))),?_⟩;rw[i5.out];simpa using h4.out
   ·rw[BD ho hlen];simp only[Bool.or_true];have l3:((sa.length:Int)==(sb.length:Int))=false:=by rw[beq_eq_false_iff_ne];omega
    have l4:((sa.length:Int)!=(sb.length:Int))=true:=by simp[bne,l3]
    have h9: ¬(sa.length:Int)=(sb.length:Int):=by omega
    go_in
    go_wp2_with fail;revert e4 e2 b3 f7 f6 f5 e8 e9 e5 e6 e7 c0 c6 c7 c8 k0 k1 k2 b5 t0 t1 t2 h0 g6;generalize (w.alloc (.cells #[.bool true,.slice aa sb.length ca,.slice al lb.length cl] 117))=W;intro e4 e2 b3 f7 f6 f5 e8 e9 e5 e6 e7 c0 c6 c7 c8 k0 k1 k2 b5 t0 t1 t2 h0 g6;have a8:=b3.lt;have b0:But (fun _=>False) W W.drew:=But.drew _ _;refine aD (But (fun _=>False) W) 13 (by kernel_rfl) ?_
    iterate 13 (refine aJ (v:=?_) rfl (by kernel_rfl) (fun _ _ _ h=>h) rfl b0 ?_ ?_;rotate_left;(focus (intro wS h;have q0:=(h.kc c6 a8.1);have q1:=(h.kc t1 a8.2.1);have q2:=(h.kc k1 b5);clear h;go_simp;try rfl));dsimp only[Act.put];try simp only[aL])
    refine aH rfl (by kernel_rfl) ?_;have b1:=b3.next b0;have g7:=f7.but b0 (fun _ _ h=>h);have h8:=f6.but b0 (fun _ _ h=>h);have e0:=h0.but b0 (fun _ _ h=>h);have e1:=g6.but b0 (fun _ _ h=>h);have g5:=(b0.block w.heap.size b5 (fun h=>h)).trans e2;have d6:But (fun k=>k=bb∨k=gs∨k=gw) w W.drew:=f5.next b0 (fun _ _ h=>h.elim);have u0:=b0.kc t0 a8.2.1;have u1:=b0.kc t1 a8.2.1;have u2:=b0.kc t2 a8.2.1;clear e8 e9 e5 e6 e7 c0 c6 c7 c8 k0 k1 k2 t0 t1 t2 h0 g6 b3 f7 f6 e2 e4 f5 b5 a8 hB;revert b1 g7 h8 e0 e1 g5 d6 u0 u1 u2;generalize W.drew=w1;intro b1 g7 h8 e0 e1 g5 d6 t0 t1 t2;clear b0;obtain⟨c0,c6,c7,c8⟩:=b1.cells
    have f8:=b1.fz 8;go_wp2_with fail;exact tI Tryz.results105 rfl ⟨rfl,d6.trans ((But.setB _ _ _ _).mono (fun k _ h=>Or.inl h)),b1.fail⟩
 ·have n3: ¬(j:Int)<(tab.length:Int):=by omega
  have n2: ¬(j:Int)<0:=by omega
  rw[BC (by omega)];simp only[Bool.or_true];obtain⟨c0,c6,c7,c8⟩:=b3.cells;have f8:=b3.fz 8;have o1:=hid b3;have HB:=hid hB;clear e2 hB
  go_in
  go_wp2_with fail;exact tI Tryz.results105 rfl ⟨rfl,((But.setB _ _ _ _).mono (fun k _ h=>Or.inl h)).trans (But.alloc _ _ _),HB.out.fail.next (But.alloc _ _ _)⟩
end
end Go.Proofs.YtpfkkmacakjmbaaGreatDoor
