import Derived.Test.YtpfkkmacakjmbaaGreatDoorP25
import Derived.Test.YtpfkkmacakjmbaaGreatDoorP06
import Derived.Test.YtpfkkmacakjmbaaGreatDoorP08
set_option maxRecDepth 100000
set_option maxHeartbeats 6400000
set_option linter.unusedSimpArgs false
set_option linter.unusedVariables false
namespace Go.Proofs.YtpfkkmacakjmbaaGreatDoor
section
open Go Go.RowKit Sp
section
variable {im:Img} {bd:Bod} {x:Ins}
theorem kf {c:UInt8} (h:da.contains c.toNat=true):c=107∨c=114∨c=119∨c=108∨c=115∨c=43∨c=45∨c=42∨c=47∨c=60∨c=61∨c=101∨c=110∨c=122∨c=103∨c=112∨c=99∨c=120∨c=100∨c=106∨c=102∨c=116:=by
 have h1:c.toNat∈da:=List.elem_iff.1 h;simp only[da,List.mem_cons,List.not_mem_nil,or_false]at h1;have e: ∀n:Nat,n<256→c.toNat=n→c=UInt8.ofNat n:=fun n hn h=>(u8n hn).1 h
 rcases h1 with h|h|h|h|h|h|h|h|h|h|h|h|h|h|h|h|h|h|h|h|h|h<;>(have:=e _ (by decide) h;simp at this;simp[this])
theorem uS (hW:WfI im) (ha:x.a<im.classes.length) (hb:x.b<cF im.classes x.a):bM (bH (im.classes.map toX) (UInt8.ofNat (65+x.a))) x.b=cz im.classes x.a x.b:=by
 obtain⟨hl,hk⟩:=xS ha hW.nc;have hv:(UInt8.ofNat (65+x.a)).toNat-65=x.a:=by have:=hW.nc;simp;omega
 have a0:=iL (a:=0) hl;rw[hv]at a0;unfold bM;rw[if_pos (by rw[←a0];exact hb)];unfold cz bH;rw[List.length_map,if_pos hl,List.getElem?_map,hv]
 cases im.classes[x.a]?<;>rfl
theorem wn (hW:WfI im) (hbd:WfB im.classes im.sigs bd) (hx:WfX im.classes im.sigs.length bd.locals.length x):
  ay (im.classes.map toX) im.sigs (aL x).op (aL x).cls (aL x).num (aN im.sigs bd).ans=bN im.classes im.sigs bd x:=by
 have e1:(aL x).op=x.op:=rfl;have e2:(aL x).num=x.b:=rfl;rw[e1,e2];have hc:=fun h=>nG (x:=x) h
 rcases kf hx.op with h|h|h|h|h|h|h|h|h|h|h|h|h|h|h|h|h|h|h|h|h|h
 ·have hn:x.op.toNat=107:=by rw[h];rfl
  simp[ay,bN,bB,arith,hn]
 ·have hn:x.op.toNat=114:=by rw[h];rfl
  simp[ay,bN,bB,arith,hn]
 ·have hn:x.op.toNat=119:=by rw[h];rfl
  simp[ay,bN,bB,arith,hn]
 ·have hn:x.op.toNat=108:=by rw[h];rfl
  simp[ay,bN,bB,arith,hn]
 ·have hn:x.op.toNat=115:=by rw[h];rfl
  simp[ay,bN,bB,arith,hn]
 ·have hn:x.op.toNat=43:=by rw[h];rfl
  simp[ay,bN,bB,arith,hn]
 ·have hn:x.op.toNat=45:=by rw[h];rfl
  simp[ay,bN,bB,arith,hn]
 ·have hn:x.op.toNat=42:=by rw[h];rfl
  simp[ay,bN,bB,arith,hn]
 ·have hn:x.op.toNat=47:=by rw[h];rfl
  simp[ay,bN,bB,arith,hn]
 ·have hn:x.op.toNat=60:=by rw[h];rfl
  simp[ay,bN,bB,arith,hn]
 ·have hn:x.op.toNat=61:=by rw[h];rfl
  simp[ay,bN,bB,arith,hn]
 ·have hn:x.op.toNat=101:=by rw[h];rfl
  simp[ay,bN,bB,arith,hn]
 ·have hn:x.op.toNat=110:=by rw[h];rfl
  simp[ay,bN,bB,arith,hn]
 ·have hn:x.op.toNat=122:=by rw[h];rfl
  simp[ay,bN,bB,arith,hn]
 ·have hn:x.op.toNat=103:=by rw[h];rfl
  rw[hc (by omega)];simp[ay,bN,bB,arith,hn]
 ·have hn:x.op.toNat=112:=by rw[h];rfl
  have e3:=uS hW (hx.cls (by omega)) (hx.fld (by omega));rw[hc (by omega)];unfold cL;simp only[ay,bN,bB,arith,hn,cL];simp only[e3];simp
 ·have hn:x.op.toNat=99:=by rw[h];rfl
  have e3:=kZ (hx.sig hn);rw[hc (by omega)];simp[ay,bN,bB,arith,hn,e3.1]
 ·have hn:x.op.toNat=120:=by rw[h];rfl
  simp[ay,bN,bB,arith,hn]
 ·have hn:x.op.toNat=100:=by rw[h];rfl
  simp[ay,bN,bB,arith,hn]
 ·have hn:x.op.toNat=106:=by rw[h];rfl
  simp[ay,bN,bB,arith,hn]
 ·have hn:x.op.toNat=102:=by rw[h];rfl
  simp[ay,bN,bB,arith,hn]
 ·have hn:x.op.toNat=116:=by rw[h];rfl
  by_cases hcl:bd.cls<0
  ·simp[ay,bN,bB,arith,hn,aN,hcl]
  ·have e3:(cM im.sigs bd.meth.toNat).ret=fh im.sigs bd.meth.toNat:=by
    rcases hbd.cls with⟨h1,_⟩ | ⟨h1,h2,h3,h4⟩
    ·omega
    ·exact(kZ (by omega)).2
   simp[ay,bN,bB,arith,hn,aN,hcl,e3]
theorem wu (hW:WfI im) {a c:UInt8} (ha:okT im.classes.length a=true) (hc:okT im.classes.length c=true∨c=38):bW (im.classes.map toX) a c=eU im.classes a c:=by
 unfold bW eU;rw[List.length_map]
 by_cases h:c.toNat=38
 ·rw[if_pos h,if_pos h];unfold isR;rw[ey hW.cls hW.nc ha]
 ·rw[if_neg h,if_neg h];rcases hc with hc|rfl
  ·exact fW hW.cls hW.nc ha hc
  ·exact absurd rfl h
theorem wv (hW:WfI im) (hbd:WfB im.classes im.sigs bd) (hx:WfX im.classes im.sigs.length bd.locals.length x): ∀c∈bN im.classes im.sigs bd x,okT im.classes.length c=true∨c=38:=by
 intro c hc;unfold bN at hc
 split at hc
 ·simp at hc;subst hc;left;simp[dI]
 split at hc
 ·simp at hc;right;exact hc
 split at hc
 ·simp at hc;right;exact hc
 ·left;exact ry hW hbd hx c hc
theorem sj (hW:WfI im) {st asked:List UInt8} (hs: ∀c∈st,okT im.classes.length c=true) (ha: ∀c∈asked,okT im.classes.length c=true∨c=38) (hl:asked.length≤st.length):
  gO (im.classes.map toX) st asked=iU im.classes st asked:=by
 unfold gO iU;rw[show decide (asked.length≤st.length)=true from by simp[hl],Bool.true_and,Bool.eq_iff_iff];simp only[List.all_eq_true,List.mem_range]
 have key: ∀i,i<asked.length→bW (im.classes.map toX) (st.getD (st.length-asked.length+i) 0) (asked.getD i 0)=eU im.classes (st.getD (st.length-asked.length+i) 0) (asked.getD i 0):=by
  intro i hi;refine wu hW (kL hs (by omega)) ?_;have:asked.getD i 0=asked[i]:=by simp[List.getD,hi]
  rw[this];exact ha _ (List.getElem_mem hi)
 exact⟨fun h i hi=>by rw[←key i hi];exact h i hi,fun h i hi=>by rw[key i hi];exact h i hi⟩
theorem sm (hW:WfI im) (hx:WfX im.classes im.sigs.length bd.locals.length x) {lo:List UInt8} (hl:lo.length=bd.locals.length) (hlo: ∀c∈lo,okT im.classes.length c=true):
  (if(aF (im.classes.map toX) im.sigs (aL x).op (aL x).cls (aL x).num lo).toNat=0 then []else [aF (im.classes.map toX) im.sigs (aL x).op (aL x).cls (aL x).num lo])=du im.classes im.sigs x lo∧
  (x.op.toNat=108→aF (im.classes.map toX) im.sigs (aL x).op (aL x).cls (aL x).num lo=lo.getD x.b 0):=by
 have e1:(aL x).op=x.op:=rfl;have e2:(aL x).num=x.b:=rfl;rw[e1,e2];have a1: ∀c:UInt8,okT im.classes.length c=true→c.toNat≠0:=fun c h=>by rw[dI]at h;omega
 have a0:=qV hW hx;have hc:=fun h=>nG (x:=x) h
 rcases kf hx.op with h|h|h|h|h|h|h|h|h|h|h|h|h|h|h|h|h|h|h|h|h|h
 ·have hn:x.op.toNat=107:=by rw[h];rfl
  exact⟨by simp[aF,du,bG,arith,hn],fun h=>by omega⟩
 ·have hn:x.op.toNat=114:=by rw[h];rfl
  exact⟨by simp[aF,du,bG,arith,hn],fun h=>by omega⟩
 ·have hn:x.op.toNat=119:=by rw[h];rfl
  exact⟨by simp[aF,du,bG,arith,hn],fun h=>by omega⟩
 ·have hn:x.op.toNat=108:=by rw[h];rfl
  have hb:=hx.loc (Or.inl hn);have e3:bM lo x.b=lo.getD x.b 0:=by unfold bM;rw[if_pos (by omega)]
  have e4:=a1 _ (kL hlo (k:=x.b) (by omega));have e5:aF (im.classes.map toX) im.sigs x.op (aL x).cls x.b lo=lo.getD x.b 0:=by rw[←e3];simp[aF,hn]
  rw[e5,if_neg e4];exact⟨by simp[du,hn],fun _=>rfl⟩
 ·have hn:x.op.toNat=115:=by rw[h];rfl
  exact⟨by simp[aF,du,bG,arith,hn],fun h=>by omega⟩
 ·have hn:x.op.toNat=43:=by rw[h];rfl
  exact⟨by simp[aF,du,bG,arith,hn],fun h=>by omega⟩
 ·have hn:x.op.toNat=45:=by rw[h];rfl
  exact⟨by simp[aF,du,bG,arith,hn],fun h=>by omega⟩
 ·have hn:x.op.toNat=42:=by rw[h];rfl
  exact⟨by simp[aF,du,bG,arith,hn],fun h=>by omega⟩
 ·have hn:x.op.toNat=47:=by rw[h];rfl
  exact⟨by simp[aF,du,bG,arith,hn],fun h=>by omega⟩
 ·have hn:x.op.toNat=60:=by rw[h];rfl
  exact⟨by simp[aF,du,bG,arith,hn],fun h=>by omega⟩
 ·have hn:x.op.toNat=61:=by rw[h];rfl
  exact⟨by simp[aF,du,bG,arith,hn],fun h=>by omega⟩
 ·have hn:x.op.toNat=101:=by rw[h];rfl
  exact⟨by simp[aF,du,bG,arith,hn],fun h=>by omega⟩
 ·have hn:x.op.toNat=110:=by rw[h];rfl
  have ha:=hx.cls (by omega);have a2:=hW.nc;have e4:(cL x.a).toNat≠0:=by simp[cL];omega
  rw[hc (by omega)];have e5:aF (im.classes.map toX) im.sigs x.op (cL x.a) x.b lo=cL x.a:=by simp[aF,hn]
  rw[e5,if_neg e4];exact⟨by simp[du,bG,arith,hn],fun h=>by omega⟩
 ·have hn:x.op.toNat=122:=by rw[h];rfl
  exact⟨by simp[aF,du,bG,arith,hn],fun h=>by omega⟩
 ·have hn:x.op.toNat=103:=by rw[h];rfl
  have e3:=uS hW (hx.cls (by omega)) (hx.fld (by omega));have e6:du im.classes im.sigs x lo=[cz im.classes x.a x.b]:=by simp[du,bG,arith,hn]
  have e7:cz im.classes x.a x.b∈bG im.classes im.sigs x:=by simp[bG,arith,hn]
  have e4:=a1 _ (a0 _ e7);rw[hc (by omega)];have e5:aF (im.classes.map toX) im.sigs x.op (cL x.a) x.b lo=cz im.classes x.a x.b:=by rw[←e3];simp[aF,hn,cL]
  rw[e5,if_neg e4,e6];exact⟨rfl,fun h=>by omega⟩
 ·have hn:x.op.toNat=112:=by rw[h];rfl
  exact⟨by simp[aF,du,bG,arith,hn],fun h=>by omega⟩
 ·have hn:x.op.toNat=99:=by rw[h];rfl
  have e3:=kZ (hx.sig hn);have e6:du im.classes im.sigs x lo=[fh im.sigs x.b]:=by simp[du,bG,arith,hn]
  have e7:fh im.sigs x.b∈bG im.classes im.sigs x:=by simp[bG,arith,hn]
  have e4:=a1 _ (a0 _ e7);have e5:aF (im.classes.map toX) im.sigs x.op (aL x).cls x.b lo=fh im.sigs x.b:=by rw[←e3.2];simp[aF,hn]
  rw[e5,if_neg e4,e6];exact⟨rfl,fun h=>by omega⟩
 ·have hn:x.op.toNat=120:=by rw[h];rfl
  have ha:=hx.cls (by omega);have a2:=hW.nc;have e4:(cL x.a).toNat≠0:=by simp[cL];omega
  rw[hc (by omega)];have e5:aF (im.classes.map toX) im.sigs x.op (cL x.a) x.b lo=cL x.a:=by simp[aF,hn]
  rw[e5,if_neg e4];exact⟨by simp[du,bG,arith,hn],fun h=>by omega⟩
 ·have hn:x.op.toNat=100:=by rw[h];rfl
  exact⟨by simp[aF,du,bG,arith,hn],fun h=>by omega⟩
 ·have hn:x.op.toNat=106:=by rw[h];rfl
  exact⟨by simp[aF,du,bG,arith,hn],fun h=>by omega⟩
 ·have hn:x.op.toNat=102:=by rw[h];rfl
  exact⟨by simp[aF,du,bG,arith,hn],fun h=>by omega⟩
 ·have hn:x.op.toNat=116:=by rw[h];rfl
  exact⟨by simp[aF,du,bG,arith,hn],fun h=>by omega⟩
theorem ww (hW:WfI im) (hbd:WfB im.classes im.sigs bd) (hx:WfX im.classes im.sigs.length bd.locals.length x) {st lo:List UInt8} (hz:okZ im.classes.length bd.locals.length st lo):
  qA (im.classes.map toX) im.sigs (aL x) (aN im.sigs bd).ans st lo=dP im.classes im.sigs bd x st lo:=by
 rw[vq hW hbd hx];unfold qA mG;rw[wn hW hbd hx];have a3:=wv hW hbd hx;have e1:(aL x).op=x.op:=rfl;have e2:(aL x).num=x.b:=rfl
 by_cases hl:st.length<(bN im.classes im.sigs bd x).length
 ·rw[if_pos (Or.inl hl)]
  have:iU im.classes st (bN im.classes im.sigs bd x)=false:=by
   unfold iU;rw[Bool.and_eq_false_iff]
   left
   simp;omega
  rw[if_pos (Or.inl this)]
 ·have a5:=sj hW hz.1 a3 (by omega:(bN im.classes im.sigs bd x).length≤st.length);rw[a5]
  cases hsu:iU im.classes st (bN im.classes im.sigs bd x)with
  |false=>rw[if_pos (Or.inr rfl),if_pos (Or.inl rfl)]
  |true=>
   have a4: ¬(st.length<(bN im.classes im.sigs bd x).length∨true=false):=by simp;omega
   rw[if_neg a4];rw[e1,e2]
   by_cases h115:x.op.toNat=115
   ·have hb:=hx.loc (Or.inr h115);have a2:(bN im.classes im.sigs bd x).length=1:=by unfold bN;rw[if_pos (Or.inl h115)];rfl
    have a0: ¬x.op.toNat=108:=by omega
    rw[if_neg (fun h=>h.2 (by rw[hz.2.2];exact hb))];simp only[a0,false_and,if_false,or_false,Bool.true_eq_false];rw[if_pos h115,if_pos h115,a2];have a6:okT im.classes.length (st.getD (st.length-1) 0)=true:=kL hz.1 (by rw[a2]at hl;omega)
    have a1:=sm hW hx (lo:=lo.set x.b (st.getD (st.length-1) 0)) (by rw[List.length_set];exact hz.2.2) (fun c hc=>by
     rcases List.mem_or_eq_of_mem_set hc with h|h
     ·exact hz.2.1 c h
     ·rw[h];exact a6)
    rw[e1,e2]at a1;rw[a1.1]
    congr 2
    unfold du;rw[if_neg a0,if_neg a0]
   ·simp only[h115,false_and,if_false];have a1:=sm hW hx hz.2.2 hz.2.1;rw[e1,e2]at a1;rw[a1.1]
    by_cases a0:x.op.toNat=108
    ·rw[a1.2 a0];simp only[a0,true_and,Bool.true_eq_false,false_or]
    ·simp only[a0,false_and,if_false,or_false,Bool.true_eq_false]
end
end
section
open Go Go.RowKit Sp
attribute [local go_sem ↓] Go.wp_at_zero Go.wp_at_succ
def stC (x:St×Value×Value):List Value:=match x.1 with
 |none=> [.bool false,.slice none 0 0,.slice none 0 0]
 |some _=> [.bool true,x.2.1,x.2.2]
def dX (l:List (St×Value×Value)):List Value:=l.flatMap stC
theorem qB (x:St×Value×Value):(stC x).length=3:=by unfold stC;split<;>rfl
theorem bZ {l:List (St×Value×Value)} {j k:Nat} {x:St×Value×Value} (h:l[j]?=some x) (hk:k<3):(dX l)[j*3+k]?=(stC x)[k]?:=jN stC 3 qB l j k x h hk
theorem so (l:List (St×Value×Value)):(dX l).length=l.length*3:=by
 induction l with
 |nil=>rfl
 |cons x l ih=>simp only[dX,List.flatMap_cons,List.length_append,qB,List.length_cons]at ih⊢;rw[ih];omega
theorem sp: ∀{l:List (St×Value×Value)} {j:Nat} {y:St×Value×Value} {a b c:Value},stC y=[a,b,c]→j<l.length→(((dX l).set (j*3) a).set (j*3+1) b).set (j*3+2) c=dX (l.set j y):=by
 intro l
 induction l with
 |nil=>intro j y a b c _ h;simp at h
 |cons x l ih=>
  intro j y a b c hy hj
  obtain⟨x0,x1,x2,hx⟩: ∃x0 x1 x2,stC x=[x0,x1,x2]:=by
   have:=qB x
   match hh:stC x,this with
   | [x0,x1,x2],_=>exact⟨x0,x1,x2,rfl⟩
  cases j with
  |zero=>simp[dX,hx,hy]
  |succ j=>
   have:=ih (j:=j) hy (by simpa using hj);simp only[dX,List.flatMap_cons,List.set_cons_succ,hx]at this⊢;rw[←this];rw[show(j+1)*3=j*3+3 from by omega];simp[List.set_append]
def StB (w:World) (g:Nat) (tab:List St):Prop:=
 ∃l:List (St×Value×Value),w.heap[g]?=some (.cells (dX l).toArray 117)∧l.map (·.1)=tab∧ ∀x∈l,∀s lo,x.1=some (s,lo)→BtB w 0 x.2.1 s∧BtB w 0 x.2.2 lo
theorem StB.off {F:Nat→Prop} {w w':World} {g:Nat} {tab:List St} (h:StB w g tab) (hb:But F w w') (hg: ¬F g) (hf: ∀k cur,w.heap[k]?=some (.cells cur 5)→ ¬F k):StB w' g tab:=by
 obtain⟨l,h1,h2,h3⟩:=h;exact⟨l,(hb.block g (ae h1) hg).trans h1,h2,fun x hx s lo e=>⟨aY (h3 x hx s lo e).1 hb (fun k cur hh _=>hf k cur hh),aY (h3 x hx s lo e).2 hb (fun k cur hh _=>hf k cur hh)⟩⟩
structure Bld (w0 w:World) (bb b gs gw:Nat) (c r:UInt8) (m:Nat) (vl vi:Value) (tab:List St) (wt:List Bool) (bad:Bool):Prop where
 but:But (fun _=>False) w0 w
 gbb:w0.heap.size≤bb
 ggs:w0.heap.size≤gs
 ggw:w0.heap.size≤gw
 blk:w.heap[bb]?=some (.cells #[.pointer (some ⟨b,0,none⟩),.int .u8 c.toNat,.int .i64 m,.int .u8 r.toNat,vl,vi,.slice (some ⟨gs,0,none⟩) tab.length tab.length,.slice (some ⟨gw,0,none⟩) tab.length tab.length,.bool bad] 181)
 sts:StB w gs tab
 wts:WtB w gw wt
 wl:wt.length=tab.length
section
variable {w0 w:World} {bb b gs gw:Nat} {c r:UInt8} {m:Nat} {vl vi:Value} {tab:List St} {wt:List Bool} {bad:Bool}
theorem Bld.cells (h:Bld w0 w bb b gs gw c r m vl vi tab wt bad):
  w.cell? ⟨bb,0,none⟩=some (.pointer (some ⟨b,0,none⟩))∧w.cell? ⟨bb,6,none⟩=some (.slice (some ⟨gs,0,none⟩) tab.length tab.length)∧w.cell? ⟨bb,7,none⟩=some (.slice (some ⟨gw,0,none⟩) tab.length tab.length)∧w.cell? ⟨bb,8,none⟩=some (.bool bad):=by
 refine⟨?_,?_,?_,?_⟩
 ·rw[cell_of_row w bb 0 _ _ (0,0) h.blk];rfl
 ·rw[cell_of_row w bb 6 _ _ (0,0) h.blk];rfl
 ·rw[cell_of_row w bb 7 _ _ (0,0) h.blk];rfl
 ·rw[cell_of_row w bb 8 _ _ (0,0) h.blk];rfl
theorem Bld.body (h:Bld w0 w bb b gs gw c r m vl vi tab wt bad):
  w.cell? ⟨bb,1,none⟩=some (.int .u8 c.toNat)∧w.cell? ⟨bb,2,none⟩=some (.int .i64 m)∧w.cell? ⟨bb,3,none⟩=some (.int .u8 r.toNat)∧w.cell? ⟨bb,4,none⟩=some vl∧w.cell? ⟨bb,5,none⟩=some vi:=by
 refine⟨?_,?_,?_,?_,?_⟩
 ·rw[cell_of_row w bb 1 _ _ (0,0) h.blk];rfl
 ·rw[cell_of_row w bb 2 _ _ (0,0) h.blk];rfl
 ·rw[cell_of_row w bb 3 _ _ (0,0) h.blk];rfl
 ·rw[cell_of_row w bb 4 _ _ (0,0) h.blk];rfl
 ·rw[cell_of_row w bb 5 _ _ (0,0) h.blk];rfl
theorem Bld.fz (h:Bld w0 w bb b gs gw c r m vl vi tab wt bad) (k:Nat):w.frozen? ⟨bb,k,none⟩=false:=frozen_of_row w bb k _ _ h.blk
theorem Bld.ne (h:Bld w0 w bb b gs gw c r m vl vi tab wt bad):bb≠gs∧bb≠gw∧gs≠gw:=by
 obtain⟨l,hs,_⟩:=h.sts;refine⟨?_,?_,?_⟩
 ·intro e;have:=h.blk;rw[e,hs]at this;injection this with this;injection this with _ h2;exact absurd h2 (by decide)
 ·intro e;have:=h.blk;rw[e]at this;have hw:=h.wts;unfold WtB at hw;rw[hw]at this;injection this with this;injection this with _ h2;exact absurd h2 (by decide)
 ·intro e;have hw:=h.wts;unfold WtB at hw;rw[e,hw]at hs;injection hs with hs;injection hs with _ h2;exact absurd h2 (by decide)
theorem Bld.u8 (h:Bld w0 w bb b gs gw c r m vl vi tab wt bad) {k:Nat} {cur:Array Value} (hk:w.heap[k]?=some (.cells cur 5)): ¬(k=bb∨k=gs∨k=gw):=by
 obtain⟨l,hs,_⟩:=h.sts;have hw:=h.wts;unfold WtB at hw;rintro(e|e|e)
 ·rw[e,h.blk]at hk;injection hk with hk;injection hk with _ h2;exact absurd h2 (by decide)
 ·rw[e,hs]at hk;injection hk with hk;injection hk with _ h2;exact absurd h2 (by decide)
 ·rw[e,hw]at hk;injection hk with hk;injection hk with _ h2;exact absurd h2 (by decide)
theorem Bld.lt (h:Bld w0 w bb b gs gw c r m vl vi tab wt bad):bb<w.heap.size∧gs<w.heap.size∧gw<w.heap.size:=by
 obtain⟨l,hs,_⟩:=h.sts;exact⟨ae h.blk,ae hs,ae h.wts⟩
theorem Bld.next {w':World} (h:Bld w0 w bb b gs gw c r m vl vi tab wt bad) (hb:But (fun _=>False) w w'):Bld w0 w' bb b gs gw c r m vl vi tab wt bad:=
 ⟨h.but.trans hb,h.gbb,h.ggs,h.ggw,hb.kp h.blk,h.sts.off hb (fun h=>h) (fun _ _ _ h=>h),hb.kp h.wts,h.wl⟩
theorem Bld.fail (h:Bld w0 w bb b gs gw c r m vl vi tab wt bad):Bld w0 (w.setCell ⟨bb,8,none⟩ (.bool true)) bb b gs gw c r m vl vi tab wt true:=by
 have hb:=But.setB w bb 8 (.bool true);have hn:=h.ne;refine⟨h.but.next hb (fun k hk e=>by have:=h.gbb;omega),h.gbb,h.ggs,h.ggw,heap_setCell_same w bb 8 _ _ _ h.blk,h.sts.off hb (fun e=>hn.1 e.symm) (fun k cur hk e=>h.u8 hk (Or.inl e)),(hb.block gw (ae h.wts) (fun e=>hn.2.1 e.symm)).trans h.wts,h.wl⟩
theorem Bld.wait (h:Bld w0 w bb b gs gw c r m vl vi tab wt bad) (k:Nat) (v:Bool):Bld w0 (w.setCell ⟨gw,k,none⟩ (.bool v)) bb b gs gw c r m vl vi tab (wt.set k v) bad:=by
 have hb:=But.setB w gw k (.bool v);have hn:=h.ne;refine⟨h.but.next hb (fun j hk e=>by have:=h.ggw;omega),h.gbb,h.ggs,h.ggw,(hb.block bb (ae h.blk) hn.2.1).trans h.blk,h.sts.off hb hn.2.2 (fun k cur hk e=>h.u8 hk (Or.inr (Or.inr e))),?_,by rw[List.length_set];exact h.wl⟩;have:=heap_setCell_same w gw k _ _ (.bool v) h.wts;unfold WtB;rw[this,List.map_set];simp
theorem Bld.wcell (h:Bld w0 w bb b gs gw c r m vl vi tab wt bad) {k:Nat} (hk:k<tab.length):w.cell? ⟨gw,k,none⟩=some (.bool (wt.getD k false))∧w.frozen? ⟨gw,k,none⟩=false:=
 ⟨h.wts.cell (by rw[h.wl];exact hk),frozen_of_row w gw k _ _ h.wts⟩
theorem Bld.known (h:Bld w0 w bb b gs gw c r m vl vi tab wt bad) {k:Nat} {s lo:List UInt8} (hk:tab[k]?=some (some (s,lo))):
  ∃a1 c1 a2 c2,w.cell? ⟨gs,k*3,none⟩=some (.bool true)∧w.cell? ⟨gs,k*3+1,none⟩=some (.slice a1 s.length c1)∧w.cell? ⟨gs,k*3+2,none⟩=some (.slice a2 lo.length c2)∧BtB w 0 (.slice a1 s.length c1) s∧BtB w 0 (.slice a2 lo.length c2) lo:=by
 obtain⟨l,hs,hm,hf⟩:=h.sts;rw[←hm,List.getElem?_map]at hk;obtain⟨x,hx,a0⟩:=Option.map_eq_some_iff.1 hk;obtain⟨h1,h2⟩:=hf x (List.mem_of_getElem? hx) s lo a0;obtain⟨a1,c1,e1⟩:=aw h1;obtain⟨a2,c2,e2⟩:=aw h2;have hc:stC x=[.bool true,x.2.1,x.2.2]:=by unfold stC;rw[a0]
 rw[e1]at h1;rw[e2]at h2;refine⟨a1,c1,a2,c2,?_,?_,?_,h1,h2⟩
 ·rw[cell_of_row w gs (k*3) _ _ (0,0) hs];have:=bZ (k:=0) hx (by omega);rw[hc]at this;simpa using this
 ·rw[cell_of_row w gs (k*3+1) _ _ (0,0) hs];have:=bZ (k:=1) hx (by omega);rw[hc,e1]at this;simpa using this
 ·rw[cell_of_row w gs (k*3+2) _ _ (0,0) hs];have:=bZ (k:=2) hx (by omega);rw[hc,e2]at this;simpa using this
theorem Bld.unk (h:Bld w0 w bb b gs gw c r m vl vi tab wt bad) {k:Nat} (hk:tab[k]?= .some .none):
  w.cell? ⟨gs,k*3,none⟩= .some (.bool false)∧w.cell? ⟨gs,k*3+1,none⟩= .some (.slice none 0 0)∧w.cell? ⟨gs,k*3+2,none⟩= .some (.slice none 0 0):=by
 obtain⟨l,hs,hm,hf⟩:=h.sts;rw[←hm,List.getElem?_map]at hk;obtain⟨x,hx,a0⟩:=Option.map_eq_some_iff.1 hk;have hc:stC x=[.bool false,.slice none 0 0,.slice none 0 0]:=by unfold stC;rw[a0]
 refine⟨?_,?_,?_⟩
 ·rw[cell_of_row w gs (k*3) _ _ (0,0) hs];have:=bZ (k:=0) hx (by omega);rw[hc]at this;simpa using this
 ·rw[cell_of_row w gs (k*3+1) _ _ (0,0) hs];have:=bZ (k:=1) hx (by omega);rw[hc]at this;simpa using this
 ·rw[cell_of_row w gs (k*3+2) _ _ (0,0) hs];have:=bZ (k:=2) hx (by omega);rw[hc]at this;simpa using this
theorem Bld.sfz (h:Bld w0 w bb b gs gw c r m vl vi tab wt bad) (k:Nat):w.frozen? ⟨gs,k,none⟩=false:=by
 obtain⟨l,hs,hm,hf⟩:=h.sts;exact frozen_of_row w gs k _ _ hs
theorem Bld.lay (h:Bld w0 w bb b gs gw c r m vl vi tab wt bad) {k:Nat} (hk:k<tab.length) {s lo:List UInt8} {v1 v2:Value} (h1:BtB w 0 v1 s) (h2:BtB w 0 v2 lo):
  Bld w0 (((w.setCell ⟨gs,k*3,none⟩ (.bool true)).setCell ⟨gs,k*3+1,none⟩ v1).setCell ⟨gs,k*3+2,none⟩ v2) bb b gs gw c r m vl vi (tab.set k (.some (s,lo))) wt bad:=by
 have hb:But (· =gs) w (((w.setCell ⟨gs,k*3,none⟩ (.bool true)).setCell ⟨gs,k*3+1,none⟩ v1).setCell ⟨gs,k*3+2,none⟩ v2):=((But.setB w gs _ _).trans (But.setB _ gs _ _)).trans (But.setB _ gs _ _);have hn:=h.ne;have hu: ∀j cur,w.heap[j]?= .some (.cells cur 5)→ ¬j=gs:=fun j cur hj e=>h.u8 hj (Or.inr (Or.inl e))
 have a0:=h.lt;have hg:=h.ggs;have a1:=(hb.block bb a0.1 hn.1).trans h.blk;have a3:=(hb.block gw a0.2.2 (fun e=>hn.2.2 e.symm)).trans h.wts;have a2:But (fun _=>False) w0 (((w.setCell ⟨gs,k*3,none⟩ (.bool true)).setCell ⟨gs,k*3+1,none⟩ v1).setCell ⟨gs,k*3+2,none⟩ v2):=h.but.next hb (fun j hj e=>by omega);obtain⟨l,hs,hm,hf⟩:=h.sts;have a4:l.length=tab.length:=by rw[←hm];simp
 have e1:=heap_setCell_same w gs (k*3) _ _ (.bool true) hs;have e2:=heap_setCell_same _ gs (k*3+1) _ _ v1 e1;have e3:=heap_setCell_same _ gs (k*3+2) _ _ v2 e2;refine⟨a2,h.gbb,h.ggs,h.ggw,by rw[List.length_set];exact a1,⟨l.set k (.some (s,lo),v1,v2),?_,?_,?_⟩,a3,by rw[List.length_set];exact h.wl⟩
 ·rw[e3]
  congr 2
  rw[←sp (l:=l) (j:=k) (y:=(.some (s,lo),v1,v2)) (a:= .bool true) (b:=v1) (c:=v2) rfl (by omega)];simp
 ·rw[List.map_set,hm]
 ·intro x hx s' lo' e;rcases List.mem_or_eq_of_mem_set hx with hx|hx
  ·obtain⟨p1,p2⟩:=hf x hx s' lo' e;exact⟨aY p1 hb (fun j cur hh _=>hu j cur hh),aY p2 hb (fun j cur hh _=>hu j cur hh)⟩
  ·subst hx;simp only[Option.some.injEq,Prod.mk.injEq]at e;obtain⟨rfl,rfl⟩:=e;exact⟨aY h1 hb (fun j cur hh _=>hu j cur hh),aY h2 hb (fun j cur hh _=>hu j cur hh)⟩
end
theorem StB.known {w:World} {gs:Nat} {tab:List St} (h:StB w gs tab) {k:Nat} {s lo:List UInt8} (hk:tab[k]?=some (some (s,lo))):
  ∃a1 c1 a2 c2,w.cell? ⟨gs,k*3,none⟩=some (.bool true)∧w.cell? ⟨gs,k*3+1,none⟩=some (.slice a1 s.length c1)∧w.cell? ⟨gs,k*3+2,none⟩=some (.slice a2 lo.length c2)∧BtB w 0 (.slice a1 s.length c1) s∧BtB w 0 (.slice a2 lo.length c2) lo:=by
 obtain⟨l,hs,hm,hf⟩:=h;rw[←hm,List.getElem?_map]at hk;obtain⟨x,hx,a0⟩:=Option.map_eq_some_iff.1 hk;obtain⟨h1,h2⟩:=hf x (List.mem_of_getElem? hx) s lo a0;obtain⟨a1,c1,e1⟩:=aw h1;obtain⟨a2,c2,e2⟩:=aw h2;have hc:stC x=[.bool true,x.2.1,x.2.2]:=by unfold stC;rw[a0]
 rw[e1]at h1;rw[e2]at h2;refine⟨a1,c1,a2,c2,?_,?_,?_,h1,h2⟩
 ·rw[cell_of_row w gs (k*3) _ _ (0,0) hs];have:=bZ (k:=0) hx (by omega);rw[hc]at this;simpa using this
 ·rw[cell_of_row w gs (k*3+1) _ _ (0,0) hs];have:=bZ (k:=1) hx (by omega);rw[hc,e1]at this;simpa using this
 ·rw[cell_of_row w gs (k*3+2) _ _ (0,0) hs];have:=bZ (k:=2) hx (by omega);rw[hc,e2]at this;simpa using this
theorem StB.unk {w:World} {gs:Nat} {tab:List St} (h:StB w gs tab) {k:Nat} (hk:tab[k]?= .some .none):
  w.cell? ⟨gs,k*3,none⟩= .some (.bool false)∧w.cell? ⟨gs,k*3+1,none⟩= .some (.slice none 0 0)∧w.cell? ⟨gs,k*3+2,none⟩= .some (.slice none 0 0):=by
 obtain⟨l,hs,hm,hf⟩:=h;rw[←hm,List.getElem?_map]at hk;obtain⟨x,hx,a0⟩:=Option.map_eq_some_iff.1 hk;have hc:stC x=[.bool false,.slice none 0 0,.slice none 0 0]:=by unfold stC;rw[a0]
 refine⟨?_,?_,?_⟩
 ·rw[cell_of_row w gs (k*3) _ _ (0,0) hs];have:=bZ (k:=0) hx (by omega);rw[hc]at this;simpa using this
 ·rw[cell_of_row w gs (k*3+1) _ _ (0,0) hs];have:=bZ (k:=1) hx (by omega);rw[hc]at this;simpa using this
 ·rw[cell_of_row w gs (k*3+2) _ _ (0,0) hs];have:=bZ (k:=2) hx (by omega);rw[hc]at this;simpa using this
theorem iM (W:World) (n:Int) (c:UInt8) (hc:(c.toNat:Int)=n) (g:Nat) (hg:W.heap.size=g):BtB (W.alloc (.cells #[.int .u8 n] 5)) 0 (.slice (some ⟨g,0,none⟩) 1 1) [c]:=by
 subst hg;have h:=BtB.lit W 0 (Nat.zero_le _) [c] (by simp);simp only[aM,List.map_cons,List.map_nil,List.length_singleton,hc]at h;exact h
theorem tY (gA:Nat) (t:List St) (w:World) (hA:StB w gA t) (ht:m6 t):
  Calls Tryz.prog 37 #[.agg #[.slice (some ⟨gA,0,none⟩) t.length t.length]] w fun en w'=>en= .returned (.string ⟨(dl t).toArray⟩)∧But (fun _=>False) w w':=by
 have hl:=ht.1;have h1:=heap_alloc_new w (.cells #[.slice (some ⟨gA,0,none⟩) t.length t.length] 65);have h9:But (fun _=>False) w (w.alloc (.cells #[.slice (some ⟨gA,0,none⟩) t.length t.length] 65)):=But.alloc _ _ _
 go_in
 go_wp2_with fail;have hE:=BtB.empty (w.alloc (.cells #[.slice (some ⟨gA,0,none⟩) t.length t.length] 65));have f7:=(But.alloc (fun _=>False) (w.alloc (.cells #[.slice (some ⟨gA,0,none⟩) t.length t.length] 65)) (.cells #[] 5)).block w.heap.size (ae h1) (fun h=>h);have g6:=h9.trans (But.alloc (fun _=>False) (w.alloc (.cells #[.slice (some ⟨gA,0,none⟩) t.length t.length] 65)) (.cells #[] 5));rw[h1]at f7;have i9:((w.alloc (.cells #[.slice (some ⟨gA,0,none⟩) t.length t.length] 65))).heap.size=w.heap.size+1:=by simp
 rw[i9]at hE;revert hE f7 g6;generalize ((w.alloc (.cells #[.slice (some ⟨gA,0,none⟩) t.length t.length] 65)).alloc (.cells #[] 5))=W;intro hE f7 g6;clear h1 h9 i9
 go_loopg [3,4] t.length (fun mm ss ks wr=> ∃(k:Nat) (ao:Option Addr) (cap:Nat) (s:List UInt8),ss= .slice ao s.length cap∧BtB wr (w.heap.size+1) (.slice ao s.length cap) s∧s.length≤200*k∧ks= .int .i64 k∧k≤t.length∧k+mm≤t.length∧t.length≤k+mm∧But (fun _=>False) w wr∧wr.heap[w.heap.size]?=some (.cells #[.slice (some ⟨gA,0,none⟩) t.length t.length] 65)∧Hid ((t.take k).flatMap pZ=s))
 case atStart=>exact⟨0,_,0,[],rfl,hE,by simp,rfl,by omega,by omega,by omega,g6,f7,rfl⟩
 case round=>
  obtain⟨k,ao,cap,s,rfl,hO,n1,rfl,m4,k0,m5,a9,f8,HA⟩:=hrel;clear k0;have i2:=hA.off a9 (fun h=>h) (fun _ _ _ h=>h);have i5:=ae f8;have l5:=a9.size;have c0:=ce0 f8
  by_cases hlt:k<t.length
  ·have k9:(k:Int)<(t.length:Int):=by omega
   obtain⟨o,ho⟩: ∃o,t[k]=o:=⟨_,rfl⟩;have a4:=List.getElem?_eq_getElem hlt;rw[ho]at a4;have alt:gA<wr.heap.size:=by obtain⟨l,h,_⟩:=i2;exact ae h
   have HT:Hid ((t.take (k+1)).flatMap pZ=s++pZ o):=by
    show _=_
    rw[List.take_add_one,a4,List.flatMap_append,HA.out];simp
   cases o with
   |none=>
    obtain⟨q0,q1,q2⟩:=i2.unk a4;clear a4 ho HA;have b9:But (fun _=>False) wr (wr.alloc (.cells #[.bool false,.slice none 0 0,.slice none 0 0] 117)):=But.alloc _ _ _;have b1:=(hO.but b9 (fun _ _ h=>h)).but (But.alloc (fun _=>False) _ (.cells #[.int .u8 63] 5)) (fun _ _ h=>h);have e7:=iM (wr.alloc (.cells #[.bool false,.slice none 0 0,.slice none 0 0] 117)) 63 63 rfl (wr.heap.size+1) (by simp);have b2:=aA hO;have e9:=aW hO;obtain⟨S2,a7⟩: ∃S2,s++ [63]=S2:=⟨_,rfl⟩;have f1:S2.length≤200*k+1:=by rw[←a7];simp;omega
    have b3:=hid a7;clear a7;go_wp2_with (at_builtin;refine bk rfl _ _ rfl (w.heap.size+1) 0 _ _ s [63] S2 b3 rfl rfl b1 e7 (by omega) (by simp;omega) ?_);intro g0 b4 w2 c6 a6 _;have a3:But (fun k'=>(Value.slice ao s.length cap).ownBlock=some k') wr w2:=((But.alloc _ _ _).trans (But.alloc _ _ _)).trans a6;have g4:But (fun _=>False) w w2:=a9.next a3 (fun k' hk' h=>absurd (b2 k' h) (by omega));have e3:=(a3.block w.heap.size i5 (fun h=>by have:=b2 _ h;omega)).trans f8;have l6:=a3.size;clear b9 b1 e7 a6 q0 q1 q2;have e8:=iM w2 44 44 rfl w2.heap.size rfl;have e2:=c6.but (But.alloc (fun _=>False) _ (.cells #[.int .u8 44] 5)) (fun _ _ h=>h)
    have a5:=aA c6;obtain⟨S3,b6⟩: ∃S3,S2++ [44]=S3:=⟨_,rfl⟩;have h4:S3.length≤200*k+2:=by rw[←b6];simp;omega
    have e0:=hid b6;clear b6;go_wp2_with (at_builtin;refine bk rfl _ _ rfl (w.heap.size+1) 0 _ _ S2 [44] S3 e0 rfl rfl e2 e8 (by omega) (by simp;omega) ?_);intro g1 b5 w3 d6 a8 _;have a0:But (fun k'=>(Value.slice g0 S2.length b4).ownBlock=some k') w2 w3:=(But.alloc _ _ _).trans a8;have a6:But (fun _=>False) w w3:=g4.next a0 (fun k' hk' h=>absurd (a5 k' h) (by omega));have f6:=(a0.block w.heap.size (ae e3) (fun h=>by have:=a5 _ h;omega)).trans e3;clear e8 e2 a8;go_wp2_with fail
    go_roundg (t.length-(k+1))
    case measure=>omega
    case rel=>exact⟨k+1,g1,b5,S3,rfl,d6,by omega,by simp,by omega,by omega,by omega,a6,f6,hid (by rw[HT.out,←e0.out,←b3.out];simp[pZ])⟩
   |some st=>
    obtain⟨st,lo⟩:=st;have n0:=ht.2 k st lo a4;obtain⟨a1,c1,a2,c2,z0,z1,z2,f4,f5⟩:=hA.known a4;have altw:gA<w.heap.size:=by obtain⟨l,h,_⟩:=hA;exact ae h
    have q0:=a9.kc z0 altw;have q1:=a9.kc z1 altw;have q2:=a9.kc z2 altw;have l4:=f4.but a9 (fun _ _ h=>h);have i7:=f5.but a9 (fun _ _ h=>h);have f0:=aW f5;clear z0 z1 z2 f4;clear a4 ho HA;have b9:But (fun _=>False) wr (wr.alloc (.cells #[.bool true,.slice a1 st.length c1,.slice a2 lo.length c2] 117)):=But.alloc _ _ _;have i4:=heap_alloc_new wr (.cells #[.bool true,.slice a1 st.length c1,.slice a2 lo.length c2] 117);have b1:=hO.but b9 (fun _ _ h=>h);have f3:=l4.but b9 (fun _ _ h=>h);have h5:=i7.but b9 (fun _ _ h=>h);have b2:=aA hO;have e9:=aW hO;obtain⟨S2,a7⟩: ∃S2,s++st=S2:=⟨_,rfl⟩;have f1:S2.length≤200*k+100:=by rw[←a7];simp;omega
    have b3:=hid a7;clear a7;go_wp2_with (at_builtin;refine bk rfl _ _ rfl (w.heap.size+1) 0 _ _ s st S2 b3 rfl rfl b1 f3 (by omega) (by simp;omega) ?_);intro g0 b4 w2 c6 a6 _;have a3:But (fun k'=>(Value.slice ao s.length cap).ownBlock=some k') wr w2:=(But.alloc _ _ _).trans a6;have g4:But (fun _=>False) w w2:=a9.next a3 (fun k' hk' h=>absurd (b2 k' h) (by omega));have e3:=(a3.block w.heap.size i5 (fun h=>by have:=b2 _ h;omega)).trans f8;have b0:=(a6.block wr.heap.size (ae i4) (fun h=>by have:=e9 _ h;omega)).trans i4;have h2:BtB w2 0 (.slice a2 lo.length c2) lo:=i7.but a3 (fun g hg h=>by have:=f0 g hg;have:=b2 g h;omega)
    obtain⟨m0,m1,m2⟩:=fm b0;have l6:=a3.size;clear b1 a6 q0 q1 q2 f3 h5;have e8:=iM w2 124 124 rfl w2.heap.size rfl;have e2:=c6.but (But.alloc (fun _=>False) _ (.cells #[.int .u8 124] 5)) (fun _ _ h=>h);have a5:=aA c6;obtain⟨S3,b6⟩: ∃S3,S2++ [124]=S3:=⟨_,rfl⟩;have h4:S3.length≤200*k+101:=by rw[←b6];simp;omega
    have e0:=hid b6;clear b6;go_wp2_with (at_builtin;refine bk rfl _ _ rfl (w.heap.size+1) 0 _ _ S2 [124] S3 e0 rfl rfl e2 e8 (by omega) (by simp;omega) ?_);intro g1 b5 w3 d6 a8 _;have a0:But (fun k'=>(Value.slice g0 S2.length b4).ownBlock=some k') w2 w3:=(But.alloc _ _ _).trans a8;have a6:But (fun _=>False) w w3:=g4.next a0 (fun k' hk' h=>absurd (a5 k' h) (by omega));have f6:=(a0.block w.heap.size (ae e3) (fun h=>by have:=a5 _ h;omega)).trans e3;have e4:=(a0.block wr.heap.size (ae b0) (fun h=>et c6 b0 (by decide) h)).trans b0;have h3:BtB w3 0 (.slice a2 lo.length c2) lo:=h2.but a0 (fun g hg h=>by have:=f0 g hg;have:=a5 g h;omega)
    have n2:=a0.size;have e5:=aA d6;clear e8 e2 a8 m0 m1 m2;obtain⟨m0,m1,m2⟩:=fm e4;have j7:=ae e4;obtain⟨S4,g7⟩: ∃S4,S3++lo=S4:=⟨_,rfl⟩;have l0:S4.length≤200*k+106:=by rw[←g7];simp;omega
    have h6:=hid g7;clear g7;go_wp2_with (at_builtin;refine bk rfl _ _ rfl (w.heap.size+1) 0 _ _ S3 lo S4 h6 rfl rfl d6 h3 (by omega) (by omega) ?_);intro j1 g2 w4 i0 g5 _;have j3:But (fun _=>False) w w4:=a6.next g5 (fun k' hk' h=>absurd (e5 k' h) (by omega));have i3:=(g5.block w.heap.size (ae f6) (fun h=>by have:=e5 _ h;omega)).trans f6;have n3:=g5.size;have e6:=aA i0;clear m0 m1 m2;have i6:=iM w4 44 44 rfl w4.heap.size rfl;have i1:=i0.but (But.alloc (fun _=>False) _ (.cells #[.int .u8 44] 5)) (fun _ _ h=>h);obtain⟨S5,h0⟩: ∃S5,S4++ [44]=S5:=⟨_,rfl⟩;have l3:S5.length≤200*k+107:=by rw[←h0];simp;omega
    have h7:=hid h0;clear h0;go_wp2_with (at_builtin;refine bk rfl _ _ rfl (w.heap.size+1) 0 _ _ S4 [44] S5 h7 rfl rfl i1 i6 (by omega) (by simp;omega) ?_);intro j2 g3 w5 j4 h8 _;have e1:But (fun k'=>(Value.slice j1 S4.length g2).ownBlock=some k') w4 w5:=(But.alloc _ _ _).trans h8;have a8:But (fun _=>False) w w5:=j3.next e1 (fun k' hk' h=>absurd (e6 k' h) (by omega));have j5:=(e1.block w.heap.size (ae i3) (fun h=>by have:=e6 _ h;omega)).trans i3;clear i6 i1 h8;go_wp2_with fail
    go_roundg (t.length-(k+1))
    case measure=>omega
    case rel=>exact⟨k+1,j2,g3,S5,rfl,j4,by omega,by simp,by omega,by omega,by omega,a8,j5,hid (by rw[HT.out,←h7.out,←h6.out,←e0.out,←b3.out];simp[pZ])⟩
  ·have k9: ¬(k:Int)<(t.length:Int):=by omega
   have f2:dl t=s++ [59]:=by rw[dl,←HA.out,List.take_of_length_le (by omega)]
   obtain⟨S2,a7⟩: ∃S2,s++ [59]=S2:=⟨_,rfl⟩;have f1:S2.length≤200*k+1:=by rw[←a7];simp;omega
   have j0:=hid (f2.trans a7);have b3:=hid a7;clear f2 HA a7;have e7:=iM wr 59 59 rfl wr.heap.size rfl;have b1:=hO.but (But.alloc (fun _=>False) _ (.cells #[.int .u8 59] 5)) (fun _ _ h=>h);have b2:=aA hO;go_wp2_with (at_builtin;refine bk rfl _ _ rfl (w.heap.size+1) 0 _ _ s [59] S2 b3 rfl rfl b1 e7 (by omega) (by simp;omega) ?_);intro g1 b5 w3 d6 a8 _;have a0:But (fun k'=>(Value.slice ao s.length cap).ownBlock=some k') wr w3:=(But.alloc _ _ _).trans a8;have a6:But (fun _=>False) w w3:=a9.next a0 (fun k' hk' h=>absurd (b2 k' h) (by omega));have m3:=fo d6;clear e7 b1 a8;go_wp2_with fail;exact b8 (.string ⟨S2.toArray⟩) Tryz.results37 rfl rfl ⟨by rw[j0.out],a6⟩
section
variable {cs:List Cls} {tab:List St} {wt:List Bool} {j:Nat} {sb lb sa la:List UInt8}
theorem A3 (h:tab.length≤j):aU cs (tab,wt,false) j sb lb=(tab,wt,true):=by
 have:bS cs (tab,false,false) (j:Int) sb lb=(tab,false,true):=by
  unfold bS;rw[if_neg (by simp),if_pos (by simp;omega)]
 unfold aU;simp only;rw[this];simp
theorem yq (h:tab[j]?=some none):aU cs (tab,wt,false) j sb lb=(tab.set j (some (sb,lb)),wt.set j true,false):=by
 have hj:=(List.getElem?_eq_some_iff.1 h).1
 have:bS cs (tab,false,false) (j:Int) sb lb=(tab.set j (some (sb,lb)),true,false):=by
  unfold bS;rw[if_neg (by simp),if_neg (by simp;omega)];simp[List.getD,h,fx]
 unfold aU;simp only;rw[this];simp
theorem A4 (h:tab[j]?=some (some (sa,la))) (hl:sa.length≠sb.length):aU cs (tab,wt,false) j sb lb=(tab,wt,true):=by
 have hj:=(List.getElem?_eq_some_iff.1 h).1
 have:bS cs (tab,false,false) (j:Int) sb lb=(tab,false,true):=by
  unfold bS;rw[if_neg (by simp),if_neg (by simp;omega)];simp[List.getD,h,fx,hl]
 unfold aU;simp only;rw[this];simp
theorem zV (h:tab[j]?=some (some (sa,la))) (hl:sa.length=sb.length) (h1:dh cs sa sb=sa) (h2:dh cs la lb=la):aU cs (tab,wt,false) j sb lb=(tab,wt,false):=by
 have hj:=(List.getElem?_eq_some_iff.1 h).1
 have:bS cs (tab,false,false) (j:Int) sb lb=(tab,false,false):=by
  unfold bS;rw[if_neg (by simp),if_neg (by simp;omega)];simp[List.getD,h,fx,hl,h1,h2]
 unfold aU;simp only;rw[this];simp
theorem yr (h:tab[j]?=some (some (sa,la))) (hl:sa.length=sb.length) (h1: ¬(dh cs sa sb=sa∧dh cs la lb=la)):aU cs (tab,wt,false) j sb lb=(tab.set j (some (dh cs sa sb,dh cs la lb)),wt.set j true,false):=by
 have hj:=(List.getElem?_eq_some_iff.1 h).1
 have:bS cs (tab,false,false) (j:Int) sb lb=(tab.set j (some (dh cs sa sb,dh cs la lb)),true,false):=by
  unfold bS;rw[if_neg (by simp),if_neg (by simp;omega)];simp[List.getD,h,fx,hl,h1]
 unfold aU;simp only;rw[this];simp
theorem nV (hw:WfC cs) (hn:cs.length≤4): ∀{a b:List UInt8},(∀c∈a,okT cs.length c=true)→(∀c∈b,okT cs.length c=true)→List.zipWith (fk (cs.map toX)) a b=dh cs a b:=by
 intro a
 induction a with
 |nil=>intro b _ _;simp[dh]
 |cons x a ih=>
  intro b ha hb
  cases b with
  |nil=>simp[dh]
  |cons y b=>
   simp only[dh,List.zipWith_cons_cons];rw[l7 hw hn (ha x (by simp)) (hb y (by simp))]
   congr 1
   exact ih (fun c h=>ha c (by simp[h])) (fun c h=>hb c (by simp[h]))
end
theorem kF (w0:World) (bb b gs gw:Nat) (c r:UInt8) (m:Nat) (vl vi:Value) (tab:List St) (wt:List Bool) (bad:Bool) (im:Img) (nl j:Nat) (aa al:Option Addr) (ca cl:Nat) (sb lb:List UInt8) (w:World) (hW:WfI im) (hnl:nl≤5) (htl:tab.length≤100)
  (hB:Bld w0 w bb b gs gw c r m vl vi tab wt bad) (hTX:TxC w0 b (im.classes.map toX)) (hwf:wfT im.classes.length nl tab.length tab) (hz:okZ im.classes.length nl sb lb) (hsl:sb.length≤101)
  (hs:BtB w 0 (.slice aa sb.length ca) sb) (hl:BtB w 0 (.slice al lb.length cl) lb):
  Calls Tryz.prog 105 #[.pointer (some ⟨bb,0,none⟩),.int .i64 j,xsV true (.slice aa sb.length ca) (.slice al lb.length cl)] w fun en w'=>en= .returned (.tuple #[])∧But (fun k=>k=bb∨k=gs∨k=gw) w w'∧
   Bld w0 w' bb b gs gw c r m vl vi (aU im.classes (tab,wt,false) j sb lb).1 (aU im.classes (tab,wt,false) j sb lb).2.1 (bad||(aU im.classes (tab,wt,false) j sb lb).2.2):=by
 have e3:But (fun _=>False) w (w.alloc (.cells #[.bool true,.slice aa sb.length ca,.slice al lb.length cl] 117)):=But.alloc _ _ _;have e1:=heap_alloc_new w (.cells #[.bool true,.slice aa sb.length ca,.slice al lb.length cl] 117);have b2:=hB.next e3;have f6:=hs.but e3 (fun _ _ h=>h);have f5:=hl.but e3 (fun _ _ h=>h);have n5:=hB.lt;have f4:=e3.mono (G:=fun k=>k=bb∨k=gs∨k=gw) (fun _ _ h=>h.elim);unfold xsV
 by_cases hj:j<tab.length
 ·have n2:(j:Int)<(tab.length:Int):=by omega
  have n1: ¬(j:Int)<0:=by omega
  obtain⟨o,ho⟩: ∃o,tab[j]?=some o:=⟨_,List.getElem?_eq_getElem hj⟩;have m4:=hid (fun(wx:World) (h:But (fun _=>False) w0 wx)=>hTX.but h);obtain⟨e7,e8⟩:=b2.wcell hj;have e4:=b2.sfz (j*3);have e5:=b2.sfz (j*3+1);have e6:=b2.sfz (j*3+2);obtain⟨c0,c6,c7,c8⟩:=b2.cells;obtain⟨k0,k1,k2⟩:=fm e1;have b4:=ae e1
  cases o with
  |none=>
   rw[yq ho];simp only[Bool.or_false];obtain⟨t0,t1,t2⟩:=b2.unk ho;have l5:lb.length≤1000:=by have:=hz.2.2;omega
   go_in
   go_wp2_with fail;revert e3 e1 b2 f6 f5 f4 e7 e8 e4 e5 e6 c0 c6 c7 c8 k0 k1 k2 b4 t0 t1 t2;generalize (w.alloc (.cells #[.bool true,.slice aa sb.length ca,.slice al lb.length cl] 117))=W;intro e3 e1 b2 f6 f5 f4 e7 e8 e4 e5 e6 c0 c6 c7 c8 k0 k1 k2 b4 t0 t1 t2;have a8:=b2.lt;have a9:But (fun _=>False) W W.drew:=But.drew _ _;have j3:=hid (ml 0 true aa al ca cl sb lb W.drew (f6.but a9 (fun _ _ h=>h)) (f5.but a9 (fun _ _ h=>h)) (by omega) l5);unfold xsV at j3;refine aD (But (fun _=>False) W) 7 (by kernel_rfl) ?_
   iterate 6 (refine aJ (v:=?_) rfl (by kernel_rfl) (fun _ _ _ h=>h) rfl a9 ?_ ?_;rotate_left;(focus (intro wS h;have q0:=(h.kc c6 a8.1);have q1:=(h.kc k0 b4);have q2:=(h.kc k1 b4);have q3:=(h.kc k2 b4);clear h;go_simp;try rfl));dsimp only[Act.put];try simp only[aK])
   refine ag rfl (by kernel_rfl) ?_;intro KS hKS;go_simp;refine j3.out.mono ?_;rintro en w2 ⟨j0,a1,c1,a2,c2,G2,rfl,l6,j1,_,_,_⟩;clear j3;have b1:=a9.trans j0;refine hKS.out _ _ (fun _=>b1) ?_;clear hKS KS;have b3:=b2.next b1;have g1:But (fun k=>k=bb∨k=gs∨k=gw) w w2:=f4.next b1 (fun _ _ h=>h.elim);clear e7 e8 e4 e5 e6 c0 c6 c7 c8 k0 k1 k2 t0 t1 t2;obtain⟨t0,t1,t2⟩:=b3.unk ho;have e4:=b3.sfz (j*3);have e5:=b3.sfz (j*3+1);have e6:=b3.sfz (j*3+2);have a0:=b3.lay hj (v1:= .slice a1 sb.length c1) (v2:= .slice a2 lb.length c2) (World.ownsRow.mono l6 (Nat.zero_le _)) (World.ownsRow.mono j1 (Nat.zero_le _))
   have i6:But (fun k=>k=bb∨k=gs∨k=gw) w2 (((w2.setCell ⟨gs,j*3,none⟩ (.bool true)).setCell ⟨gs,j*3+1,none⟩ (.slice a1 sb.length c1)).setCell ⟨gs,j*3+2,none⟩ (.slice a2 lb.length c2)):=(((But.setB w2 gs _ _).trans (But.setB _ gs _ _)).trans (But.setB _ gs _ _)).mono (fun k _ h=>Or.inr (Or.inl h));have h3:=hid a0;have h1:=hid i6;clear a0 i6 b2 e1 hB e3;refine ag rfl (by kernel_rfl) ?_;intro KS hKS;go_simp;refine hKS.out _ _ nofun ?_;clear hKS KS;refine ag rfl (by kernel_rfl) ?_;intro KS hKS;go_simp;refine hKS.out _ _ nofun ?_;clear hKS KS;refine aH rfl (by kernel_rfl) ?_;revert h3 h1;generalize (((w2.setCell ⟨gs,j*3,none⟩ (.bool true)).setCell ⟨gs,j*3+1,none⟩ (.slice a1 sb.length c1)).setCell ⟨gs,j*3+2,none⟩ (.slice a2 lb.length c2))=w3
   intro h3 h1;have a0:=h3.out;clear t0 t1 t2 e4 e5 e6;obtain⟨c0,c6,c7,c8⟩:=a0.cells;obtain⟨e7,e8⟩:=a0.wcell (k:=j) (by rw[List.length_set];exact hj);rw[List.length_set]at c6 c7;have b6:=a0.wait j true;have j2:=hid b6;clear b6 a0;go_wp2_with fail;exact s8 Tryz.results105 rfl ⟨rfl,(g1.trans h1.out).trans ((But.setB _ _ _ _).mono (fun k _ h=>Or.inr (Or.inr h))),j2.out⟩
  |some o=>
   obtain⟨sa,la⟩:=o;obtain⟨m3,m0⟩:=hwf.2 j sa la ho;have n7:=mF tab;obtain⟨a3,c3,a4,c4,t0,t1,t2,h0,g6⟩:=b2.known ho
   by_cases hlen:sa.length=sb.length
   ·have l0:((sa.length:Int)==(sb.length:Int))=true:=by rw[hlen];simp
    have l3:((sa.length:Int)!=(sb.length:Int))=false:=by simp[bne,l0]
    have h9:(sa.length:Int)=(sb.length:Int):=by rw[hlen]
    have n0:=hid h9;have f7:=hid hlen;have n3:sa.length≤sb.length:=by omega
    have n4:sb.length≤sa.length:=by omega
    clear h9 hlen
    go_in
    go_wp2_with fail;revert e3 e1 b2 f6 f5 f4 e7 e8 e4 e5 e6 c0 c6 c7 c8 k0 k1 k2 b4 t0 t1 t2 h0 g6;generalize (w.alloc (.cells #[.bool true,.slice aa sb.length ca,.slice al lb.length cl] 117))=W;intro e3 e1 b2 f6 f5 f4 e7 e8 e4 e5 e6 c0 c6 c7 c8 k0 k1 k2 b4 t0 t1 t2 h0 g6;have a8:=b2.lt;have a9:But (fun _=>False) W W.drew:=But.drew _ _;refine aD (But (fun _=>False) W) 13 (by kernel_rfl) ?_
    iterate 13 (refine aJ (v:=?_) rfl (by kernel_rfl) (fun _ _ _ h=>h) rfl a9 ?_ ?_;rotate_left;(focus (intro wS h;have q0:=(h.kc c6 a8.1);have q1:=(h.kc t1 a8.2.1);have q2:=(h.kc k1 b4);clear h;go_simp;try rfl));dsimp only[Act.put];try simp only[aK])
    refine aH rfl (by kernel_rfl) ?_;have b0:=b2.next a9;have g7:=f6.but a9 (fun _ _ h=>h);have h8:=f5.but a9 (fun _ _ h=>h);have d6:=h0.but a9 (fun _ _ h=>h);have e0:=g6.but a9 (fun _ _ h=>h);have g5:=(a9.block w.heap.size b4 (fun h=>h)).trans e1;have b9:But (fun k=>k=bb∨k=gs∨k=gw) w W.drew:=f4.next a9 (fun _ _ h=>h.elim);have u0:=a9.kc t0 a8.2.1;have u1:=a9.kc t1 a8.2.1;have u2:=a9.kc t2 a8.2.1;clear e7 e8 e4 e5 e6 c0 c6 c7 c8 k0 k1 k2 t0 t1 t2 h0 g6 b2 f6 f5 e1 e3 f4 b4 a8 hB;revert b0 g7 h8 d6 e0 g5 b9 u0 u1 u2;generalize W.drew=w1;intro b0 g7 h8 d6 e0 g5 b9 t0 t1 t2;clear a9;obtain⟨c0,c6,c7,c8⟩:=b0.cells
    obtain⟨k0,k1,k2⟩:=fm g5;have b4:=ae g5;have a7:=b0.lt;go_wp2_with fail;have i2:But (fun _=>False) w1 w1.drew:=But.drew _ _;have i1:=j9 b (im.classes.map toX) a3 aa c3 ca sa sb w1.drew (by rw[List.length_map];have:=hW.nc;omega) (m4.out _ (b0.but.trans i2)) (d6.but i2 (fun _ _ h=>h)) (g7.but i2 (fun _ _ h=>h)) f7.out (by omega);rw[nV hW.cls hW.nc m3.1 hz.1]at i1;have i4:=hid i1;clear i1;refine aD (But (fun _=>False) w1) 15 (by kernel_rfl) ?_
    iterate 14 (refine aJ (v:=?_) rfl (by kernel_rfl) (fun _ _ _ h=>h) rfl i2 ?_ ?_;rotate_left;(focus (intro wS h;have q0:=(h.kc c0 a7.1);have q1:=(h.kc c6 a7.1);have q2:=(h.kc t1 a7.2.1);have q3:=(h.kc k1 b4);clear h;go_simp;try rfl));dsimp only[Act.put];try simp only[aK])
    refine ag rfl (by kernel_rfl) ?_;intro KS hKS;go_simp;refine i4.out.mono ?_;rintro en w2 ⟨j0,v5,rfl,j5⟩;obtain⟨a5,c5,n8⟩:=aw j5;subst n8;have b1:=i2.trans j0;refine hKS.out _ _ (fun _=>b1) ?_;clear hKS KS i4;refine ag rfl (by kernel_rfl) ?_;intro KS hKS;go_simp;refine hKS.out _ _ nofun ?_;clear hKS KS;refine aH rfl (by kernel_rfl) ?_;have b3:=b0.next b1;have l6:=g7.but b1 (fun _ _ h=>h);have j1:=h8.but b1 (fun _ _ h=>h);have i7:=d6.but b1 (fun _ _ h=>h);have i0:=e0.but b1 (fun _ _ h=>h);have k9:=(b1.block w.heap.size b4 (fun h=>h)).trans g5;have g1:But (fun k=>k=bb∨k=gs∨k=gw) w w2:=b9.next b1 (fun _ _ h=>h.elim)
    have h6:BtB w2 0 (.slice a5 (dh im.classes sa sb).length c5) (dh im.classes sa sb):=World.ownsRow.mono j5 (Nat.zero_le _);have u0:=b1.kc t0 a7.2.1;have u1:=b1.kc t1 a7.2.1;have u2:=b1.kc t2 a7.2.1;clear c0 c6 c7 c8 k0 k1 k2 t0 t1 t2 b0 g7 h8 d6 e0 g5 b9 b4 a7 b1 j0 i2 j5;obtain⟨c0,c6,c7,c8⟩:=b3.cells;obtain⟨k0,k1,k2⟩:=fm k9;have b4:=ae k9;have a7:=b3.lt;have t0:=u0;have t1:=u1;have t2:=u2;clear u0 u1 u2;obtain⟨M1,g2⟩: ∃M1,dh im.classes sa sb=M1:=⟨_,rfl⟩;rw[g2]at h6;rw[g2];have e9:=hid g2;clear g2;go_wp2_with fail;have i3:But (fun _=>False) w2 w2.drew:=But.drew _ _;have i1:=j9 b (im.classes.map toX) a4 al c4 cl la lb w2.drew (by rw[List.length_map];have:=hW.nc;omega) (m4.out _ (b3.but.trans i3)) (i0.but i3 (fun _ _ h=>h)) (j1.but i3 (fun _ _ h=>h)) (by rw[m3.2.2,hz.2.2]) (by have:=hz.2.2;omega)
    rw[nV hW.cls hW.nc m3.2.1 hz.2.1]at i1;have i4:=hid i1;clear i1;refine aD (But (fun _=>False) w2) 15 (by kernel_rfl) ?_
    iterate 14 (refine aJ (v:=?_) rfl (by kernel_rfl) (fun _ _ _ h=>h) rfl i3 ?_ ?_;rotate_left;(focus (intro wS h;have q0:=(h.kc c0 a7.1);have q1:=(h.kc c6 a7.1);have q2:=(h.kc t2 a7.2.1);have q3:=(h.kc k2 b4);clear h;go_simp;try rfl));dsimp only[Act.put];try simp only[aK])
    refine ag rfl (by kernel_rfl) ?_;intro KS hKS;go_simp;refine i4.out.mono ?_;rintro en w3 ⟨m5,v6,rfl,j7⟩;obtain⟨a6,i9,n9⟩:=aw j7;subst n9;have b1:=i3.trans m5;refine hKS.out _ _ (fun _=>b1) ?_;clear hKS KS i4;refine ag rfl (by kernel_rfl) ?_;intro KS hKS;go_simp;refine hKS.out _ _ nofun ?_;clear hKS KS;refine aH rfl (by kernel_rfl) ?_;have a0:=b3.next b1;have m1:=i7.but b1 (fun _ _ h=>h);have l4:=i0.but b1 (fun _ _ h=>h);have h7:=h6.but b1 (fun _ _ h=>h);have h5:But (fun k=>k=bb∨k=gs∨k=gw) w w3:=g1.next b1 (fun _ _ h=>h.elim);have g3:BtB w3 0 (.slice a6 (dh im.classes la lb).length i9) (dh im.classes la lb):=World.ownsRow.mono j7 (Nat.zero_le _)
    have u0:=b1.kc t0 a7.2.1;have u1:=b1.kc t1 a7.2.1;have u2:=b1.kc t2 a7.2.1;clear c0 c6 c7 c8 k0 k1 k2 t0 t1 t2 b3 l6 j1 i7 i0 k9 g1 b4 a7 b1 m5 i3 j7 h6;obtain⟨c0,c6,c7,c8⟩:=a0.cells;have a7:=a0.lt;have t0:=u0;have t1:=u1;have t2:=u2;clear u0 u1 u2;obtain⟨M2,g4⟩: ∃M2,dh im.classes la lb=M2:=⟨_,rfl⟩;rw[g4]at g3;rw[g4];have f0:=hid g4;clear g4;have f1:=hid (pr a5 a3 c5 c3 M1 sa w3 h7 m1);have g0:=hid (pr a6 a4 i9 c4 M2 la w3 g3 l4)
    by_cases hq1:M1=sa
    ·rw[show decide (M1=sa)=true from by simp[hq1]]at f1
     by_cases hq2:M2=la
     ·rw[show decide (M2=la)=true from by simp[hq2]]at g0;have b5:=zV (cs:=im.classes) (wt:=wt) (lb:=lb) ho f7.out (by rw[e9.out,hq1]) (by rw[f0.out,hq2]);have i5:=hid b5;clear b5 hq1 hq2;go_wp2_with fail;refine f1.out.mono ?_;rintro en wx ⟨rfl,e2⟩;rw[e2];clear e2 wx;go_wp2_with fail;refine g0.out.mono ?_;rintro en wx ⟨rfl,e2⟩;rw[e2];clear e2 wx;go_wp2_with fail;exact s8 Tryz.results105 rfl ⟨rfl,h5,by rw[i5.out];simpa using a0⟩
     ·rw[show decide (M2=la)=false from by simp[hq2]]at g0;have j4:Hid (¬(M1=sa∧M2=la)):=hid (fun h=>hq2 h.2);clear hq1 hq2;have b5:=yr (cs:=im.classes) (wt:=wt) (lb:=lb) ho f7.out (fun h=>j4.out ⟨e9.out▸h.1,f0.out▸h.2⟩);rw[e9.out,f0.out]at b5;have i5:=hid b5;have e4:=a0.sfz (j*3);have e5:=a0.sfz (j*3+1);have e6:=a0.sfz (j*3+2);have b6:=a0.lay hj h7 g3;have f2:But (fun k=>k=bb∨k=gs∨k=gw) w3 (((w3.setCell ⟨gs,j*3,none⟩ (.bool true)).setCell ⟨gs,j*3+1,none⟩ (.slice a5 M1.length c5)).setCell ⟨gs,j*3+2,none⟩ (.slice a6 M2.length i9)):=(((But.setB w3 gs _ _).trans (But.setB _ gs _ _)).trans (But.setB _ gs _ _)).mono (fun k _ h=>Or.inr (Or.inl h))
      have m2:=a0.wcell hj;have n6:=a0.ne;have f3:=b6.wait j true;have h4:=hid f3;have h2:=hid f2;obtain⟨e7,e8⟩:=m2;clear b5 b6 f2 f3 a0;go_wp2_with fail;refine f1.out.mono ?_;rintro en wx ⟨rfl,e2⟩;rw[e2];clear e2 wx;go_wp2_with fail;refine g0.out.mono ?_;rintro en wx ⟨rfl,e2⟩;rw[e2];clear e2 wx;go_wp2_with fail;go_end0;refine⟨rfl,(h5.trans h2.out).trans ((But.setB _ _ _ _).mono (fun k _ h=>Or.inr (Or.inr h))),?_⟩;rw[i5.out];simpa using h4.out
    ·rw[show decide (M1=sa)=false from by simp[hq1]]at f1;have j4:Hid (¬(M1=sa∧M2=la)):=hid (fun h=>hq1 h.1);clear hq1;have b5:=yr (cs:=im.classes) (wt:=wt) (lb:=lb) ho f7.out (fun h=>j4.out ⟨e9.out▸h.1,f0.out▸h.2⟩);rw[e9.out,f0.out]at b5;have i5:=hid b5;have e4:=a0.sfz (j*3);have e5:=a0.sfz (j*3+1);have e6:=a0.sfz (j*3+2);have b6:=a0.lay hj h7 g3;have f2:But (fun k=>k=bb∨k=gs∨k=gw) w3 (((w3.setCell ⟨gs,j*3,none⟩ (.bool true)).setCell ⟨gs,j*3+1,none⟩ (.slice a5 M1.length c5)).setCell ⟨gs,j*3+2,none⟩ (.slice a6 M2.length i9)):=(((But.setB w3 gs _ _).trans (But.setB _ gs _ _)).trans (But.setB _ gs _ _)).mono (fun k _ h=>Or.inr (Or.inl h))
     have m2:=a0.wcell hj;have n6:=a0.ne;have f3:=b6.wait j true;have h4:=hid f3;have h2:=hid f2;obtain⟨e7,e8⟩:=m2;clear b5 b6 f2 f3 a0;go_wp2_with fail;refine f1.out.mono ?_;rintro en wx ⟨rfl,e2⟩;rw[e2];clear e2 wx;go_wp2_with fail;go_end0;refine⟨rfl,(h5.trans h2.out).trans ((But.setB _ _ _ _).mono (fun k _ h=>Or.inr (Or.inr h))),?_⟩;rw[i5.out];simpa using h4.out
   ·rw[A4 ho hlen];simp only[Bool.or_true];have l0:((sa.length:Int)==(sb.length:Int))=false:=by rw[beq_eq_false_iff_ne];omega
    have l3:((sa.length:Int)!=(sb.length:Int))=true:=by simp[bne,l0]
    have h9: ¬(sa.length:Int)=(sb.length:Int):=by omega
    go_in
    go_wp2_with fail;revert e3 e1 b2 f6 f5 f4 e7 e8 e4 e5 e6 c0 c6 c7 c8 k0 k1 k2 b4 t0 t1 t2 h0 g6;generalize (w.alloc (.cells #[.bool true,.slice aa sb.length ca,.slice al lb.length cl] 117))=W;intro e3 e1 b2 f6 f5 f4 e7 e8 e4 e5 e6 c0 c6 c7 c8 k0 k1 k2 b4 t0 t1 t2 h0 g6;have a8:=b2.lt;have a9:But (fun _=>False) W W.drew:=But.drew _ _;refine aD (But (fun _=>False) W) 13 (by kernel_rfl) ?_
    iterate 13 (refine aJ (v:=?_) rfl (by kernel_rfl) (fun _ _ _ h=>h) rfl a9 ?_ ?_;rotate_left;(focus (intro wS h;have q0:=(h.kc c6 a8.1);have q1:=(h.kc t1 a8.2.1);have q2:=(h.kc k1 b4);clear h;go_simp;try rfl));dsimp only[Act.put];try simp only[aK])
    refine aH rfl (by kernel_rfl) ?_;have b0:=b2.next a9;have g7:=f6.but a9 (fun _ _ h=>h);have h8:=f5.but a9 (fun _ _ h=>h);have d6:=h0.but a9 (fun _ _ h=>h);have e0:=g6.but a9 (fun _ _ h=>h);have g5:=(a9.block w.heap.size b4 (fun h=>h)).trans e1;have b9:But (fun k=>k=bb∨k=gs∨k=gw) w W.drew:=f4.next a9 (fun _ _ h=>h.elim);have u0:=a9.kc t0 a8.2.1;have u1:=a9.kc t1 a8.2.1;have u2:=a9.kc t2 a8.2.1;clear e7 e8 e4 e5 e6 c0 c6 c7 c8 k0 k1 k2 t0 t1 t2 h0 g6 b2 f6 f5 e1 e3 f4 b4 a8 hB;revert b0 g7 h8 d6 e0 g5 b9 u0 u1 u2;generalize W.drew=w1;intro b0 g7 h8 d6 e0 g5 b9 t0 t1 t2;clear a9;obtain⟨c0,c6,c7,c8⟩:=b0.cells
    have f8:=b0.fz 8;go_wp2_with fail;exact s8 Tryz.results105 rfl ⟨rfl,b9.trans ((But.setB _ _ _ _).mono (fun k _ h=>Or.inl h)),b0.fail⟩
 ·have n2: ¬(j:Int)<(tab.length:Int):=by omega
  have n1: ¬(j:Int)<0:=by omega
  rw[A3 (by omega)];simp only[Bool.or_true];obtain⟨c0,c6,c7,c8⟩:=b2.cells;have f8:=b2.fz 8;have o0:=hid b2;have HB:=hid hB;clear e1 hB
  go_in
  go_wp2_with fail;exact s8 Tryz.results105 rfl ⟨rfl,((But.setB _ _ _ _).mono (fun k _ h=>Or.inl h)).trans (But.alloc _ _ _),HB.out.fail.next (But.alloc _ _ _)⟩
end
end Go.Proofs.YtpfkkmacakjmbaaGreatDoor
