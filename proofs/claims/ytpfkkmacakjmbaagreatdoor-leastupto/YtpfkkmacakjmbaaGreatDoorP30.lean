import Derived.Test.YtpfkkmacakjmbaaGreatDoorP29
import Derived.Test.YtpfkkmacakjmbaaGreatDoorP06
import Derived.Test.YtpfkkmacakjmbaaGreatDoorP12
set_option maxRecDepth 100000
set_option maxHeartbeats 6400000
set_option linter.unusedSimpArgs false
set_option linter.unusedVariables false
namespace Go.Proofs.YtpfkkmacakjmbaaGreatDoor
section
open Go Go.RowKit Sp
section
variable {im:Img} {bd:Bod} {x:Ins}
theorem jI {c:UInt8} (h:bZ.contains c.toNat=true):c=107∨c=114∨c=119∨c=108∨c=115∨c=43∨c=45∨c=42∨c=47∨c=60∨c=61∨c=101∨c=110∨c=122∨c=103∨c=112∨c=99∨c=120∨c=100∨c=106∨c=102∨c=116:=by
 have h1:c.toNat∈bZ:=List.elem_iff.1 h;simp only[bZ,List.mem_cons,List.not_mem_nil,or_false]at h1;have e: ∀n:Nat,n<256→c.toNat=n→c=UInt8.ofNat n:=fun n hn h=>(u8n hn).1 h
 rcases h1 with h|h|h|h|h|h|h|h|h|h|h|h|h|h|h|h|h|h|h|h|h|h<;>(have:=e _ (by decide) h;simp at this;simp[this])
theorem uh (hW:WfI im) (ha:x.a<im.classes.length) (hb:x.b<bU im.classes x.a):bH (bX (im.classes.map toX) (UInt8.ofNat (65+x.a))) x.b=bT im.classes x.a x.b:=by
 obtain⟨hl,hk⟩:=xH ha hW.nc;have hv:(UInt8.ofNat (65+x.a)).toNat-65=x.a:=by have:=hW.nc;simp;omega
 have a0:=iv (a:=0) hl;rw[hv]at a0;unfold bH;rw[if_pos (by rw[←a0];exact hb)];unfold bT bX;rw[List.length_map,if_pos hl,List.getElem?_map,hv]
 cases im.classes[x.a]?<;>rfl
theorem vF (hW:WfI im) (hbd:WfB im.classes im.sigs bd) (hx:WfX im.classes im.sigs.length bd.locals.length x):
  az (im.classes.map toX) im.sigs (bj x).op (bj x).cls (bj x).num (aW im.sigs bd).ans=bE im.classes im.sigs bd x:=by
 have e1:(bj x).op=x.op:=rfl;have e2:(bj x).num=x.b:=rfl;rw[e1,e2];have hc:=fun h=>mR (x:=x) h
 rcases jI hx.op with h|h|h|h|h|h|h|h|h|h|h|h|h|h|h|h|h|h|h|h|h|h
 ·have hn:x.op.toNat=107:=by rw[h];rfl
  simp[az,bE,bA,arith,hn]
 ·have hn:x.op.toNat=114:=by rw[h];rfl
  simp[az,bE,bA,arith,hn]
 ·have hn:x.op.toNat=119:=by rw[h];rfl
  simp[az,bE,bA,arith,hn]
 ·have hn:x.op.toNat=108:=by rw[h];rfl
  simp[az,bE,bA,arith,hn]
 ·have hn:x.op.toNat=115:=by rw[h];rfl
  simp[az,bE,bA,arith,hn]
 ·have hn:x.op.toNat=43:=by rw[h];rfl
  simp[az,bE,bA,arith,hn]
 ·have hn:x.op.toNat=45:=by rw[h];rfl
  simp[az,bE,bA,arith,hn]
 ·have hn:x.op.toNat=42:=by rw[h];rfl
  simp[az,bE,bA,arith,hn]
 ·have hn:x.op.toNat=47:=by rw[h];rfl
  simp[az,bE,bA,arith,hn]
 ·have hn:x.op.toNat=60:=by rw[h];rfl
  simp[az,bE,bA,arith,hn]
 ·have hn:x.op.toNat=61:=by rw[h];rfl
  simp[az,bE,bA,arith,hn]
 ·have hn:x.op.toNat=101:=by rw[h];rfl
  simp[az,bE,bA,arith,hn]
 ·have hn:x.op.toNat=110:=by rw[h];rfl
  simp[az,bE,bA,arith,hn]
 ·have hn:x.op.toNat=122:=by rw[h];rfl
  simp[az,bE,bA,arith,hn]
 ·have hn:x.op.toNat=103:=by rw[h];rfl
  rw[hc (by omega)];simp[az,bE,bA,arith,hn]
 ·have hn:x.op.toNat=112:=by rw[h];rfl
  have e3:=uh hW (hx.cls (by omega)) (hx.fld (by omega));rw[hc (by omega)];unfold b8;simp only[az,bE,bA,arith,hn,b8];simp only[e3];simp
 ·have hn:x.op.toNat=99:=by rw[h];rfl
  have e3:=kB (hx.sig hn);rw[hc (by omega)];simp[az,bE,bA,arith,hn,e3.1]
 ·have hn:x.op.toNat=120:=by rw[h];rfl
  simp[az,bE,bA,arith,hn]
 ·have hn:x.op.toNat=100:=by rw[h];rfl
  simp[az,bE,bA,arith,hn]
 ·have hn:x.op.toNat=106:=by rw[h];rfl
  simp[az,bE,bA,arith,hn]
 ·have hn:x.op.toNat=102:=by rw[h];rfl
  simp[az,bE,bA,arith,hn]
 ·have hn:x.op.toNat=116:=by rw[h];rfl
  by_cases hcl:bd.cls<0
  ·simp[az,bE,bA,arith,hn,aW,hcl]
  ·have e3:(cC im.sigs bd.meth.toNat).ret=dR im.sigs bd.meth.toNat:=by
    rcases hbd.cls with⟨h1,_⟩ | ⟨h1,h2,h3,h4⟩
    ·omega
    ·exact(kB (by omega)).2
   simp[az,bE,bA,arith,hn,aW,hcl,e3]
theorem vG (hW:WfI im) {a c:UInt8} (ha:okT im.classes.length a=true) (hc:okT im.classes.length c=true∨c=38):bL (im.classes.map toX) a c=eK im.classes a c:=by
 unfold bL eK;rw[List.length_map]
 by_cases h:c.toNat=38
 ·rw[if_pos h,if_pos h];unfold isR;rw[ei hW.cls hW.nc ha]
 ·rw[if_neg h,if_neg h];rcases hc with hc|rfl
  ·exact fL hW.cls hW.nc ha hc
  ·exact absurd rfl h
theorem vH (hW:WfI im) (hbd:WfB im.classes im.sigs bd) (hx:WfX im.classes im.sigs.length bd.locals.length x): ∀c∈bE im.classes im.sigs bd x,okT im.classes.length c=true∨c=38:=by
 intro c hc;unfold bE at hc
 split at hc
 ·simp at hc;subst hc;left;simp[cR]
 split at hc
 ·simp at hc;right;exact hc
 split at hc
 ·simp at hc;right;exact hc
 ·left;exact qV hW hbd hx c hc
theorem rO (hW:WfI im) {st asked:List UInt8} (hs: ∀c∈st,okT im.classes.length c=true) (ha: ∀c∈asked,okT im.classes.length c=true∨c=38) (hl:asked.length≤st.length):
  gF (im.classes.map toX) st asked=iF im.classes st asked:=by
 unfold gF iF;rw[show decide (asked.length≤st.length)=true from by simp[hl],Bool.true_and,Bool.eq_iff_iff];simp only[List.all_eq_true,List.mem_range]
 have key: ∀i,i<asked.length→bL (im.classes.map toX) (st.getD (st.length-asked.length+i) 0) (asked.getD i 0)=eK im.classes (st.getD (st.length-asked.length+i) 0) (asked.getD i 0):=by
  intro i hi;refine vG hW (ki hs (by omega)) ?_;have:asked.getD i 0=asked[i]:=by simp[List.getD,hi]
  rw[this];exact ha _ (List.getElem_mem hi)
 exact⟨fun h i hi=>by rw[←key i hi];exact h i hi,fun h i hi=>by rw[key i hi];exact h i hi⟩
theorem rP (hW:WfI im) (hx:WfX im.classes im.sigs.length bd.locals.length x) {lo:List UInt8} (hl:lo.length=bd.locals.length) (hlo: ∀c∈lo,okT im.classes.length c=true):
  (if(aH (im.classes.map toX) im.sigs (bj x).op (bj x).cls (bj x).num lo).toNat=0 then []else [aH (im.classes.map toX) im.sigs (bj x).op (bj x).cls (bj x).num lo])=dc im.classes im.sigs x lo∧
  (x.op.toNat=108→aH (im.classes.map toX) im.sigs (bj x).op (bj x).cls (bj x).num lo=lo.getD x.b 0):=by
 have e1:(bj x).op=x.op:=rfl;have e2:(bj x).num=x.b:=rfl;rw[e1,e2];have a1: ∀c:UInt8,okT im.classes.length c=true→c.toNat≠0:=fun c h=>by rw[cR]at h;omega
 have a0:=qw hW hx;have hc:=fun h=>mR (x:=x) h
 rcases jI hx.op with h|h|h|h|h|h|h|h|h|h|h|h|h|h|h|h|h|h|h|h|h|h
 ·have hn:x.op.toNat=107:=by rw[h];rfl
  exact⟨by simp[aH,dc,bC,arith,hn],fun h=>by omega⟩
 ·have hn:x.op.toNat=114:=by rw[h];rfl
  exact⟨by simp[aH,dc,bC,arith,hn],fun h=>by omega⟩
 ·have hn:x.op.toNat=119:=by rw[h];rfl
  exact⟨by simp[aH,dc,bC,arith,hn],fun h=>by omega⟩
 ·have hn:x.op.toNat=108:=by rw[h];rfl
  have hb:=hx.loc (Or.inl hn);have e3:bH lo x.b=lo.getD x.b 0:=by unfold bH;rw[if_pos (by omega)]
  have e4:=a1 _ (ki hlo (k:=x.b) (by omega));have e5:aH (im.classes.map toX) im.sigs x.op (bj x).cls x.b lo=lo.getD x.b 0:=by rw[←e3];simp[aH,hn]
  rw[e5,if_neg e4];exact⟨by simp[dc,hn],fun _=>rfl⟩
 ·have hn:x.op.toNat=115:=by rw[h];rfl
  exact⟨by simp[aH,dc,bC,arith,hn],fun h=>by omega⟩
 ·have hn:x.op.toNat=43:=by rw[h];rfl
  exact⟨by simp[aH,dc,bC,arith,hn],fun h=>by omega⟩
 ·have hn:x.op.toNat=45:=by rw[h];rfl
  exact⟨by simp[aH,dc,bC,arith,hn],fun h=>by omega⟩
 ·have hn:x.op.toNat=42:=by rw[h];rfl
  exact⟨by simp[aH,dc,bC,arith,hn],fun h=>by omega⟩
 ·have hn:x.op.toNat=47:=by rw[h];rfl
  exact⟨by simp[aH,dc,bC,arith,hn],fun h=>by omega⟩
 ·have hn:x.op.toNat=60:=by rw[h];rfl
  exact⟨by simp[aH,dc,bC,arith,hn],fun h=>by omega⟩
 ·have hn:x.op.toNat=61:=by rw[h];rfl
  exact⟨by simp[aH,dc,bC,arith,hn],fun h=>by omega⟩
 ·have hn:x.op.toNat=101:=by rw[h];rfl
  exact⟨by simp[aH,dc,bC,arith,hn],fun h=>by omega⟩
 ·have hn:x.op.toNat=110:=by rw[h];rfl
  have ha:=hx.cls (by omega);have a2:=hW.nc;have e4:(b8 x.a).toNat≠0:=by simp[b8];omega
  rw[hc (by omega)];have e5:aH (im.classes.map toX) im.sigs x.op (b8 x.a) x.b lo=b8 x.a:=by simp[aH,hn]
  rw[e5,if_neg e4];exact⟨by simp[dc,bC,arith,hn],fun h=>by omega⟩
 ·have hn:x.op.toNat=122:=by rw[h];rfl
  exact⟨by simp[aH,dc,bC,arith,hn],fun h=>by omega⟩
 ·have hn:x.op.toNat=103:=by rw[h];rfl
  have e3:=uh hW (hx.cls (by omega)) (hx.fld (by omega));have e6:dc im.classes im.sigs x lo=[bT im.classes x.a x.b]:=by simp[dc,bC,arith,hn]
  have e7:bT im.classes x.a x.b∈bC im.classes im.sigs x:=by simp[bC,arith,hn]
  have e4:=a1 _ (a0 _ e7);rw[hc (by omega)];have e5:aH (im.classes.map toX) im.sigs x.op (b8 x.a) x.b lo=bT im.classes x.a x.b:=by rw[←e3];simp[aH,hn,b8]
  rw[e5,if_neg e4,e6];exact⟨rfl,fun h=>by omega⟩
 ·have hn:x.op.toNat=112:=by rw[h];rfl
  exact⟨by simp[aH,dc,bC,arith,hn],fun h=>by omega⟩
 ·have hn:x.op.toNat=99:=by rw[h];rfl
  have e3:=kB (hx.sig hn);have e6:dc im.classes im.sigs x lo=[dR im.sigs x.b]:=by simp[dc,bC,arith,hn]
  have e7:dR im.sigs x.b∈bC im.classes im.sigs x:=by simp[bC,arith,hn]
  have e4:=a1 _ (a0 _ e7);have e5:aH (im.classes.map toX) im.sigs x.op (bj x).cls x.b lo=dR im.sigs x.b:=by rw[←e3.2];simp[aH,hn]
  rw[e5,if_neg e4,e6];exact⟨rfl,fun h=>by omega⟩
 ·have hn:x.op.toNat=120:=by rw[h];rfl
  have ha:=hx.cls (by omega);have a2:=hW.nc;have e4:(b8 x.a).toNat≠0:=by simp[b8];omega
  rw[hc (by omega)];have e5:aH (im.classes.map toX) im.sigs x.op (b8 x.a) x.b lo=b8 x.a:=by simp[aH,hn]
  rw[e5,if_neg e4];exact⟨by simp[dc,bC,arith,hn],fun h=>by omega⟩
 ·have hn:x.op.toNat=100:=by rw[h];rfl
  exact⟨by simp[aH,dc,bC,arith,hn],fun h=>by omega⟩
 ·have hn:x.op.toNat=106:=by rw[h];rfl
  exact⟨by simp[aH,dc,bC,arith,hn],fun h=>by omega⟩
 ·have hn:x.op.toNat=102:=by rw[h];rfl
  exact⟨by simp[aH,dc,bC,arith,hn],fun h=>by omega⟩
 ·have hn:x.op.toNat=116:=by rw[h];rfl
  exact⟨by simp[aH,dc,bC,arith,hn],fun h=>by omega⟩
theorem vI (hW:WfI im) (hbd:WfB im.classes im.sigs bd) (hx:WfX im.classes im.sigs.length bd.locals.length x) {st lo:List UInt8} (hz:okZ im.classes.length bd.locals.length st lo):
  p9 (im.classes.map toX) im.sigs (bj x) (aW im.sigs bd).ans st lo=df im.classes im.sigs bd x st lo:=by
 rw[uC hW hbd hx];unfold p9 lY;rw[vF hW hbd hx];have a3:=vH hW hbd hx;have e1:(bj x).op=x.op:=rfl;have e2:(bj x).num=x.b:=rfl
 by_cases hl:st.length<(bE im.classes im.sigs bd x).length
 ·rw[if_pos (Or.inl hl)]
  have:iF im.classes st (bE im.classes im.sigs bd x)=false:=by
   unfold iF;rw[Bool.and_eq_false_iff]
   left
   simp;omega
  rw[if_pos (Or.inl this)]
 ·have a5:=rO hW hz.1 a3 (by omega:(bE im.classes im.sigs bd x).length≤st.length);rw[a5]
  cases hsu:iF im.classes st (bE im.classes im.sigs bd x)with
  |false=>rw[if_pos (Or.inr rfl),if_pos (Or.inl rfl)]
  |true=>
   have a4: ¬(st.length<(bE im.classes im.sigs bd x).length∨true=false):=by simp;omega
   rw[if_neg a4];rw[e1,e2]
   by_cases h115:x.op.toNat=115
   ·have hb:=hx.loc (Or.inr h115);have a2:(bE im.classes im.sigs bd x).length=1:=by unfold bE;rw[if_pos (Or.inl h115)];rfl
    have a0: ¬x.op.toNat=108:=by omega
    rw[if_neg (fun h=>h.2 (by rw[hz.2.2];exact hb))];simp only[a0,false_and,if_false,or_false,Bool.true_eq_false];rw[if_pos h115,if_pos h115,a2];have a6:okT im.classes.length (st.getD (st.length-1) 0)=true:=ki hz.1 (by rw[a2]at hl;omega)
    have a1:=rP hW hx (lo:=lo.set x.b (st.getD (st.length-1) 0)) (by rw[List.length_set];exact hz.2.2) (fun c hc=>by
     rcases List.mem_or_eq_of_mem_set hc with h|h
     ·exact hz.2.1 c h
     ·rw[h];exact a6)
    rw[e1,e2]at a1;rw[a1.1]
    congr 2
    unfold dc;rw[if_neg a0,if_neg a0]
   ·simp only[h115,false_and,if_false];have a1:=rP hW hx hz.2.2 hz.2.1;rw[e1,e2]at a1;rw[a1.1]
    by_cases a0:x.op.toNat=108
    ·rw[a1.2 a0];simp only[a0,true_and,Bool.true_eq_false,false_or]
    ·simp only[a0,false_and,if_false,or_false,Bool.true_eq_false]
end
end
section
open Go Go.RowKit Sp
attribute [local go_sem ↓] Go.wp_at_zero Go.wp_at_succ
def stC (x:St×Value×Value):List Value:=match x.1 with
 |none=> [.bool false,.slice none 0 0,.slice none 0 0]
 |some _=> [.bool true,x.2.1,x.2.2]
def dZ (l:List (St×Value×Value)):List Value:=l.flatMap stC
theorem qa (x:St×Value×Value):(stC x).length=3:=by unfold stC;split<;>rfl
theorem co {l:List (St×Value×Value)} {j k:Nat} {x:St×Value×Value} (h:l[j]?=some x) (hk:k<3):(dZ l)[j*3+k]?=(stC x)[k]?:=el stC 3 qa l j k x h hk
theorem rQ (l:List (St×Value×Value)):(dZ l).length=l.length*3:=by
 induction l with
 |nil=>rfl
 |cons x l ih=>simp only[dZ,List.flatMap_cons,List.length_append,qa,List.length_cons]at ih⊢;rw[ih];omega
theorem rR: ∀{l:List (St×Value×Value)} {j:Nat} {y:St×Value×Value} {a b c:Value},stC y=[a,b,c]→j<l.length→(((dZ l).set (j*3) a).set (j*3+1) b).set (j*3+2) c=dZ (l.set j y):=by
 intro l
 induction l with
 |nil=>intro j y a b c _ h;simp at h
 |cons x l ih=>
  intro j y a b c hy hj
  obtain⟨x0,x1,x2,hx⟩: ∃x0 x1 x2,stC x=[x0,x1,x2]:=by
   have:=qa x
   match hh:stC x,this with
   | [x0,x1,x2],_=>exact⟨x0,x1,x2,rfl⟩
  cases j with
  |zero=>simp[dZ,hx,hy]
  |succ j=>
   have:=ih (j:=j) hy (by simpa using hj);simp only[dZ,List.flatMap_cons,List.set_cons_succ,hx]at this⊢;rw[←this];rw[show(j+1)*3=j*3+3 from by omega];simp[List.set_append]
def StB (w:World) (g:Nat) (tab:List St):Prop:=
 ∃l:List (St×Value×Value),w.heap[g]?=some (.cells (dZ l).toArray 117)∧l.map (·.1)=tab∧ ∀x∈l,∀s lo,x.1=some (s,lo)→BtB w 0 x.2.1 s∧BtB w 0 x.2.2 lo
theorem StB.off {F:Nat→Prop} {w w':World} {g:Nat} {tab:List St} (h:StB w g tab) (hb:But F w w') (hg: ¬F g) (hf: ∀k cur,w.heap[k]?=some (.cells cur 5)→ ¬F k):StB w' g tab:=by
 obtain⟨l,h1,h2,h3⟩:=h;exact⟨l,(hb.block g (ae h1) hg).trans h1,h2,fun x hx s lo e=>⟨aU (h3 x hx s lo e).1 hb (fun k cur hh _=>hf k cur hh),aU (h3 x hx s lo e).2 hb (fun k cur hh _=>hf k cur hh)⟩⟩
structure Bld (w0 w:World) (bb b gs gw:Nat) (c r:UInt8) (m:Nat) (vl vi:Value) (tab:List St) (wt:List Bool) (bad:Bool):Prop where
 but:But (fun _=>False) w0 w
 gbb:w0.heap.size≤bb
 ggs:w0.heap.size≤gs
 ggw:w0.heap.size≤gw
 blk:w.heap[bb]?=some (.cells #[.pointer (some ⟨b,0,none⟩),.int .u8 c.toNat,.int .i64 m,.int .u8 r.toNat,vl,vi,.slice (some ⟨gs,0,none⟩) tab.length tab.length,.slice (some ⟨gw,0,none⟩) tab.length tab.length,.bool bad] 181)
 sts:StB w gs tab
 wts:WtB w gw wt
 wl:wt.length=tab.length
section
variable {w0 w:World} {bb b gs gw:Nat} {c r:UInt8} {m:Nat} {vl vi:Value} {tab:List St} {wt:List Bool} {bad:Bool}
theorem Bld.cells (h:Bld w0 w bb b gs gw c r m vl vi tab wt bad):
  w.cell? ⟨bb,0,none⟩=some (.pointer (some ⟨b,0,none⟩))∧w.cell? ⟨bb,6,none⟩=some (.slice (some ⟨gs,0,none⟩) tab.length tab.length)∧w.cell? ⟨bb,7,none⟩=some (.slice (some ⟨gw,0,none⟩) tab.length tab.length)∧w.cell? ⟨bb,8,none⟩=some (.bool bad):=by
 refine⟨?_,?_,?_,?_⟩
 ·rw[cell_of_row w bb 0 _ _ (0,0) h.blk];rfl
 ·rw[cell_of_row w bb 6 _ _ (0,0) h.blk];rfl
 ·rw[cell_of_row w bb 7 _ _ (0,0) h.blk];rfl
 ·rw[cell_of_row w bb 8 _ _ (0,0) h.blk];rfl
theorem Bld.body (h:Bld w0 w bb b gs gw c r m vl vi tab wt bad):
  w.cell? ⟨bb,1,none⟩=some (.int .u8 c.toNat)∧w.cell? ⟨bb,2,none⟩=some (.int .i64 m)∧w.cell? ⟨bb,3,none⟩=some (.int .u8 r.toNat)∧w.cell? ⟨bb,4,none⟩=some vl∧w.cell? ⟨bb,5,none⟩=some vi:=by
 refine⟨?_,?_,?_,?_,?_⟩
 ·rw[cell_of_row w bb 1 _ _ (0,0) h.blk];rfl
 ·rw[cell_of_row w bb 2 _ _ (0,0) h.blk];rfl
 ·rw[cell_of_row w bb 3 _ _ (0,0) h.blk];rfl
 ·rw[cell_of_row w bb 4 _ _ (0,0) h.blk];rfl
 ·rw[cell_of_row w bb 5 _ _ (0,0) h.blk];rfl
theorem Bld.fz (h:Bld w0 w bb b gs gw c r m vl vi tab wt bad) (k:Nat):w.frozen? ⟨bb,k,none⟩=false:=frozen_of_row w bb k _ _ h.blk
theorem Bld.ne (h:Bld w0 w bb b gs gw c r m vl vi tab wt bad):bb≠gs∧bb≠gw∧gs≠gw:=by
 obtain⟨l,hs,_⟩:=h.sts;refine⟨?_,?_,?_⟩
 ·intro e;have:=h.blk;rw[e,hs]at this;injection this with this;injection this with _ h2;exact absurd h2 (by decide)
 ·intro e;have:=h.blk;rw[e]at this;have hw:=h.wts;unfold WtB at hw;rw[hw]at this;injection this with this;injection this with _ h2;exact absurd h2 (by decide)
 ·intro e;have hw:=h.wts;unfold WtB at hw;rw[e,hw]at hs;injection hs with hs;injection hs with _ h2;exact absurd h2 (by decide)
theorem Bld.u8 (h:Bld w0 w bb b gs gw c r m vl vi tab wt bad) {k:Nat} {cur:Array Value} (hk:w.heap[k]?=some (.cells cur 5)): ¬(k=bb∨k=gs∨k=gw):=by
 obtain⟨l,hs,_⟩:=h.sts;have hw:=h.wts;unfold WtB at hw;rintro(e|e|e)
 ·rw[e,h.blk]at hk;injection hk with hk;injection hk with _ h2;exact absurd h2 (by decide)
 ·rw[e,hs]at hk;injection hk with hk;injection hk with _ h2;exact absurd h2 (by decide)
 ·rw[e,hw]at hk;injection hk with hk;injection hk with _ h2;exact absurd h2 (by decide)
theorem Bld.lt (h:Bld w0 w bb b gs gw c r m vl vi tab wt bad):bb<w.heap.size∧gs<w.heap.size∧gw<w.heap.size:=by
 obtain⟨l,hs,_⟩:=h.sts;exact⟨ae h.blk,ae hs,ae h.wts⟩
theorem Bld.next {w':World} (h:Bld w0 w bb b gs gw c r m vl vi tab wt bad) (hb:But (fun _=>False) w w'):Bld w0 w' bb b gs gw c r m vl vi tab wt bad:=
 ⟨h.but.trans hb,h.gbb,h.ggs,h.ggw,hb.kp h.blk,h.sts.off hb (fun h=>h) (fun _ _ _ h=>h),hb.kp h.wts,h.wl⟩
theorem Bld.fail (h:Bld w0 w bb b gs gw c r m vl vi tab wt bad):Bld w0 (w.setCell ⟨bb,8,none⟩ (.bool true)) bb b gs gw c r m vl vi tab wt true:=by
 have hb:=But.setB w bb 8 (.bool true);have hn:=h.ne;refine⟨h.but.next hb (fun k hk e=>by have:=h.gbb;omega),h.gbb,h.ggs,h.ggw,heap_setCell_same w bb 8 _ _ _ h.blk,h.sts.off hb (fun e=>hn.1 e.symm) (fun k cur hk e=>h.u8 hk (Or.inl e)),(hb.block gw (ae h.wts) (fun e=>hn.2.1 e.symm)).trans h.wts,h.wl⟩
theorem Bld.wait (h:Bld w0 w bb b gs gw c r m vl vi tab wt bad) (k:Nat) (v:Bool):Bld w0 (w.setCell ⟨gw,k,none⟩ (.bool v)) bb b gs gw c r m vl vi tab (wt.set k v) bad:=by
 have hb:=But.setB w gw k (.bool v);have hn:=h.ne;refine⟨h.but.next hb (fun j hk e=>by have:=h.ggw;omega),h.gbb,h.ggs,h.ggw,(hb.block bb (ae h.blk) hn.2.1).trans h.blk,h.sts.off hb hn.2.2 (fun k cur hk e=>h.u8 hk (Or.inr (Or.inr e))),?_,by rw[List.length_set];exact h.wl⟩;have:=heap_setCell_same w gw k _ _ (.bool v) h.wts;unfold WtB;rw[this,List.map_set];simp
theorem Bld.wcell (h:Bld w0 w bb b gs gw c r m vl vi tab wt bad) {k:Nat} (hk:k<tab.length):w.cell? ⟨gw,k,none⟩=some (.bool (wt.getD k false))∧w.frozen? ⟨gw,k,none⟩=false:=
 ⟨h.wts.cell (by rw[h.wl];exact hk),frozen_of_row w gw k _ _ h.wts⟩
theorem Bld.known (h:Bld w0 w bb b gs gw c r m vl vi tab wt bad) {k:Nat} {s lo:List UInt8} (hk:tab[k]?=some (some (s,lo))):
  ∃a1 c1 a2 c2,w.cell? ⟨gs,k*3,none⟩=some (.bool true)∧w.cell? ⟨gs,k*3+1,none⟩=some (.slice a1 s.length c1)∧w.cell? ⟨gs,k*3+2,none⟩=some (.slice a2 lo.length c2)∧BtB w 0 (.slice a1 s.length c1) s∧BtB w 0 (.slice a2 lo.length c2) lo:=by
 obtain⟨l,hs,hm,hf⟩:=h.sts;rw[←hm,List.getElem?_map]at hk;obtain⟨x,hx,a0⟩:=Option.map_eq_some_iff.1 hk;obtain⟨h1,h2⟩:=hf x (List.mem_of_getElem? hx) s lo a0;obtain⟨a1,c1,e1⟩:=aq h1;obtain⟨a2,c2,e2⟩:=aq h2;have hc:stC x=[.bool true,x.2.1,x.2.2]:=by unfold stC;rw[a0]
 rw[e1]at h1;rw[e2]at h2;refine⟨a1,c1,a2,c2,?_,?_,?_,h1,h2⟩
 ·rw[cell_of_row w gs (k*3) _ _ (0,0) hs];have:=co (k:=0) hx (by omega);rw[hc]at this;simpa using this
 ·rw[cell_of_row w gs (k*3+1) _ _ (0,0) hs];have:=co (k:=1) hx (by omega);rw[hc,e1]at this;simpa using this
 ·rw[cell_of_row w gs (k*3+2) _ _ (0,0) hs];have:=co (k:=2) hx (by omega);rw[hc,e2]at this;simpa using this
theorem Bld.unk (h:Bld w0 w bb b gs gw c r m vl vi tab wt bad) {k:Nat} (hk:tab[k]?= .some .none):
  w.cell? ⟨gs,k*3,none⟩= .some (.bool false)∧w.cell? ⟨gs,k*3+1,none⟩= .some (.slice none 0 0)∧w.cell? ⟨gs,k*3+2,none⟩= .some (.slice none 0 0):=by
 obtain⟨l,hs,hm,hf⟩:=h.sts;rw[←hm,List.getElem?_map]at hk;obtain⟨x,hx,a0⟩:=Option.map_eq_some_iff.1 hk;have hc:stC x=[.bool false,.slice none 0 0,.slice none 0 0]:=by unfold stC;rw[a0]
 refine⟨?_,?_,?_⟩
 ·rw[cell_of_row w gs (k*3) _ _ (0,0) hs];have:=co (k:=0) hx (by omega);rw[hc]at this;simpa using this
 ·rw[cell_of_row w gs (k*3+1) _ _ (0,0) hs];have:=co (k:=1) hx (by omega);rw[hc]at this;simpa using this
 ·rw[cell_of_row w gs (k*3+2) _ _ (0,0) hs];have:=co (k:=2) hx (by omega);rw[hc]at this;simpa using this
theorem Bld.sfz (h:Bld w0 w bb b gs gw c r m vl vi tab wt bad) (k:Nat):w.frozen? ⟨gs,k,none⟩=false:=by
 obtain⟨l,hs,hm,hf⟩:=h.sts;exact frozen_of_row w gs k _ _ hs
theorem Bld.lay (h:Bld w0 w bb b gs gw c r m vl vi tab wt bad) {k:Nat} (hk:k<tab.length) {s lo:List UInt8} {v1 v2:Value} (h1:BtB w 0 v1 s) (h2:BtB w 0 v2 lo):
  Bld w0 (((w.setCell ⟨gs,k*3,none⟩ (.bool true)).setCell ⟨gs,k*3+1,none⟩ v1).setCell ⟨gs,k*3+2,none⟩ v2) bb b gs gw c r m vl vi (tab.set k (.some (s,lo))) wt bad:=by
 have hb:But (· =gs) w (((w.setCell ⟨gs,k*3,none⟩ (.bool true)).setCell ⟨gs,k*3+1,none⟩ v1).setCell ⟨gs,k*3+2,none⟩ v2):=((But.setB w gs _ _).trans (But.setB _ gs _ _)).trans (But.setB _ gs _ _);have hn:=h.ne;have hu: ∀j cur,w.heap[j]?= .some (.cells cur 5)→ ¬j=gs:=fun j cur hj e=>h.u8 hj (Or.inr (Or.inl e))
 have a0:=h.lt;have hg:=h.ggs;have a1:=(hb.block bb a0.1 hn.1).trans h.blk;have a3:=(hb.block gw a0.2.2 (fun e=>hn.2.2 e.symm)).trans h.wts;have a2:But (fun _=>False) w0 (((w.setCell ⟨gs,k*3,none⟩ (.bool true)).setCell ⟨gs,k*3+1,none⟩ v1).setCell ⟨gs,k*3+2,none⟩ v2):=h.but.next hb (fun j hj e=>by omega);obtain⟨l,hs,hm,hf⟩:=h.sts;have a4:l.length=tab.length:=by rw[←hm];simp
 have e1:=heap_setCell_same w gs (k*3) _ _ (.bool true) hs;have e2:=heap_setCell_same _ gs (k*3+1) _ _ v1 e1;have e3:=heap_setCell_same _ gs (k*3+2) _ _ v2 e2;refine⟨a2,h.gbb,h.ggs,h.ggw,by rw[List.length_set];exact a1,⟨l.set k (.some (s,lo),v1,v2),?_,?_,?_⟩,a3,by rw[List.length_set];exact h.wl⟩
 ·rw[e3]
  congr 2
  rw[←rR (l:=l) (j:=k) (y:=(.some (s,lo),v1,v2)) (a:= .bool true) (b:=v1) (c:=v2) rfl (by omega)];simp
 ·rw[List.map_set,hm]
 ·intro x hx s' lo' e;rcases List.mem_or_eq_of_mem_set hx with hx|hx
  ·obtain⟨p1,p2⟩:=hf x hx s' lo' e;exact⟨aU p1 hb (fun j cur hh _=>hu j cur hh),aU p2 hb (fun j cur hh _=>hu j cur hh)⟩
  ·subst hx;simp only[Option.some.injEq,Prod.mk.injEq]at e;obtain⟨rfl,rfl⟩:=e;exact⟨aU h1 hb (fun j cur hh _=>hu j cur hh),aU h2 hb (fun j cur hh _=>hu j cur hh)⟩
end
theorem StB.known {w:World} {gs:Nat} {tab:List St} (h:StB w gs tab) {k:Nat} {s lo:List UInt8} (hk:tab[k]?=some (some (s,lo))):
  ∃a1 c1 a2 c2,w.cell? ⟨gs,k*3,none⟩=some (.bool true)∧w.cell? ⟨gs,k*3+1,none⟩=some (.slice a1 s.length c1)∧w.cell? ⟨gs,k*3+2,none⟩=some (.slice a2 lo.length c2)∧BtB w 0 (.slice a1 s.length c1) s∧BtB w 0 (.slice a2 lo.length c2) lo:=by
 obtain⟨l,hs,hm,hf⟩:=h;rw[←hm,List.getElem?_map]at hk;obtain⟨x,hx,a0⟩:=Option.map_eq_some_iff.1 hk;obtain⟨h1,h2⟩:=hf x (List.mem_of_getElem? hx) s lo a0;obtain⟨a1,c1,e1⟩:=aq h1;obtain⟨a2,c2,e2⟩:=aq h2;have hc:stC x=[.bool true,x.2.1,x.2.2]:=by unfold stC;rw[a0]
 rw[e1]at h1;rw[e2]at h2;refine⟨a1,c1,a2,c2,?_,?_,?_,h1,h2⟩
 ·rw[cell_of_row w gs (k*3) _ _ (0,0) hs];have:=co (k:=0) hx (by omega);rw[hc]at this;simpa using this
 ·rw[cell_of_row w gs (k*3+1) _ _ (0,0) hs];have:=co (k:=1) hx (by omega);rw[hc,e1]at this;simpa using this
 ·rw[cell_of_row w gs (k*3+2) _ _ (0,0) hs];have:=co (k:=2) hx (by omega);rw[hc,e2]at this;simpa using this
theorem StB.unk {w:World} {gs:Nat} {tab:List St} (h:StB w gs tab) {k:Nat} (hk:tab[k]?= .some .none):
  w.cell? ⟨gs,k*3,none⟩= .some (.bool false)∧w.cell? ⟨gs,k*3+1,none⟩= .some (.slice none 0 0)∧w.cell? ⟨gs,k*3+2,none⟩= .some (.slice none 0 0):=by
 obtain⟨l,hs,hm,hf⟩:=h;rw[←hm,List.getElem?_map]at hk;obtain⟨x,hx,a0⟩:=Option.map_eq_some_iff.1 hk;have hc:stC x=[.bool false,.slice none 0 0,.slice none 0 0]:=by unfold stC;rw[a0]
 refine⟨?_,?_,?_⟩
 ·rw[cell_of_row w gs (k*3) _ _ (0,0) hs];have:=co (k:=0) hx (by omega);rw[hc]at this;simpa using this
 ·rw[cell_of_row w gs (k*3+1) _ _ (0,0) hs];have:=co (k:=1) hx (by omega);rw[hc]at this;simpa using this
 ·rw[cell_of_row w gs (k*3+2) _ _ (0,0) hs];have:=co (k:=2) hx (by omega);rw[hc]at this;simpa using this
theorem iw (W:World) (n:Int) (c:UInt8) (hc:(c.toNat:Int)=n) (g:Nat) (hg:W.heap.size=g):BtB (W.alloc (.cells #[.int .u8 n] 5)) 0 (.slice (some ⟨g,0,none⟩) 1 1) [c]:=by
 subst hg;have h:=BtB.lit W 0 (Nat.zero_le _) [c] (by simp);simp only[aJ,List.map_cons,List.map_nil,List.length_singleton,hc]at h;exact h
theorem tB (gA:Nat) (t:List St) (w:World) (hA:StB w gA t) (ht:iX t):
  Calls Tryz.prog 37 #[.agg #[.slice (some ⟨gA,0,none⟩) t.length t.length]] w fun en w'=>en= .returned (.string ⟨(aQ t).toArray⟩)∧But (fun _=>False) w w':=by
 have hl:=ht.1;have h3:=heap_alloc_new w (.cells #[.slice (some ⟨gA,0,none⟩) t.length t.length] 65);have i1:But (fun _=>False) w (w.alloc (.cells #[.slice (some ⟨gA,0,none⟩) t.length t.length] 65)):=But.alloc _ _ _
 go_in
 go_wp2_with fail;have hE:=BtB.empty (w.alloc (.cells #[.slice (some ⟨gA,0,none⟩) t.length t.length] 65));have g0:=(But.alloc (fun _=>False) (w.alloc (.cells #[.slice (some ⟨gA,0,none⟩) t.length t.length] 65)) (.cells #[] 5)).block w.heap.size (ae h3) (fun h=>h);have h0:=i1.trans (But.alloc (fun _=>False) (w.alloc (.cells #[.slice (some ⟨gA,0,none⟩) t.length t.length] 65)) (.cells #[] 5));rw[h3]at g0;have j2:((w.alloc (.cells #[.slice (some ⟨gA,0,none⟩) t.length t.length] 65))).heap.size=w.heap.size+1:=by simp
 rw[j2]at hE;revert hE g0 h0;generalize ((w.alloc (.cells #[.slice (some ⟨gA,0,none⟩) t.length t.length] 65)).alloc (.cells #[] 5))=W;intro hE g0 h0;clear h3 i1 j2
 go_loopg [3,4] t.length (fun mm ss ks wr=> ∃(k:Nat) (ao:Option Addr) (cap:Nat) (s:List UInt8),ss= .slice ao s.length cap∧BtB wr (w.heap.size+1) (.slice ao s.length cap) s∧s.length≤200*k∧ks= .int .i64 k∧k≤t.length∧k+mm≤t.length∧t.length≤k+mm∧But (fun _=>False) w wr∧wr.heap[w.heap.size]?=some (.cells #[.slice (some ⟨gA,0,none⟩) t.length t.length] 65)∧Hid ((t.take k).flatMap dP=s))
 case atStart=>exact⟨0,_,0,[],rfl,hE,by simp,rfl,by omega,by omega,by omega,h0,g0,rfl⟩
 case round=>
  obtain⟨k,ao,cap,s,rfl,hO,n1,rfl,m4,l0,m5,b0,g1,HA⟩:=hrel;clear l0;have i4:=hA.off b0 (fun h=>h) (fun _ _ _ h=>h);have i7:=ae g1;have l5:=b0.size;have c0:=ce0 g1
  by_cases hlt:k<t.length
  ·have l1:(k:Int)<(t.length:Int):=by omega
   obtain⟨o,ho⟩: ∃o,t[k]=o:=⟨_,rfl⟩;have a4:=List.getElem?_eq_getElem hlt;rw[ho]at a4;have alt:gA<wr.heap.size:=by obtain⟨l,h,_⟩:=i4;exact ae h
   have HT:Hid ((t.take (k+1)).flatMap dP=s++dP o):=by
    show _=_
    rw[List.take_add_one,a4,List.flatMap_append,HA.out];simp
   cases o with
   |none=>
    obtain⟨q0,q1,q2⟩:=i4.unk a4;clear a4 ho HA;have d6:But (fun _=>False) wr (wr.alloc (.cells #[.bool false,.slice none 0 0,.slice none 0 0] 117)):=But.alloc _ _ _;have b2:=(hO.but d6 (fun _ _ h=>h)).but (But.alloc (fun _=>False) _ (.cells #[.int .u8 63] 5)) (fun _ _ h=>h);have e9:=iw (wr.alloc (.cells #[.bool false,.slice none 0 0,.slice none 0 0] 117)) 63 63 rfl (wr.heap.size+1) (by simp);have b3:=aj hO;have f1:=aS hO;obtain⟨S2,a7⟩: ∃S2,s++ [63]=S2:=⟨_,rfl⟩;have f3:S2.length≤200*k+1:=by rw[←a7];simp;omega
    have b4:=hid a7;clear a7;go_wp2_with (at_builtin;refine aZ rfl _ _ rfl (w.heap.size+1) 0 _ _ s [63] S2 b4 rfl rfl b2 e9 (by omega) (by simp;omega) ?_);intro g2 b5 w2 e0 a6 _;have a3:But (fun k'=>(Value.slice ao s.length cap).ownBlock=some k') wr w2:=((But.alloc _ _ _).trans (But.alloc _ _ _)).trans a6;have g6:But (fun _=>False) w w2:=b0.next a3 (fun k' hk' h=>absurd (b3 k' h) (by omega));have e5:=(a3.block w.heap.size i7 (fun h=>by have:=b3 _ h;omega)).trans g1;have l6:=a3.size;clear d6 b2 e9 a6 q0 q1 q2;have f0:=iw w2 44 44 rfl w2.heap.size rfl;have e4:=e0.but (But.alloc (fun _=>False) _ (.cells #[.int .u8 44] 5)) (fun _ _ h=>h)
    have a5:=aj e0;obtain⟨S3,c7⟩: ∃S3,S2++ [44]=S3:=⟨_,rfl⟩;have h6:S3.length≤200*k+2:=by rw[←c7];simp;omega
    have e2:=hid c7;clear c7;go_wp2_with (at_builtin;refine aZ rfl _ _ rfl (w.heap.size+1) 0 _ _ S2 [44] S3 e2 rfl rfl e4 f0 (by omega) (by simp;omega) ?_);intro g3 b6 w3 e1 a8 _;have a0:But (fun k'=>(Value.slice g2 S2.length b5).ownBlock=some k') w2 w3:=(But.alloc _ _ _).trans a8;have a6:But (fun _=>False) w w3:=g6.next a0 (fun k' hk' h=>absurd (a5 k' h) (by omega));have f8:=(a0.block w.heap.size (ae e5) (fun h=>by have:=a5 _ h;omega)).trans e5;clear f0 e4 a8;go_wp2_with fail
    go_roundg (t.length-(k+1))
    case measure=>omega
    case rel=>exact⟨k+1,g3,b6,S3,rfl,e1,by omega,by simp,by omega,by omega,by omega,a6,f8,hid (by rw[HT.out,←e2.out,←b4.out];simp[dP])⟩
   |some st=>
    obtain⟨st,lo⟩:=st;have n0:=ht.2 k st lo a4;obtain⟨a1,c1,a2,c2,z0,z1,z2,f6,f7⟩:=hA.known a4;have altw:gA<w.heap.size:=by obtain⟨l,h,_⟩:=hA;exact ae h
    have q0:=b0.kc z0 altw;have q1:=b0.kc z1 altw;have q2:=b0.kc z2 altw;have l4:=f6.but b0 (fun _ _ h=>h);have j1:=f7.but b0 (fun _ _ h=>h);have f2:=aS f7;clear z0 z1 z2 f6;clear a4 ho HA;have d6:But (fun _=>False) wr (wr.alloc (.cells #[.bool true,.slice a1 st.length c1,.slice a2 lo.length c2] 117)):=But.alloc _ _ _;have i6:=heap_alloc_new wr (.cells #[.bool true,.slice a1 st.length c1,.slice a2 lo.length c2] 117);have b2:=hO.but d6 (fun _ _ h=>h);have f5:=l4.but d6 (fun _ _ h=>h);have h7:=j1.but d6 (fun _ _ h=>h);have b3:=aj hO;have f1:=aS hO;obtain⟨S2,a7⟩: ∃S2,s++st=S2:=⟨_,rfl⟩;have f3:S2.length≤200*k+100:=by rw[←a7];simp;omega
    have b4:=hid a7;clear a7;go_wp2_with (at_builtin;refine aZ rfl _ _ rfl (w.heap.size+1) 0 _ _ s st S2 b4 rfl rfl b2 f5 (by omega) (by simp;omega) ?_);intro g2 b5 w2 e0 a6 _;have a3:But (fun k'=>(Value.slice ao s.length cap).ownBlock=some k') wr w2:=(But.alloc _ _ _).trans a6;have g6:But (fun _=>False) w w2:=b0.next a3 (fun k' hk' h=>absurd (b3 k' h) (by omega));have e5:=(a3.block w.heap.size i7 (fun h=>by have:=b3 _ h;omega)).trans g1;have b1:=(a6.block wr.heap.size (ae i6) (fun h=>by have:=f1 _ h;omega)).trans i6;have h4:BtB w2 0 (.slice a2 lo.length c2) lo:=j1.but a3 (fun g hg h=>by have:=f2 g hg;have:=b3 g h;omega)
    obtain⟨m0,m1,m2⟩:=eY b1;have l6:=a3.size;clear b2 a6 q0 q1 q2 f5 h7;have f0:=iw w2 124 124 rfl w2.heap.size rfl;have e4:=e0.but (But.alloc (fun _=>False) _ (.cells #[.int .u8 124] 5)) (fun _ _ h=>h);have a5:=aj e0;obtain⟨S3,c7⟩: ∃S3,S2++ [124]=S3:=⟨_,rfl⟩;have h6:S3.length≤200*k+101:=by rw[←c7];simp;omega
    have e2:=hid c7;clear c7;go_wp2_with (at_builtin;refine aZ rfl _ _ rfl (w.heap.size+1) 0 _ _ S2 [124] S3 e2 rfl rfl e4 f0 (by omega) (by simp;omega) ?_);intro g3 b6 w3 e1 a8 _;have a0:But (fun k'=>(Value.slice g2 S2.length b5).ownBlock=some k') w2 w3:=(But.alloc _ _ _).trans a8;have a6:But (fun _=>False) w w3:=g6.next a0 (fun k' hk' h=>absurd (a5 k' h) (by omega));have f8:=(a0.block w.heap.size (ae e5) (fun h=>by have:=a5 _ h;omega)).trans e5;have e6:=(a0.block wr.heap.size (ae b1) (fun h=>eb e0 b1 (by decide) h)).trans b1;have h5:BtB w3 0 (.slice a2 lo.length c2) lo:=h4.but a0 (fun g hg h=>by have:=f2 g hg;have:=a5 g h;omega)
    have n2:=a0.size;have e7:=aj e1;clear f0 e4 a8 m0 m1 m2;obtain⟨m0,m1,m2⟩:=eY e6;have k9:=ae e6;obtain⟨S4,h1⟩: ∃S4,S3++lo=S4:=⟨_,rfl⟩;have l2:S4.length≤200*k+106:=by rw[←h1];simp;omega
    have h8:=hid h1;clear h1;go_wp2_with (at_builtin;refine aZ rfl _ _ rfl (w.heap.size+1) 0 _ _ S3 lo S4 h8 rfl rfl e1 h5 (by omega) (by omega) ?_);intro j4 g4 w4 i2 g7 _;have j7:But (fun _=>False) w w4:=a6.next g7 (fun k' hk' h=>absurd (e7 k' h) (by omega));have i5:=(g7.block w.heap.size (ae f8) (fun h=>by have:=e7 _ h;omega)).trans f8;have n3:=g7.size;have e8:=aj i2;clear m0 m1 m2;have j0:=iw w4 44 44 rfl w4.heap.size rfl;have i3:=i2.but (But.alloc (fun _=>False) _ (.cells #[.int .u8 44] 5)) (fun _ _ h=>h);obtain⟨S5,h2⟩: ∃S5,S4++ [44]=S5:=⟨_,rfl⟩;have l3:S5.length≤200*k+107:=by rw[←h2];simp;omega
    have h9:=hid h2;clear h2;go_wp2_with (at_builtin;refine aZ rfl _ _ rfl (w.heap.size+1) 0 _ _ S4 [44] S5 h9 rfl rfl i3 j0 (by omega) (by simp;omega) ?_);intro j5 g5 w5 k0 i0 _;have e3:But (fun k'=>(Value.slice j4 S4.length g4).ownBlock=some k') w4 w5:=(But.alloc _ _ _).trans i0;have a8:But (fun _=>False) w w5:=j7.next e3 (fun k' hk' h=>absurd (e8 k' h) (by omega));have k3:=(e3.block w.heap.size (ae i5) (fun h=>by have:=e8 _ h;omega)).trans i5;clear j0 i3 i0;go_wp2_with fail
    go_roundg (t.length-(k+1))
    case measure=>omega
    case rel=>exact⟨k+1,j5,g5,S5,rfl,k0,by omega,by simp,by omega,by omega,by omega,a8,k3,hid (by rw[HT.out,←h9.out,←h8.out,←e2.out,←b4.out];simp[dP])⟩
  ·have l1: ¬(k:Int)<(t.length:Int):=by omega
   have f4:aQ t=s++ [59]:=by rw[aQ,←HA.out,List.take_of_length_le (by omega)]
   obtain⟨S2,a7⟩: ∃S2,s++ [59]=S2:=⟨_,rfl⟩;have f3:S2.length≤200*k+1:=by rw[←a7];simp;omega
   have j3:=hid (f4.trans a7);have b4:=hid a7;clear f4 HA a7;have e9:=iw wr 59 59 rfl wr.heap.size rfl;have b2:=hO.but (But.alloc (fun _=>False) _ (.cells #[.int .u8 59] 5)) (fun _ _ h=>h);have b3:=aj hO;go_wp2_with (at_builtin;refine aZ rfl _ _ rfl (w.heap.size+1) 0 _ _ s [59] S2 b4 rfl rfl b2 e9 (by omega) (by simp;omega) ?_);intro g3 b6 w3 e1 a8 _;have a0:But (fun k'=>(Value.slice ao s.length cap).ownBlock=some k') wr w3:=(But.alloc _ _ _).trans a8;have a6:But (fun _=>False) w w3:=b0.next a0 (fun k' hk' h=>absurd (b3 k' h) (by omega));have m3:=fa e1;clear e9 b2 a8;go_wp2_with fail;exact cB (.string ⟨S2.toArray⟩) Tryz.results37 rfl rfl ⟨by rw[j3.out],a6⟩
section
variable {cs:List Cls} {tab:List St} {wt:List Bool} {j:Nat} {sb lb sa la:List UInt8}
theorem AC (h:tab.length≤j):aP cs (tab,wt,false) j sb lb=(tab,wt,true):=by
 have:bJ cs (tab,false,false) (j:Int) sb lb=(tab,false,true):=by
  unfold bJ;rw[if_neg (by simp),if_pos (by simp;omega)]
 unfold aP;simp only;rw[this];simp
theorem yc (h:tab[j]?=some none):aP cs (tab,wt,false) j sb lb=(tab.set j (some (sb,lb)),wt.set j true,false):=by
 have hj:=(List.getElem?_eq_some_iff.1 h).1
 have:bJ cs (tab,false,false) (j:Int) sb lb=(tab.set j (some (sb,lb)),true,false):=by
  unfold bJ;rw[if_neg (by simp),if_neg (by simp;omega)];simp[List.getD,h,fd]
 unfold aP;simp only;rw[this];simp
theorem AD (h:tab[j]?=some (some (sa,la))) (hl:sa.length≠sb.length):aP cs (tab,wt,false) j sb lb=(tab,wt,true):=by
 have hj:=(List.getElem?_eq_some_iff.1 h).1
 have:bJ cs (tab,false,false) (j:Int) sb lb=(tab,false,true):=by
  unfold bJ;rw[if_neg (by simp),if_neg (by simp;omega)];simp[List.getD,h,fd,hl]
 unfold aP;simp only;rw[this];simp
theorem zG (h:tab[j]?=some (some (sa,la))) (hl:sa.length=sb.length) (h1:cS cs sa sb=sa) (h2:cS cs la lb=la):aP cs (tab,wt,false) j sb lb=(tab,wt,false):=by
 have hj:=(List.getElem?_eq_some_iff.1 h).1
 have:bJ cs (tab,false,false) (j:Int) sb lb=(tab,false,false):=by
  unfold bJ;rw[if_neg (by simp),if_neg (by simp;omega)];simp[List.getD,h,fd,hl,h1,h2]
 unfold aP;simp only;rw[this];simp
theorem yd (h:tab[j]?=some (some (sa,la))) (hl:sa.length=sb.length) (h1: ¬(cS cs sa sb=sa∧cS cs la lb=la)):aP cs (tab,wt,false) j sb lb=(tab.set j (some (cS cs sa sb,cS cs la lb)),wt.set j true,false):=by
 have hj:=(List.getElem?_eq_some_iff.1 h).1
 have:bJ cs (tab,false,false) (j:Int) sb lb=(tab.set j (some (cS cs sa sb,cS cs la lb)),true,false):=by
  unfold bJ;rw[if_neg (by simp),if_neg (by simp;omega)];simp[List.getD,h,fd,hl,h1]
 unfold aP;simp only;rw[this];simp
theorem mX (hw:WfC cs) (hn:cs.length≤4): ∀{a b:List UInt8},(∀c∈a,okT cs.length c=true)→(∀c∈b,okT cs.length c=true)→List.zipWith (eX (cs.map toX)) a b=cS cs a b:=by
 intro a
 induction a with
 |nil=>intro b _ _;simp[cS]
 |cons x a ih=>
  intro b ha hb
  cases b with
  |nil=>simp[cS]
  |cons y b=>
   simp only[cS,List.zipWith_cons_cons];rw[lw hw hn (ha x (by simp)) (hb y (by simp))]
   congr 1
   exact ih (fun c h=>ha c (by simp[h])) (fun c h=>hb c (by simp[h]))
end
theorem jY (w0:World) (bb b gs gw:Nat) (c r:UInt8) (m:Nat) (vl vi:Value) (tab:List St) (wt:List Bool) (bad:Bool) (im:Img) (nl j:Nat) (aa al:Option Addr) (ca cl:Nat) (sb lb:List UInt8) (w:World) (hW:WfI im) (hnl:nl≤5) (htl:tab.length≤100)
  (hB:Bld w0 w bb b gs gw c r m vl vi tab wt bad) (hTX:TxC w0 b (im.classes.map toX)) (hwf:wfT im.classes.length nl tab.length tab) (hz:okZ im.classes.length nl sb lb) (hsl:sb.length≤101)
  (hs:BtB w 0 (.slice aa sb.length ca) sb) (hl:BtB w 0 (.slice al lb.length cl) lb):
  Calls Tryz.prog 105 #[.pointer (some ⟨bb,0,none⟩),.int .i64 j,xsV true (.slice aa sb.length ca) (.slice al lb.length cl)] w fun en w'=>en= .returned (.tuple #[])∧But (fun k=>k=bb∨k=gs∨k=gw) w w'∧
   Bld w0 w' bb b gs gw c r m vl vi (aP im.classes (tab,wt,false) j sb lb).1 (aP im.classes (tab,wt,false) j sb lb).2.1 (bad||(aP im.classes (tab,wt,false) j sb lb).2.2):=by
 have e5:But (fun _=>False) w (w.alloc (.cells #[.bool true,.slice aa sb.length ca,.slice al lb.length cl] 117)):=But.alloc _ _ _;have e3:=heap_alloc_new w (.cells #[.bool true,.slice aa sb.length ca,.slice al lb.length cl] 117);have b3:=hB.next e5;have g0:=hs.but e5 (fun _ _ h=>h);have f7:=hl.but e5 (fun _ _ h=>h);have n5:=hB.lt;have f6:=e5.mono (G:=fun k=>k=bb∨k=gs∨k=gw) (fun _ _ h=>h.elim);unfold xsV
 by_cases hj:j<tab.length
 ·have n2:(j:Int)<(tab.length:Int):=by omega
  have n1: ¬(j:Int)<0:=by omega
  obtain⟨o,ho⟩: ∃o,tab[j]?=some o:=⟨_,List.getElem?_eq_getElem hj⟩;have m4:=hid (fun(wx:World) (h:But (fun _=>False) w0 wx)=>hTX.but h);obtain⟨e9,f0⟩:=b3.wcell hj;have e6:=b3.sfz (j*3);have e7:=b3.sfz (j*3+1);have e8:=b3.sfz (j*3+2);obtain⟨c0,c6,c7,c8⟩:=b3.cells;obtain⟨k0,k1,k2⟩:=eY e3;have b5:=ae e3
  cases o with
  |none=>
   rw[yc ho];simp only[Bool.or_false];obtain⟨t0,t1,t2⟩:=b3.unk ho;have l5:lb.length≤1000:=by have:=hz.2.2;omega
   go_in
   go_wp2_with fail;revert e5 e3 b3 g0 f7 f6 e9 f0 e6 e7 e8 c0 c6 c7 c8 k0 k1 k2 b5 t0 t1 t2;generalize (w.alloc (.cells #[.bool true,.slice aa sb.length ca,.slice al lb.length cl] 117))=W;intro e5 e3 b3 g0 f7 f6 e9 f0 e6 e7 e8 c0 c6 c7 c8 k0 k1 k2 b5 t0 t1 t2;have a8:=b3.lt;have b0:But (fun _=>False) W W.drew:=But.drew _ _;have j7:=hid (lG 0 true aa al ca cl sb lb W.drew (g0.but b0 (fun _ _ h=>h)) (f7.but b0 (fun _ _ h=>h)) (by omega) l5);unfold xsV at j7;refine aB (But (fun _=>False) W) 7 (by kernel_rfl) ?_
   iterate 6 (refine aG (v:=?_) rfl (by kernel_rfl) (fun _ _ _ h=>h) rfl b0 ?_ ?_;rotate_left;(focus (intro wS h;have q0:=(h.kc c6 a8.1);have q1:=(h.kc k0 b5);have q2:=(h.kc k1 b5);have q3:=(h.kc k2 b5);clear h;go_simp;try rfl));dsimp only[Act.put];try simp only[aK])
   refine ag rfl (by kernel_rfl) ?_;intro KS hKS;go_simp;refine j7.out.mono ?_;rintro en w2 ⟨j3,a1,c1,a2,c2,G2,rfl,l6,j4,_,_,_⟩;clear j7;have b2:=b0.trans j3;refine hKS.out _ _ (fun _=>b2) ?_;clear hKS KS;have b4:=b3.next b2;have g3:But (fun k=>k=bb∨k=gs∨k=gw) w w2:=f6.next b2 (fun _ _ h=>h.elim);clear e9 f0 e6 e7 e8 c0 c6 c7 c8 k0 k1 k2 t0 t1 t2;obtain⟨t0,t1,t2⟩:=b4.unk ho;have e6:=b4.sfz (j*3);have e7:=b4.sfz (j*3+1);have e8:=b4.sfz (j*3+2);have a0:=b4.lay hj (v1:= .slice a1 sb.length c1) (v2:= .slice a2 lb.length c2) (World.ownsRow.mono l6 (Nat.zero_le _)) (World.ownsRow.mono j4 (Nat.zero_le _))
   have j0:But (fun k=>k=bb∨k=gs∨k=gw) w2 (((w2.setCell ⟨gs,j*3,none⟩ (.bool true)).setCell ⟨gs,j*3+1,none⟩ (.slice a1 sb.length c1)).setCell ⟨gs,j*3+2,none⟩ (.slice a2 lb.length c2)):=(((But.setB w2 gs _ _).trans (But.setB _ gs _ _)).trans (But.setB _ gs _ _)).mono (fun k _ h=>Or.inr (Or.inl h));have h5:=hid a0;have h3:=hid j0;clear a0 j0 b3 e3 hB e5;refine ag rfl (by kernel_rfl) ?_;intro KS hKS;go_simp;refine hKS.out _ _ nofun ?_;clear hKS KS;refine ag rfl (by kernel_rfl) ?_;intro KS hKS;go_simp;refine hKS.out _ _ nofun ?_;clear hKS KS;refine aF rfl (by kernel_rfl) ?_;revert h5 h3;generalize (((w2.setCell ⟨gs,j*3,none⟩ (.bool true)).setCell ⟨gs,j*3+1,none⟩ (.slice a1 sb.length c1)).setCell ⟨gs,j*3+2,none⟩ (.slice a2 lb.length c2))=w3
   intro h5 h3;have a0:=h5.out;clear t0 t1 t2 e6 e7 e8;obtain⟨c0,c6,c7,c8⟩:=a0.cells;obtain⟨e9,f0⟩:=a0.wcell (k:=j) (by rw[List.length_set];exact hj);rw[List.length_set]at c6 c7;have d6:=a0.wait j true;have j5:=hid d6;clear d6 a0;go_wp2_with fail;exact fV Tryz.results105 rfl ⟨rfl,(g3.trans h3.out).trans ((But.setB _ _ _ _).mono (fun k _ h=>Or.inr (Or.inr h))),j5.out⟩
  |some o=>
   obtain⟨sa,la⟩:=o;obtain⟨m3,m0⟩:=hwf.2 j sa la ho;have n7:=o7 tab;obtain⟨a3,c3,a4,c4,t0,t1,t2,h2,h0⟩:=b3.known ho
   by_cases hlen:sa.length=sb.length
   ·have l2:((sa.length:Int)==(sb.length:Int))=true:=by rw[hlen];simp
    have l3:((sa.length:Int)!=(sb.length:Int))=false:=by simp[bne,l2]
    have i1:(sa.length:Int)=(sb.length:Int):=by rw[hlen]
    have n0:=hid i1;have g1:=hid hlen;have n3:sa.length≤sb.length:=by omega
    have n4:sb.length≤sa.length:=by omega
    clear i1 hlen
    go_in
    go_wp2_with fail;revert e5 e3 b3 g0 f7 f6 e9 f0 e6 e7 e8 c0 c6 c7 c8 k0 k1 k2 b5 t0 t1 t2 h2 h0;generalize (w.alloc (.cells #[.bool true,.slice aa sb.length ca,.slice al lb.length cl] 117))=W;intro e5 e3 b3 g0 f7 f6 e9 f0 e6 e7 e8 c0 c6 c7 c8 k0 k1 k2 b5 t0 t1 t2 h2 h0;have a8:=b3.lt;have b0:But (fun _=>False) W W.drew:=But.drew _ _;refine aB (But (fun _=>False) W) 13 (by kernel_rfl) ?_
    iterate 13 (refine aG (v:=?_) rfl (by kernel_rfl) (fun _ _ _ h=>h) rfl b0 ?_ ?_;rotate_left;(focus (intro wS h;have q0:=(h.kc c6 a8.1);have q1:=(h.kc t1 a8.2.1);have q2:=(h.kc k1 b5);clear h;go_simp;try rfl));dsimp only[Act.put];try simp only[aK])
    refine aF rfl (by kernel_rfl) ?_;have b1:=b3.next b0;have h1:=g0.but b0 (fun _ _ h=>h);have i0:=f7.but b0 (fun _ _ h=>h);have e1:=h2.but b0 (fun _ _ h=>h);have e2:=h0.but b0 (fun _ _ h=>h);have g7:=(b0.block w.heap.size b5 (fun h=>h)).trans e3;have e0:But (fun k=>k=bb∨k=gs∨k=gw) w W.drew:=f6.next b0 (fun _ _ h=>h.elim);have u0:=b0.kc t0 a8.2.1;have u1:=b0.kc t1 a8.2.1;have u2:=b0.kc t2 a8.2.1;clear e9 f0 e6 e7 e8 c0 c6 c7 c8 k0 k1 k2 t0 t1 t2 h2 h0 b3 g0 f7 e3 e5 f6 b5 a8 hB;revert b1 h1 i0 e1 e2 g7 e0 u0 u1 u2;generalize W.drew=w1;intro b1 h1 i0 e1 e2 g7 e0 t0 t1 t2;clear b0;obtain⟨c0,c6,c7,c8⟩:=b1.cells
    obtain⟨k0,k1,k2⟩:=eY g7;have b5:=ae g7;have a7:=b1.lt;go_wp2_with fail;have i4:But (fun _=>False) w1 w1.drew:=But.drew _ _;have i3:=jF b (im.classes.map toX) a3 aa c3 ca sa sb w1.drew (by rw[List.length_map];have:=hW.nc;omega) (m4.out _ (b1.but.trans i4)) (e1.but i4 (fun _ _ h=>h)) (h1.but i4 (fun _ _ h=>h)) g1.out (by omega);rw[mX hW.cls hW.nc m3.1 hz.1]at i3;have i6:=hid i3;clear i3;refine aB (But (fun _=>False) w1) 15 (by kernel_rfl) ?_
    iterate 14 (refine aG (v:=?_) rfl (by kernel_rfl) (fun _ _ _ h=>h) rfl i4 ?_ ?_;rotate_left;(focus (intro wS h;have q0:=(h.kc c0 a7.1);have q1:=(h.kc c6 a7.1);have q2:=(h.kc t1 a7.2.1);have q3:=(h.kc k1 b5);clear h;go_simp;try rfl));dsimp only[Act.put];try simp only[aK])
    refine ag rfl (by kernel_rfl) ?_;intro KS hKS;go_simp;refine i6.out.mono ?_;rintro en w2 ⟨j3,v5,rfl,k9⟩;obtain⟨a5,c5,o0⟩:=aq k9;subst o0;have b2:=i4.trans j3;refine hKS.out _ _ (fun _=>b2) ?_;clear hKS KS i6;refine ag rfl (by kernel_rfl) ?_;intro KS hKS;go_simp;refine hKS.out _ _ nofun ?_;clear hKS KS;refine aF rfl (by kernel_rfl) ?_;have b4:=b1.next b2;have l6:=h1.but b2 (fun _ _ h=>h);have j4:=i0.but b2 (fun _ _ h=>h);have j1:=e1.but b2 (fun _ _ h=>h);have i2:=e2.but b2 (fun _ _ h=>h);have l1:=(b2.block w.heap.size b5 (fun h=>h)).trans g7;have g3:But (fun k=>k=bb∨k=gs∨k=gw) w w2:=e0.next b2 (fun _ _ h=>h.elim)
    have h8:BtB w2 0 (.slice a5 (cS im.classes sa sb).length c5) (cS im.classes sa sb):=World.ownsRow.mono k9 (Nat.zero_le _);have u0:=b2.kc t0 a7.2.1;have u1:=b2.kc t1 a7.2.1;have u2:=b2.kc t2 a7.2.1;clear c0 c6 c7 c8 k0 k1 k2 t0 t1 t2 b1 h1 i0 e1 e2 g7 e0 b5 a7 b2 j3 i4 k9;obtain⟨c0,c6,c7,c8⟩:=b4.cells;obtain⟨k0,k1,k2⟩:=eY l1;have b5:=ae l1;have a7:=b4.lt;have t0:=u0;have t1:=u1;have t2:=u2;clear u0 u1 u2;obtain⟨M1,g4⟩: ∃M1,cS im.classes sa sb=M1:=⟨_,rfl⟩;rw[g4]at h8;rw[g4];have f1:=hid g4;clear g4;go_wp2_with fail;have i5:But (fun _=>False) w2 w2.drew:=But.drew _ _;have i3:=jF b (im.classes.map toX) a4 al c4 cl la lb w2.drew (by rw[List.length_map];have:=hW.nc;omega) (m4.out _ (b4.but.trans i5)) (i2.but i5 (fun _ _ h=>h)) (j4.but i5 (fun _ _ h=>h)) (by rw[m3.2.2,hz.2.2]) (by have:=hz.2.2;omega)
    rw[mX hW.cls hW.nc m3.2.1 hz.2.1]at i3;have i6:=hid i3;clear i3;refine aB (But (fun _=>False) w2) 15 (by kernel_rfl) ?_
    iterate 14 (refine aG (v:=?_) rfl (by kernel_rfl) (fun _ _ _ h=>h) rfl i5 ?_ ?_;rotate_left;(focus (intro wS h;have q0:=(h.kc c0 a7.1);have q1:=(h.kc c6 a7.1);have q2:=(h.kc t2 a7.2.1);have q3:=(h.kc k2 b5);clear h;go_simp;try rfl));dsimp only[Act.put];try simp only[aK])
    refine ag rfl (by kernel_rfl) ?_;intro KS hKS;go_simp;refine i6.out.mono ?_;rintro en w3 ⟨m5,v6,rfl,l0⟩;obtain⟨a6,j2,o1⟩:=aq l0;subst o1;have b2:=i5.trans m5;refine hKS.out _ _ (fun _=>b2) ?_;clear hKS KS i6;refine ag rfl (by kernel_rfl) ?_;intro KS hKS;go_simp;refine hKS.out _ _ nofun ?_;clear hKS KS;refine aF rfl (by kernel_rfl) ?_;have a0:=b4.next b2;have m1:=j1.but b2 (fun _ _ h=>h);have l4:=i2.but b2 (fun _ _ h=>h);have h9:=h8.but b2 (fun _ _ h=>h);have h7:But (fun k=>k=bb∨k=gs∨k=gw) w w3:=g3.next b2 (fun _ _ h=>h.elim);have g5:BtB w3 0 (.slice a6 (cS im.classes la lb).length j2) (cS im.classes la lb):=World.ownsRow.mono l0 (Nat.zero_le _)
    have u0:=b2.kc t0 a7.2.1;have u1:=b2.kc t1 a7.2.1;have u2:=b2.kc t2 a7.2.1;clear c0 c6 c7 c8 k0 k1 k2 t0 t1 t2 b4 l6 j4 j1 i2 l1 g3 b5 a7 b2 m5 i5 l0 h8;obtain⟨c0,c6,c7,c8⟩:=a0.cells;have a7:=a0.lt;have t0:=u0;have t1:=u1;have t2:=u2;clear u0 u1 u2;obtain⟨M2,g6⟩: ∃M2,cS im.classes la lb=M2:=⟨_,rfl⟩;rw[g6]at g5;rw[g6];have f2:=hid g6;clear g6;have f3:=hid (oI a5 a3 c5 c3 M1 sa w3 h9 m1);have g2:=hid (oI a6 a4 j2 c4 M2 la w3 g5 l4)
    by_cases hq1:M1=sa
    ·rw[show decide (M1=sa)=true from by simp[hq1]]at f3
     by_cases hq2:M2=la
     ·rw[show decide (M2=la)=true from by simp[hq2]]at g2;have b6:=zG (cs:=im.classes) (wt:=wt) (lb:=lb) ho g1.out (by rw[f1.out,hq1]) (by rw[f2.out,hq2]);have i7:=hid b6;clear b6 hq1 hq2;go_wp2_with fail;refine f3.out.mono ?_;rintro en wx ⟨rfl,e4⟩;rw[e4];clear e4 wx;go_wp2_with fail;refine g2.out.mono ?_;rintro en wx ⟨rfl,e4⟩;rw[e4];clear e4 wx;go_wp2_with fail;exact fV Tryz.results105 rfl ⟨rfl,h7,by rw[i7.out];simpa using a0⟩
     ·rw[show decide (M2=la)=false from by simp[hq2]]at g2;have k3:Hid (¬(M1=sa∧M2=la)):=hid (fun h=>hq2 h.2);clear hq1 hq2;have b6:=yd (cs:=im.classes) (wt:=wt) (lb:=lb) ho g1.out (fun h=>k3.out ⟨f1.out▸h.1,f2.out▸h.2⟩);rw[f1.out,f2.out]at b6;have i7:=hid b6;have e6:=a0.sfz (j*3);have e7:=a0.sfz (j*3+1);have e8:=a0.sfz (j*3+2);have d6:=a0.lay hj h9 g5;have f4:But (fun k=>k=bb∨k=gs∨k=gw) w3 (((w3.setCell ⟨gs,j*3,none⟩ (.bool true)).setCell ⟨gs,j*3+1,none⟩ (.slice a5 M1.length c5)).setCell ⟨gs,j*3+2,none⟩ (.slice a6 M2.length j2)):=(((But.setB w3 gs _ _).trans (But.setB _ gs _ _)).trans (But.setB _ gs _ _)).mono (fun k _ h=>Or.inr (Or.inl h))
      have m2:=a0.wcell hj;have n6:=a0.ne;have f5:=d6.wait j true;have h6:=hid f5;have h4:=hid f4;obtain⟨e9,f0⟩:=m2;clear b6 d6 f4 f5 a0;go_wp2_with fail;refine f3.out.mono ?_;rintro en wx ⟨rfl,e4⟩;rw[e4];clear e4 wx;go_wp2_with fail;refine g2.out.mono ?_;rintro en wx ⟨rfl,e4⟩;rw[e4];clear e4 wx;go_wp2_with fail;go_end0;refine⟨rfl,(h7.trans h4.out).trans ((But.setB _ _ _ _).mono (fun k _ h=>Or.inr (Or.inr h))),?_⟩;rw[i7.out];simpa using h6.out
    ·rw[show decide (M1=sa)=false from by simp[hq1]]at f3;have k3:Hid (¬(M1=sa∧M2=la)):=hid (fun h=>hq1 h.1);clear hq1;have b6:=yd (cs:=im.classes) (wt:=wt) (lb:=lb) ho g1.out (fun h=>k3.out ⟨f1.out▸h.1,f2.out▸h.2⟩);rw[f1.out,f2.out]at b6;have i7:=hid b6;have e6:=a0.sfz (j*3);have e7:=a0.sfz (j*3+1);have e8:=a0.sfz (j*3+2);have d6:=a0.lay hj h9 g5;have f4:But (fun k=>k=bb∨k=gs∨k=gw) w3 (((w3.setCell ⟨gs,j*3,none⟩ (.bool true)).setCell ⟨gs,j*3+1,none⟩ (.slice a5 M1.length c5)).setCell ⟨gs,j*3+2,none⟩ (.slice a6 M2.length j2)):=(((But.setB w3 gs _ _).trans (But.setB _ gs _ _)).trans (But.setB _ gs _ _)).mono (fun k _ h=>Or.inr (Or.inl h))
     have m2:=a0.wcell hj;have n6:=a0.ne;have f5:=d6.wait j true;have h6:=hid f5;have h4:=hid f4;obtain⟨e9,f0⟩:=m2;clear b6 d6 f4 f5 a0;go_wp2_with fail;refine f3.out.mono ?_;rintro en wx ⟨rfl,e4⟩;rw[e4];clear e4 wx;go_wp2_with fail;go_end0;refine⟨rfl,(h7.trans h4.out).trans ((But.setB _ _ _ _).mono (fun k _ h=>Or.inr (Or.inr h))),?_⟩;rw[i7.out];simpa using h6.out
   ·rw[AD ho hlen];simp only[Bool.or_true];have l2:((sa.length:Int)==(sb.length:Int))=false:=by rw[beq_eq_false_iff_ne];omega
    have l3:((sa.length:Int)!=(sb.length:Int))=true:=by simp[bne,l2]
    have i1: ¬(sa.length:Int)=(sb.length:Int):=by omega
    go_in
    go_wp2_with fail;revert e5 e3 b3 g0 f7 f6 e9 f0 e6 e7 e8 c0 c6 c7 c8 k0 k1 k2 b5 t0 t1 t2 h2 h0;generalize (w.alloc (.cells #[.bool true,.slice aa sb.length ca,.slice al lb.length cl] 117))=W;intro e5 e3 b3 g0 f7 f6 e9 f0 e6 e7 e8 c0 c6 c7 c8 k0 k1 k2 b5 t0 t1 t2 h2 h0;have a8:=b3.lt;have b0:But (fun _=>False) W W.drew:=But.drew _ _;refine aB (But (fun _=>False) W) 13 (by kernel_rfl) ?_
    iterate 13 (refine aG (v:=?_) rfl (by kernel_rfl) (fun _ _ _ h=>h) rfl b0 ?_ ?_;rotate_left;(focus (intro wS h;have q0:=(h.kc c6 a8.1);have q1:=(h.kc t1 a8.2.1);have q2:=(h.kc k1 b5);clear h;go_simp;try rfl));dsimp only[Act.put];try simp only[aK])
    refine aF rfl (by kernel_rfl) ?_;have b1:=b3.next b0;have h1:=g0.but b0 (fun _ _ h=>h);have i0:=f7.but b0 (fun _ _ h=>h);have e1:=h2.but b0 (fun _ _ h=>h);have e2:=h0.but b0 (fun _ _ h=>h);have g7:=(b0.block w.heap.size b5 (fun h=>h)).trans e3;have e0:But (fun k=>k=bb∨k=gs∨k=gw) w W.drew:=f6.next b0 (fun _ _ h=>h.elim);have u0:=b0.kc t0 a8.2.1;have u1:=b0.kc t1 a8.2.1;have u2:=b0.kc t2 a8.2.1;clear e9 f0 e6 e7 e8 c0 c6 c7 c8 k0 k1 k2 t0 t1 t2 h2 h0 b3 g0 f7 e3 e5 f6 b5 a8 hB;revert b1 h1 i0 e1 e2 g7 e0 u0 u1 u2;generalize W.drew=w1;intro b1 h1 i0 e1 e2 g7 e0 t0 t1 t2;clear b0;obtain⟨c0,c6,c7,c8⟩:=b1.cells
    have f8:=b1.fz 8;go_wp2_with fail;exact fV Tryz.results105 rfl ⟨rfl,e0.trans ((But.setB _ _ _ _).mono (fun k _ h=>Or.inl h)),b1.fail⟩
 ·have n2: ¬(j:Int)<(tab.length:Int):=by omega
  have n1: ¬(j:Int)<0:=by omega
  rw[AC (by omega)];simp only[Bool.or_true];obtain⟨c0,c6,c7,c8⟩:=b3.cells;have f8:=b3.fz 8;have o2:=hid b3;have HB:=hid hB;clear e3 hB
  go_in
  go_wp2_with fail;exact fV Tryz.results105 rfl ⟨rfl,((But.setB _ _ _ _).mono (fun k _ h=>Or.inl h)).trans (But.alloc _ _ _),HB.out.fail.next (But.alloc _ _ _)⟩
end
end Go.Proofs.YtpfkkmacakjmbaaGreatDoor
