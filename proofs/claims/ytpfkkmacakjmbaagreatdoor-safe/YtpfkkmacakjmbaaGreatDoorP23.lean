import Derived.Test.YtpfkkmacakjmbaaGreatDoorP22
import Derived.Test.YtpfkkmacakjmbaaGreatDoorP03
set_option maxRecDepth 100000
set_option maxHeartbeats 6400000
set_option linter.all false
namespace Go.Proofs.YtpfkkmacakjmbaaGreatDoor
open Proofs.Tryz
section
open Go Go.RowKit Sp
section
variable {im:Img} {bd:Bod} {x:Ins}
theorem lW {c:UInt8} (h:cV.contains c.toNat=true):c=107\/c=114\/c=119\/c=108\/c=115\/c=43\/c=45\/c=42\/c=47\/c=60\/c=61\/c=101\/c=110\/c=122\/c=103\/c=112\/c=99\/c=120\/c=100\/c=106\/c=102\/c=116:=by
 have h1:c.toNat∈cV:=List.elem_iff.1 h;simp only[cV,List.mem_cons,List.not_mem_nil,or_false]at h1;have e: ∀n:Nat,n<256->c.toNat=n->c=UInt8.ofNat n:=λn hn h=>(u8n hn).1 h
 obtain h|h|h|h|h|h|h|h|h|h|h|h|h|h|h|h|h|h|h|h|h|h:=h1<;>(have:=e _ (by decide) h;simp at this;simp[this])
theorem xA (hW:WfI im) (ha:x.a<im.zz.length) (hb:x.b<bH im.zz x.a):cB (cQ (im.zz.map toX) (UInt8.ofNat (65+x.a))) x.b=cO im.zz x.a x.b:=by
 obtain⟨hl,hk⟩:=AJ ha hW.nc;have hv:(UInt8.ofNat (65+x.a)).toNat-65=x.a:=by have:=hW.nc;simp;omega
 have a0:=km (a:=0) hl;rw[hv]at a0;unfold cB;rw[if_pos (by rw[<-a0];exact hb)];unfold cO cQ;rw[cP,if_pos hl,cg,hv]
 cases im.zz[x.a]?<;>rfl
theorem yY (hW:WfI im) (hbd:WfB im.zz im.zj bd) (hx:WfX im.zz im.zj.length bd.locals.length x):
  aE (im.zz.map toX) im.zj (bP x).op (bP x).cls (bP x).num (bu im.zj bd).ans=cw im.zz im.zj bd x:=by
 have e1:(bP x).op=x.op:=rfl;have e2:(bP x).num=x.b:=rfl;rw[e1,e2];have hc:=λh=>pJ (x:=x) h
 obtain h|h|h|h|h|h|h|h|h|h|h|h|h|h|h|h|h|h|h|h|h|h:=lW hx.op
 .have hn:x.op.toNat=107:=by rw[h];rfl
  simp[aE,cw,bQ,arith,hn]
 .have hn:x.op.toNat=114:=by rw[h];rfl
  simp[aE,cw,bQ,arith,hn]
 .have hn:x.op.toNat=119:=by rw[h];rfl
  simp[aE,cw,bQ,arith,hn]
 .have hn:x.op.toNat=108:=by rw[h];rfl
  simp[aE,cw,bQ,arith,hn]
 .have hn:x.op.toNat=115:=by rw[h];rfl
  simp[aE,cw,bQ,arith,hn]
 .have hn:x.op.toNat=43:=by rw[h];rfl
  simp[aE,cw,bQ,arith,hn]
 .have hn:x.op.toNat=45:=by rw[h];rfl
  simp[aE,cw,bQ,arith,hn]
 .have hn:x.op.toNat=42:=by rw[h];rfl
  simp[aE,cw,bQ,arith,hn]
 .have hn:x.op.toNat=47:=by rw[h];rfl
  simp[aE,cw,bQ,arith,hn]
 .have hn:x.op.toNat=60:=by rw[h];rfl
  simp[aE,cw,bQ,arith,hn]
 .have hn:x.op.toNat=61:=by rw[h];rfl
  simp[aE,cw,bQ,arith,hn]
 .have hn:x.op.toNat=101:=by rw[h];rfl
  simp[aE,cw,bQ,arith,hn]
 .have hn:x.op.toNat=110:=by rw[h];rfl
  simp[aE,cw,bQ,arith,hn]
 .have hn:x.op.toNat=122:=by rw[h];rfl
  simp[aE,cw,bQ,arith,hn]
 .have hn:x.op.toNat=103:=by rw[h];rfl
  rw[hc (by omega)];simp[aE,cw,bQ,arith,hn]
 .have hn:x.op.toNat=112:=by rw[h];rfl
  have e3:=xA hW (hx.cls (by omega)) (hx.fld (by omega));rw[hc (by omega)];unfold dI;simp only[aE,cw,bQ,arith,hn,dI];simp only[e3];simp
 .have hn:x.op.toNat=99:=by rw[h];rfl
  have e3:=mY (hx.sig hn);rw[hc (by omega)];simp[aE,cw,bQ,arith,hn,e3.1]
 .have hn:x.op.toNat=120:=by rw[h];rfl
  simp[aE,cw,bQ,arith,hn]
 .have hn:x.op.toNat=100:=by rw[h];rfl
  simp[aE,cw,bQ,arith,hn]
 .have hn:x.op.toNat=106:=by rw[h];rfl
  simp[aE,cw,bQ,arith,hn]
 .have hn:x.op.toNat=102:=by rw[h];rfl
  simp[aE,cw,bQ,arith,hn]
 .have hn:x.op.toNat=116:=by rw[h];rfl
  by_cases hcl:bd.cls<0
  .simp[aE,cw,bQ,arith,hn,bu,hcl]
  .have e3:(dx im.zj bd.meth.toNat).ret=gZ im.zj bd.meth.toNat:=by
    obtain⟨h1,_⟩ | ⟨h1,h2,h3,h4⟩:=hbd.cls
    .omega
    .exact(mY (by omega)).2
   simp[aE,cw,bQ,arith,hn,bu,hcl,e3]
theorem yZ (hW:WfI im) {a c:UInt8} (ha:okT im.zz.length a=true) (hc:okT im.zz.length c=true\/c=38):cJ (im.zz.map toX) a c=gM im.zz a c:=by
 unfold cJ gM;rw[cP]
 by_cases h:c.toNat=38
 .rw[if_pos h,if_pos h];unfold isR;rw[fP hW.cls hW.nc ha]
 .rw[if_neg h,if_neg h];obtain hc|rfl:=hc
  .exact iT hW.cls hW.nc ha hc
  .exact absurd rfl h
theorem y7 (hW:WfI im) (hbd:WfB im.zz im.zj bd) (hx:WfX im.zz im.zj.length bd.locals.length x): ∀c∈cw im.zz im.zj bd x,okT im.zz.length c=true\/c=38:=by
 intro c hc;unfold cw at hc
 split at hc
 .simp at hc;subst hc;left;simp[eF]
 split at hc
 .simp at hc;right;exact hc
 split at hc
 .simp at hc;right;exact hc
 .left;exact tP hW hbd hx c hc
theorem uF (hW:WfI im) {st asked:L_} (hs: ∀c∈st,okT im.zz.length c=true) (ha: ∀c∈asked,okT im.zz.length c=true\/c=38) (hl:asked.length<=st.length):
  ju (im.zz.map toX) st asked=kD im.zz st asked:=by
 unfold ju kD;rw[show decide (asked.length<=st.length)=true from by simp[hl],Bool.true_and,Bool.eq_iff_iff];simp only[List.all_eq_true,List.mem_range]
 have key: ∀i,i<asked.length->cJ (im.zz.map toX) (st.getD (st.length-asked.length+i) 0) (asked.getD i 0)=gM im.zz (st.getD (st.length-asked.length+i) 0) (asked.getD i 0):=by
  intro i hi;refine yZ hW (mK hs (by omega)) ?_;have:asked.getD i 0=asked[i]:=by simp[List.getD,hi]
  rw[this];exact ha _ (cN hi)
 exact⟨λh i hi=>by rw[<-key i hi];exact h i hi,λh i hi=>by rw[key i hi];exact h i hi⟩
theorem uG (hW:WfI im) (hx:WfX im.zz im.zj.length bd.locals.length x) {lo:L_} (hl:lo.length=bd.locals.length) (hlo: ∀c∈lo,okT im.zz.length c=true):
  (if(aM (im.zz.map toX) im.zj (bP x).op (bP x).cls (bP x).num lo).toNat=0 then []else [aM (im.zz.map toX) im.zj (bP x).op (bP x).cls (bP x).num lo])=ei im.zz im.zj x lo/\
  (x.op.toNat=108->aM (im.zz.map toX) im.zj (bP x).op (bP x).cls (bP x).num lo=lo.getD x.b 0):=by
 have e1:(bP x).op=x.op:=rfl;have e2:(bP x).num=x.b:=rfl;rw[e1,e2];have a1: ∀c:UInt8,okT im.zz.length c=true->c.toNat≠0:=λc h=>by rw[eF]at h;omega
 have a0:=tn hW hx;have hc:=λh=>pJ (x:=x) h
 obtain h|h|h|h|h|h|h|h|h|h|h|h|h|h|h|h|h|h|h|h|h|h:=lW hx.op
 .have hn:x.op.toNat=107:=by rw[h];rfl
  exact⟨by simp[aM,ei,bZ,arith,hn],λh=>by omega⟩
 .have hn:x.op.toNat=114:=by rw[h];rfl
  exact⟨by simp[aM,ei,bZ,arith,hn],λh=>by omega⟩
 .have hn:x.op.toNat=119:=by rw[h];rfl
  exact⟨by simp[aM,ei,bZ,arith,hn],λh=>by omega⟩
 .have hn:x.op.toNat=108:=by rw[h];rfl
  have hb:=hx.loc (Or.inl hn);have e3:cB lo x.b=lo.getD x.b 0:=by unfold cB;rw[if_pos (by omega)]
  have e4:=a1 _ (mK hlo (k:=x.b) (by omega));have e5:aM (im.zz.map toX) im.zj x.op (bP x).cls x.b lo=lo.getD x.b 0:=by rw[<-e3];simp[aM,hn]
  rw[e5,if_neg e4];exact⟨by simp[ei,hn],λ_=>rfl⟩
 .have hn:x.op.toNat=115:=by rw[h];rfl
  exact⟨by simp[aM,ei,bZ,arith,hn],λh=>by omega⟩
 .have hn:x.op.toNat=43:=by rw[h];rfl
  exact⟨by simp[aM,ei,bZ,arith,hn],λh=>by omega⟩
 .have hn:x.op.toNat=45:=by rw[h];rfl
  exact⟨by simp[aM,ei,bZ,arith,hn],λh=>by omega⟩
 .have hn:x.op.toNat=42:=by rw[h];rfl
  exact⟨by simp[aM,ei,bZ,arith,hn],λh=>by omega⟩
 .have hn:x.op.toNat=47:=by rw[h];rfl
  exact⟨by simp[aM,ei,bZ,arith,hn],λh=>by omega⟩
 .have hn:x.op.toNat=60:=by rw[h];rfl
  exact⟨by simp[aM,ei,bZ,arith,hn],λh=>by omega⟩
 .have hn:x.op.toNat=61:=by rw[h];rfl
  exact⟨by simp[aM,ei,bZ,arith,hn],λh=>by omega⟩
 .have hn:x.op.toNat=101:=by rw[h];rfl
  exact⟨by simp[aM,ei,bZ,arith,hn],λh=>by omega⟩
 .have hn:x.op.toNat=110:=by rw[h];rfl
  have ha:=hx.cls (by omega);have a2:=hW.nc;have e4:(dI x.a).toNat≠0:=by simp[dI];omega
  rw[hc (by omega)];have e5:aM (im.zz.map toX) im.zj x.op (dI x.a) x.b lo=dI x.a:=by simp[aM,hn]
  rw[e5,if_neg e4];exact⟨by simp[ei,bZ,arith,hn],λh=>by omega⟩
 .have hn:x.op.toNat=122:=by rw[h];rfl
  exact⟨by simp[aM,ei,bZ,arith,hn],λh=>by omega⟩
 .have hn:x.op.toNat=103:=by rw[h];rfl
  have e3:=xA hW (hx.cls (by omega)) (hx.fld (by omega));have e6:ei im.zz im.zj x lo=[cO im.zz x.a x.b]:=by simp[ei,bZ,arith,hn]
  have e7:cO im.zz x.a x.b∈bZ im.zz im.zj x:=by simp[bZ,arith,hn]
  have e4:=a1 _ (a0 _ e7);rw[hc (by omega)];have e5:aM (im.zz.map toX) im.zj x.op (dI x.a) x.b lo=cO im.zz x.a x.b:=by rw[<-e3];simp[aM,hn,dI]
  rw[e5,if_neg e4,e6];exact⟨rfl,λh=>by omega⟩
 .have hn:x.op.toNat=112:=by rw[h];rfl
  exact⟨by simp[aM,ei,bZ,arith,hn],λh=>by omega⟩
 .have hn:x.op.toNat=99:=by rw[h];rfl
  have e3:=mY (hx.sig hn);have e6:ei im.zz im.zj x lo=[gZ im.zj x.b]:=by simp[ei,bZ,arith,hn]
  have e7:gZ im.zj x.b∈bZ im.zz im.zj x:=by simp[bZ,arith,hn]
  have e4:=a1 _ (a0 _ e7);have e5:aM (im.zz.map toX) im.zj x.op (bP x).cls x.b lo=gZ im.zj x.b:=by rw[<-e3.2];simp[aM,hn]
  rw[e5,if_neg e4,e6];exact⟨rfl,λh=>by omega⟩
 .have hn:x.op.toNat=120:=by rw[h];rfl
  have ha:=hx.cls (by omega);have a2:=hW.nc;have e4:(dI x.a).toNat≠0:=by simp[dI];omega
  rw[hc (by omega)];have e5:aM (im.zz.map toX) im.zj x.op (dI x.a) x.b lo=dI x.a:=by simp[aM,hn]
  rw[e5,if_neg e4];exact⟨by simp[ei,bZ,arith,hn],λh=>by omega⟩
 .have hn:x.op.toNat=100:=by rw[h];rfl
  exact⟨by simp[aM,ei,bZ,arith,hn],λh=>by omega⟩
 .have hn:x.op.toNat=106:=by rw[h];rfl
  exact⟨by simp[aM,ei,bZ,arith,hn],λh=>by omega⟩
 .have hn:x.op.toNat=102:=by rw[h];rfl
  exact⟨by simp[aM,ei,bZ,arith,hn],λh=>by omega⟩
 .have hn:x.op.toNat=116:=by rw[h];rfl
  exact⟨by simp[aM,ei,bZ,arith,hn],λh=>by omega⟩
theorem y8 (hW:WfI im) (hbd:WfB im.zz im.zj bd) (hx:WfX im.zz im.zj.length bd.locals.length x) {st lo:L_} (hz:okZ im.zz.length bd.locals.length st lo):
  sK (im.zz.map toX) im.zj (bP x) (bu im.zj bd).ans st lo=eN im.zz im.zj bd x st lo:=by
 rw[yb hW hbd hx];unfold sK oS;rw[yY hW hbd hx];have a3:=y7 hW hbd hx;have e1:(bP x).op=x.op:=rfl;have e2:(bP x).num=x.b:=rfl
 by_cases hl:st.length<(cw im.zz im.zj bd x).length
 .rw[if_pos (Or.inl hl)]
  have:kD im.zz st (cw im.zz im.zj bd x)=false:=by
   unfold kD;rw[Bool.and_eq_false_iff]
   left
   simp;omega
  rw[if_pos (Or.inl this)]
 .have a5:=uF hW hz.1 a3 (by omega:(cw im.zz im.zj bd x).length<=st.length);rw[a5]
  cases hsu:kD im.zz st (cw im.zz im.zj bd x)with
  |false=>rw[if_pos (Or.inr rfl),if_pos (Or.inl rfl)]
  |true=>
   have a4: ¬(st.length<(cw im.zz im.zj bd x).length\/true=false):=by simp;omega
   rw[if_neg a4];rw[e1,e2]
   by_cases h115:x.op.toNat=115
   .have hb:=hx.loc (Or.inr h115);have a2:(cw im.zz im.zj bd x).length=1:=by unfold cw;rw[if_pos (Or.inl h115)];rfl
    have a0: ¬x.op.toNat=108:=by omega
    rw[if_neg (λh=>h.2 (by rw[hz.2.2];exact hb))];simp only[a0,false_and,if_false,or_false,Bool.true_eq_false];rw[if_pos h115,if_pos h115,a2];have a6:okT im.zz.length (st.getD (st.length-1) 0)=true:=mK hz.1 (by rw[a2]at hl;omega)
    have a1:=uG hW hx (lo:=lo.set x.b (st.getD (st.length-1) 0)) (by rw[List.length_set];exact hz.2.2) (λc hc=>by
     obtain h|h:=List.mem_or_eq_of_mem_set hc
     .exact hz.2.1 c h
     .rw[h];exact a6)
    rw[e1,e2]at a1;rw[a1.1]
    congr 2
    unfold ei;rw[if_neg a0,if_neg a0]
   .simp only[h115,false_and,if_false];have a1:=uG hW hx hz.2.2 hz.2.1;rw[e1,e2]at a1;rw[a1.1]
    by_cases a0:x.op.toNat=108
    .rw[a1.2 a0];simp only[a0,true_and,Bool.true_eq_false,false_or]
    .simp only[a0,false_and,if_false,or_false,Bool.true_eq_false]
end
end
section
open Go Go.RowKit Sp
attribute [local go_sem ↓] dG dH
def stC (x:St×Value×Value):List Value:=match x.1 with
 |none=> [.bool false,S_,S_]
 |some _=> [.bool true,x.2.1,x.2.2]
def fD (l:List (St×Value×Value)):List Value:=l.flatMap stC
theorem sL (x:St×Value×Value):(stC x).length=3:=by unfold stC;split<;>rfl
theorem dq {l:List (St×Value×Value)} {j k:Nat} {x:St×Value×Value} (h:l[j]?=some x) (hk:k<3):(fD l)[j*3+k]?=(stC x)[k]?:=eY stC 3 sL l j k x h hk
theorem uH (l:List (St×Value×Value)):(fD l).length=l.length*3:=by
 induction l with
 |nil=>rfl
 |cons x l ih=>simp only[fD,List.flatMap_cons,aZ,sL,List.length_cons]at ih⊢;rw[ih];omega
theorem uI: ∀{l:List (St×Value×Value)} {j:Nat} {y:St×Value×Value} {a b c:Value},stC y=[a,b,c]->j<l.length->(((fD l).set (j*3) a).set (j*3+1) b).set (j*3+2) c=fD (l.set j y):=by
 intro l
 induction l with
 |nil=>intro j y a b c _ h;simp at h
 |cons x l ih=>
  intro j y a b c hy hj
  obtain⟨x0,x1,x2,hx⟩: ∃x0 x1 x2,stC x=[x0,x1,x2]:=by
   have:=sL x
   match hh:stC x,this with
   | [x0,x1,x2],_=>exact⟨x0,x1,x2,rfl⟩
  cases j with
  |zero=>simp[fD,hx,hy]
  |succ j=>
   have:=ih (j:=j) hy (by simpa using hj);simp only[fD,List.flatMap_cons,List.set_cons_succ,hx]at this⊢;rw[<-this];rw[show(j+1)*3=j*3+3 from by omega];simp[List.set_append]
def StB (w:World) (g:Nat) (tab:List St):Prop:=
 ∃l:List (St×Value×Value),w.heap[g]?=some (.cells (fD l).toArray 117)/\l.map (·.1)=tab/\ ∀x∈l,∀s lo,x.1=some (s,lo)->BtB w 0 x.2.1 s/\BtB w 0 x.2.2 lo
theorem StB.off {F:Nat->Prop} {w w':World} {g:Nat} {tab:List St} (h:StB w g tab) (hb:But F w w') (hg: ¬F g) (hf: ∀k cur,w.heap[k]?=some (.cells cur 5)-> ¬F k):StB w' g tab:=by
 obtain⟨l,h1,h2,h3⟩:=h;exact⟨l,(hb.block g (ae h1) hg).trans h1,h2,λx hx s lo e=>⟨bj (h3 x hx s lo e).1 hb (λk cur hh _=>hf k cur hh),bj (h3 x hx s lo e).2 hb (λk cur hh _=>hf k cur hh)⟩⟩
structure Bld (w0 w:World) (bb b gs gw:Nat) (c r:UInt8) (m:Nat) (vl vi:Value) (tab:List St) (wt:List Bool) (bad:Bool):Prop where
 but:B_ w0 w
 gbb:w0.heap.size<=bb
 ggs:w0.heap.size<=gs
 ggw:w0.heap.size<=gw
 blk:w.heap[bb]?=some (.cells #[.pointer (some ⟨b,0,none⟩),.int .u8 c.toNat,.int .i64 m,.int .u8 r.toNat,vl,vi,.slice (some ⟨gs,0,none⟩) tab.length tab.length,.slice (some ⟨gw,0,none⟩) tab.length tab.length,.bool bad] 181)
 sts:StB w gs tab
 wts:WtB w gw wt
 wl:wt.length=tab.length
section
variable {w0 w:World} {bb b gs gw:Nat} {c r:UInt8} {m:Nat} {vl vi:Value} {tab:List St} {wt:List Bool} {bad:Bool}
theorem Bld.cells (h:Bld w0 w bb b gs gw c r m vl vi tab wt bad):
  w.cell? ⟨bb,0,none⟩=some (.pointer (some ⟨b,0,none⟩))/\w.cell? ⟨bb,6,none⟩=some (.slice (some ⟨gs,0,none⟩) tab.length tab.length)/\w.cell? ⟨bb,7,none⟩=some (.slice (some ⟨gw,0,none⟩) tab.length tab.length)/\w.cell? ⟨bb,8,none⟩=some (.bool bad):=by
 refine⟨?_,?_,?_,?_⟩
 .rw[aX w bb 0 _ _ (0,0) h.blk];rfl
 .rw[aX w bb 6 _ _ (0,0) h.blk];rfl
 .rw[aX w bb 7 _ _ (0,0) h.blk];rfl
 .rw[aX w bb 8 _ _ (0,0) h.blk];rfl
theorem Bld.body (h:Bld w0 w bb b gs gw c r m vl vi tab wt bad):
  w.cell? ⟨bb,1,none⟩=some (.int .u8 c.toNat)/\w.cell? ⟨bb,2,none⟩=some (.int .i64 m)/\w.cell? ⟨bb,3,none⟩=some (.int .u8 r.toNat)/\w.cell? ⟨bb,4,none⟩=some vl/\w.cell? ⟨bb,5,none⟩=some vi:=by
 refine⟨?_,?_,?_,?_,?_⟩
 .rw[aX w bb 1 _ _ (0,0) h.blk];rfl
 .rw[aX w bb 2 _ _ (0,0) h.blk];rfl
 .rw[aX w bb 3 _ _ (0,0) h.blk];rfl
 .rw[aX w bb 4 _ _ (0,0) h.blk];rfl
 .rw[aX w bb 5 _ _ (0,0) h.blk];rfl
theorem Bld.fz (h:Bld w0 w bb b gs gw c r m vl vi tab wt bad) (k:Nat):w.frozen? ⟨bb,k,none⟩=false:=b7 w bb k _ _ h.blk
theorem Bld.ne (h:Bld w0 w bb b gs gw c r m vl vi tab wt bad):bb≠gs/\bb≠gw/\gs≠gw:=by
 obtain⟨l,hs,_⟩:=h.sts;refine⟨?_,?_,?_⟩
 .intro e;have:=h.blk;rw[e,hs]at this;injection this with this;injection this with _ h2;exact absurd h2 (by decide)
 .intro e;have:=h.blk;rw[e]at this;have hw:=h.wts;unfold WtB at hw;rw[hw]at this;injection this with this;injection this with _ h2;exact absurd h2 (by decide)
 .intro e;have hw:=h.wts;unfold WtB at hw;rw[e,hw]at hs;injection hs with hs;injection hs with _ h2;exact absurd h2 (by decide)
theorem Bld.u8 (h:Bld w0 w bb b gs gw c r m vl vi tab wt bad) {k:Nat} {cur:Array Value} (hk:w.heap[k]?=some (.cells cur 5)): ¬(k=bb\/k=gs\/k=gw):=by
 obtain⟨l,hs,_⟩:=h.sts;have hw:=h.wts;unfold WtB at hw;rintro(e|e|e)
 .rw[e,h.blk]at hk;injection hk with hk;injection hk with _ h2;exact absurd h2 (by decide)
 .rw[e,hs]at hk;injection hk with hk;injection hk with _ h2;exact absurd h2 (by decide)
 .rw[e,hw]at hk;injection hk with hk;injection hk with _ h2;exact absurd h2 (by decide)
theorem Bld.lt (h:Bld w0 w bb b gs gw c r m vl vi tab wt bad):bb<w.heap.size/\gs<w.heap.size/\gw<w.heap.size:=by
 obtain⟨l,hs,_⟩:=h.sts;exact⟨ae h.blk,ae hs,ae h.wts⟩
theorem Bld.next {w':World} (h:Bld w0 w bb b gs gw c r m vl vi tab wt bad) (hb:B_ w w'):Bld w0 w' bb b gs gw c r m vl vi tab wt bad:=
 ⟨h.but.trans hb,h.gbb,h.ggs,h.ggw,hb.kp h.blk,h.sts.off hb (λh=>h) (λ_ _ _ h=>h),hb.kp h.wts,h.wl⟩
theorem Bld.fail (h:Bld w0 w bb b gs gw c r m vl vi tab wt bad):Bld w0 (w.setCell ⟨bb,8,none⟩ (.bool true)) bb b gs gw c r m vl vi tab wt true:=by
 have hb:=au w bb 8 (.bool true);have hn:=h.ne;refine⟨h.but.next hb (λk hk e=>by have:=h.gbb;omega),h.gbb,h.ggs,h.ggw,bG w bb 8 _ _ _ h.blk,h.sts.off hb (λe=>hn.1 e.symm) (λk cur hk e=>h.u8 hk (Or.inl e)),(hb.block gw (ae h.wts) (λe=>hn.2.1 e.symm)).trans h.wts,h.wl⟩
theorem Bld.wait (h:Bld w0 w bb b gs gw c r m vl vi tab wt bad) (k:Nat) (v:Bool):Bld w0 (w.setCell ⟨gw,k,none⟩ (.bool v)) bb b gs gw c r m vl vi tab (wt.set k v) bad:=by
 have hb:=au w gw k (.bool v);have hn:=h.ne;refine⟨h.but.next hb (λj hk e=>by have:=h.ggw;omega),h.gbb,h.ggs,h.ggw,(hb.block bb (ae h.blk) hn.2.1).trans h.blk,h.sts.off hb hn.2.2 (λk cur hk e=>h.u8 hk (Or.inr (Or.inr e))),?_,by rw[List.length_set];exact h.wl⟩;have:=bG w gw k _ _ (.bool v) h.wts;unfold WtB;rw[this,List.map_set];simp
theorem Bld.wcell (h:Bld w0 w bb b gs gw c r m vl vi tab wt bad) {k:Nat} (hk:k<tab.length):w.cell? ⟨gw,k,none⟩=some (.bool (wt.getD k false))/\w.frozen? ⟨gw,k,none⟩=false:=
 ⟨h.wts.cell (by rw[h.wl];exact hk),b7 w gw k _ _ h.wts⟩
theorem Bld.known (h:Bld w0 w bb b gs gw c r m vl vi tab wt bad) {k:Nat} {s lo:L_} (hk:tab[k]?=some (some (s,lo))):
  ∃a1 c1 a2 c2,w.cell? ⟨gs,k*3,none⟩=some (.bool true)/\w.cell? ⟨gs,k*3+1,none⟩=some (.slice a1 s.length c1)/\w.cell? ⟨gs,k*3+2,none⟩=some (.slice a2 lo.length c2)/\BtB w 0 (.slice a1 s.length c1) s/\BtB w 0 (.slice a2 lo.length c2) lo:=by
 obtain⟨l,hs,hm,hf⟩:=h.sts;rw[<-hm,cg]at hk;obtain⟨x,hx,a0⟩:=Option.map_eq_some_iff.1 hk;obtain⟨h1,h2⟩:=hf x (bp hx) s lo a0;obtain⟨a1,c1,e1⟩:=aw h1;obtain⟨a2,c2,e2⟩:=aw h2;have hc:stC x=[.bool true,x.2.1,x.2.2]:=by unfold stC;rw[a0]
 rw[e1]at h1;rw[e2]at h2;refine⟨a1,c1,a2,c2,?_,?_,?_,h1,h2⟩
 .rw[aX w gs (k*3) _ _ (0,0) hs];have:=dq (k:=0) hx (by omega);rw[hc]at this;simpa using this
 .rw[aX w gs (k*3+1) _ _ (0,0) hs];have:=dq (k:=1) hx (by omega);rw[hc,e1]at this;simpa using this
 .rw[aX w gs (k*3+2) _ _ (0,0) hs];have:=dq (k:=2) hx (by omega);rw[hc,e2]at this;simpa using this
theorem Bld.unk (h:Bld w0 w bb b gs gw c r m vl vi tab wt bad) {k:Nat} (hk:tab[k]?= .some .none):
  w.cell? ⟨gs,k*3,none⟩= .some (.bool false)/\w.cell? ⟨gs,k*3+1,none⟩= .some S_/\w.cell? ⟨gs,k*3+2,none⟩= .some S_:=by
 obtain⟨l,hs,hm,hf⟩:=h.sts;rw[<-hm,cg]at hk;obtain⟨x,hx,a0⟩:=Option.map_eq_some_iff.1 hk;have hc:stC x=[.bool false,S_,S_]:=by unfold stC;rw[a0]
 refine⟨?_,?_,?_⟩
 .rw[aX w gs (k*3) _ _ (0,0) hs];have:=dq (k:=0) hx (by omega);rw[hc]at this;simpa using this
 .rw[aX w gs (k*3+1) _ _ (0,0) hs];have:=dq (k:=1) hx (by omega);rw[hc]at this;simpa using this
 .rw[aX w gs (k*3+2) _ _ (0,0) hs];have:=dq (k:=2) hx (by omega);rw[hc]at this;simpa using this
theorem Bld.sfz (h:Bld w0 w bb b gs gw c r m vl vi tab wt bad) (k:Nat):w.frozen? ⟨gs,k,none⟩=false:=by
 obtain⟨l,hs,hm,hf⟩:=h.sts;exact b7 w gs k _ _ hs
theorem Bld.lay (h:Bld w0 w bb b gs gw c r m vl vi tab wt bad) {k:Nat} (hk:k<tab.length) {s lo:L_} {v1 v2:Value} (h1:BtB w 0 v1 s) (h2:BtB w 0 v2 lo):
  Bld w0 (((w.setCell ⟨gs,k*3,none⟩ (.bool true)).setCell ⟨gs,k*3+1,none⟩ v1).setCell ⟨gs,k*3+2,none⟩ v2) bb b gs gw c r m vl vi (tab.set k (.some (s,lo))) wt bad:=by
 have hb:But (· =gs) w (((w.setCell ⟨gs,k*3,none⟩ (.bool true)).setCell ⟨gs,k*3+1,none⟩ v1).setCell ⟨gs,k*3+2,none⟩ v2):=((au w gs _ _).trans (au _ gs _ _)).trans (au _ gs _ _);have hn:=h.ne;have hu: ∀j cur,w.heap[j]?= .some (.cells cur 5)-> ¬j=gs:=λj cur hj e=>h.u8 hj (Or.inr (Or.inl e))
 have a0:=h.lt;have hg:=h.ggs;have a1:=(hb.block bb a0.1 hn.1).trans h.blk;have a3:=(hb.block gw a0.2.2 (λe=>hn.2.2 e.symm)).trans h.wts;have a2:B_ w0 (((w.setCell ⟨gs,k*3,none⟩ (.bool true)).setCell ⟨gs,k*3+1,none⟩ v1).setCell ⟨gs,k*3+2,none⟩ v2):=h.but.next hb (λj hj e=>by omega);obtain⟨l,hs,hm,hf⟩:=h.sts;have a4:l.length=tab.length:=by rw[<-hm];simp
 have e1:=bG w gs (k*3) _ _ (.bool true) hs;have e2:=bG _ gs (k*3+1) _ _ v1 e1;have e3:=bG _ gs (k*3+2) _ _ v2 e2;refine⟨a2,h.gbb,h.ggs,h.ggw,by rw[List.length_set];exact a1,⟨l.set k (.some (s,lo),v1,v2),?_,?_,?_⟩,a3,by rw[List.length_set];exact h.wl⟩
 .rw[e3]
  congr 2
  rw[<-uI (l:=l) (j:=k) (y:=(.some (s,lo),v1,v2)) (a:= .bool true) (b:=v1) (c:=v2) rfl (by omega)];simp
 .rw[List.map_set,hm]
 .intro x hx s' lo' e;obtain hx|hx:=List.mem_or_eq_of_mem_set hx
  .obtain⟨p1,p2⟩:=hf x hx s' lo' e;exact⟨bj p1 hb (λj cur hh _=>hu j cur hh),bj p2 hb (λj cur hh _=>hu j cur hh)⟩
  .subst hx;simp only[Option.some.injEq,Prod.mk.injEq]at e;obtain⟨rfl,rfl⟩:=e;exact⟨bj h1 hb (λj cur hh _=>hu j cur hh),bj h2 hb (λj cur hh _=>hu j cur hh)⟩
end
section
variable {cs:List Cls} {tab:List St} {wt:List Bool} {j:Nat} {sb lb sa la:L_}
theorem DB (h:tab.length<=j):a9 cs (tab,wt,false) j sb lb=(tab,wt,true):=by
 have:cF cs (tab,false,false) (j:Int) sb lb=(tab,false,true):=by
  unfold cF;rw[if_neg (by simp),if_pos (by simp;omega)]
 unfold a9;simp only;rw[this];simp
theorem A7 (h:tab[j]?=some none):a9 cs (tab,wt,false) j sb lb=(tab.set j (some (sb,lb)),wt.set j true,false):=by
 have hj:=(bC h).1
 have:cF cs (tab,false,false) (j:Int) sb lb=(tab.set j (some (sb,lb)),true,false):=by
  unfold cF;rw[if_neg (by simp),if_neg (by simp;omega)];simp[List.getD,h,io]
 unfold a9;simp only;rw[this];simp
theorem DC (h:tab[j]?=some (some (sa,la))) (hl:sa.length≠sb.length):a9 cs (tab,wt,false) j sb lb=(tab,wt,true):=by
 have hj:=(bC h).1
 have:cF cs (tab,false,false) (j:Int) sb lb=(tab,false,true):=by
  unfold cF;rw[if_neg (by simp),if_neg (by simp;omega)];simp[List.getD,h,io,hl]
 unfold a9;simp only;rw[this];simp
theorem Cu (h:tab[j]?=some (some (sa,la))) (hl:sa.length=sb.length) (h1:dU cs sa sb=sa) (h2:dU cs la lb=la):a9 cs (tab,wt,false) j sb lb=(tab,wt,false):=by
 have hj:=(bC h).1
 have:cF cs (tab,false,false) (j:Int) sb lb=(tab,false,false):=by
  unfold cF;rw[if_neg (by simp),if_neg (by simp;omega)];simp[List.getD,h,io,hl,h1,h2]
 unfold a9;simp only;rw[this];simp
theorem A8 (h:tab[j]?=some (some (sa,la))) (hl:sa.length=sb.length) (h1: ¬(dU cs sa sb=sa/\dU cs la lb=la)):a9 cs (tab,wt,false) j sb lb=(tab.set j (some (dU cs sa sb,dU cs la lb)),wt.set j true,false):=by
 have hj:=(bC h).1
 have:cF cs (tab,false,false) (j:Int) sb lb=(tab.set j (some (dU cs sa sb,dU cs la lb)),true,false):=by
  unfold cF;rw[if_neg (by simp),if_neg (by simp;omega)];simp[List.getD,h,io,hl,h1]
 unfold a9;simp only;rw[this];simp
theorem pY (hw:WfC cs) (hn:cs.length<=4): ∀{a b:L_},(∀c∈a,okT cs.length c=true)->(∀c∈b,okT cs.length c=true)->List.zipWith (hU (cs.map toX)) a b=dU cs a b:=by
 intro a
 induction a with
 |nil=>intro b _ _;simp[dU]
 |cons x a ih=>
  intro b ha hb
  cases b with
  |nil=>simp[dU]
  |cons y b=>
   simp only[dU,List.zipWith_cons_cons];rw[oo hw hn (ha x (by simp)) (hb y (by simp))]
   congr 1
   exact ih (λc h=>ha c (by simp[h])) (λc h=>hb c (by simp[h]))
end
theorem my (w0:World) (bb b gs gw:Nat) (c r:UInt8) (m:Nat) (vl vi:Value) (tab:List St) (wt:List Bool) (bad:Bool) (im:Img) (nl j:Nat) (aa al:Option Addr) (ca cl:Nat) (sb lb:L_) (w:World) (hW:WfI im) (hnl:nl<=5) (htl:tab.length<=100)
  (hB:Bld w0 w bb b gs gw c r m vl vi tab wt bad) (hTX:TxC w0 b (im.zz.map toX)) (hwf:wfT im.zz.length nl tab.length tab) (hz:okZ im.zz.length nl sb lb) (hsl:sb.length<=101)
  (hs:BtB w 0 (.slice aa sb.length ca) sb) (hl:BtB w 0 (.slice al lb.length cl) lb):
  Calls prog 105 #[.pointer (some ⟨bb,0,none⟩),.int .i64 j,xsV true (.slice aa sb.length ca) (.slice al lb.length cl)] w λen w'=>en= .returned (.tuple #[])/\But (λk=>k=bb\/k=gs\/k=gw) w w'/\
   Bld w0 w' bb b gs gw c r m vl vi (a9 im.zz (tab,wt,false) j sb lb).1 (a9 im.zz (tab,wt,false) j sb lb).2.1 (bad||(a9 im.zz (tab,wt,false) j sb lb).2.2):=by
 have e3:B_ w (w.alloc (.cells #[.bool true,.slice aa sb.length ca,.slice al lb.length cl] 117)):=ag _ _ _;have e1:=aO w (.cells #[.bool true,.slice aa sb.length ca,.slice al lb.length cl] 117);have b3:=hB.next e3;have f6:=hs.but e3 (λ_ _ h=>h);have f5:=hl.but e3 (λ_ _ h=>h);have n5:=hB.lt;have f4:=e3.mono (G:=λk=>k=bb\/k=gs\/k=gw) (λ_ _ h=>h.elim);unfold xsV
 by_cases hj:j<tab.length
 .have n2:(j:Int)<(tab.length:Int):=by omega
  have n1: ¬(j:Int)<0:=by omega
  obtain⟨o,ho⟩: ∃o,tab[j]?=some o:=⟨_,aH hj⟩;have m4:=hid (λ(wx:World) (h:B_ w0 wx)=>hTX.but h);obtain⟨e7,e8⟩:=b3.wcell hj;have e4:=b3.sfz (j*3);have e5:=b3.sfz (j*3+1);have e6:=b3.sfz (j*3+2);obtain⟨c0,c6,c7,c8⟩:=b3.cells;obtain⟨k0,k1,k2⟩:=ia e1;have b5:=ae e1
  cases o with
  |none=>
   rw[A7 ho];simp only[Bool.or_false];obtain⟨t0,t1,t2⟩:=b3.unk ho;have l5:lb.length<=1000:=by have:=hz.2.2;omega
   go_in
   go_wp2_with fail;revert e3 e1 b3 f6 f5 f4 e7 e8 e4 e5 e6 c0 c6 c7 c8 k0 k1 k2 b5 t0 t1 t2;generalize (w.alloc (.cells #[.bool true,.slice aa sb.length ca,.slice al lb.length cl] 117))=W;intro e3 e1 b3 f6 f5 f4 e7 e8 e4 e5 e6 c0 c6 c7 c8 k0 k1 k2 b5 t0 t1 t2;have a8:=b3.lt;have b0:B_ W W.drew:=aD _ _;have j4:=hid (oA 0 true aa al ca cl sb lb W.drew (f6.but b0 (λ_ _ h=>h)) (f5.but b0 (λ_ _ h=>h)) (by omega) l5);unfold xsV at j4;refine aI (B_ W) 7 ?_
   iterate 6 (refine aQ (v:=?_) rfl b0 ?_ ?_;rotate_left;(focus (intro wS h;have q0:=(h.kc c6 a8.1);have q1:=(h.kc k0 b5);have q2:=(h.kc k1 b5);have q3:=(h.kc k2 b5);clear h;go_simp;try rfl));dsimp only[Act.put];try simp only[cH])
   refine az rfl ?_;intro KS hKS;go_simp;refine j4.out.mono ?_;rintro en w2 ⟨j1,a1,c1,a2,c2,G2,rfl,l6,j2,_,_,_⟩;clear j4;have b2:=b0.trans j1;refine hKS.out _ _ (λ_=>b2) ?_;clear hKS KS;have b4:=b3.next b2;have g1:But (λk=>k=bb\/k=gs\/k=gw) w w2:=f4.next b2 (λ_ _ h=>h.elim);clear e7 e8 e4 e5 e6 c0 c6 c7 c8 k0 k1 k2 t0 t1 t2;obtain⟨t0,t1,t2⟩:=b4.unk ho;have e4:=b4.sfz (j*3);have e5:=b4.sfz (j*3+1);have e6:=b4.sfz (j*3+2);have a0:=b4.lay hj (v1:= .slice a1 sb.length c1) (v2:= .slice a2 lb.length c2) (dn l6 (Nat.zero_le _)) (dn j2 (Nat.zero_le _));have i6:But (λk=>k=bb\/k=gs\/k=gw) w2 (((w2.setCell ⟨gs,j*3,none⟩ (.bool true)).setCell ⟨gs,j*3+1,none⟩ (.slice a1 sb.length c1)).setCell ⟨gs,j*3+2,none⟩ (.slice a2 lb.length c2)):=(((au w2 gs _ _).trans (au _ gs _ _)).trans (au _ gs _ _)).mono (λk _ h=>Or.inr (Or.inl h))
   have h3:=hid a0;have h1:=hid i6;clear a0 i6 b3 e1 hB e3;refine az rfl ?_;intro KS hKS;go_simp;refine hKS.out _ _ nofun ?_;clear hKS KS;refine az rfl ?_;intro KS hKS;go_simp;refine hKS.out _ _ nofun ?_;clear hKS KS;refine aR rfl ?_;revert h3 h1;generalize (((w2.setCell ⟨gs,j*3,none⟩ (.bool true)).setCell ⟨gs,j*3+1,none⟩ (.slice a1 sb.length c1)).setCell ⟨gs,j*3+2,none⟩ (.slice a2 lb.length c2))=w3;intro h3 h1;have a0:=h3.out;clear t0 t1 t2 e4 e5 e6;obtain⟨c0,c6,c7,c8⟩:=a0.cells;obtain⟨e7,e8⟩:=a0.wcell (k:=j) (by rw[List.length_set];exact hj);rw[List.length_set]at c6 c7;have b9:=a0.wait j true
   have j3:=hid b9;clear b9 a0;go_wp2_with fail;exact gK results105 rfl ⟨rfl,(g1.trans h1.out).trans ((au _ _ _ _).mono (λk _ h=>Or.inr (Or.inr h))),j3.out⟩
  |some o=>
   obtain⟨sa,la⟩:=o;obtain⟨m3,m0⟩:=hwf.2 j sa la ho;have n7:=oQ tab;obtain⟨a3,c3,a4,c4,t0,t1,t2,h0,g6⟩:=b3.known ho
   by_cases hlen:sa.length=sb.length
   .have l0:((sa.length:Int)==(sb.length:Int))=true:=by rw[hlen];simp
    have l3:((sa.length:Int)!=(sb.length:Int))=false:=by simp[bne,l0]
    have h9:(sa.length:Int)=(sb.length:Int):=by rw[hlen]
    have n0:=hid h9;have f7:=hid hlen;have n3:sa.length<=sb.length:=by omega
    have n4:sb.length<=sa.length:=by omega
    clear h9 hlen
    go_in
    go_wp2_with fail;revert e3 e1 b3 f6 f5 f4 e7 e8 e4 e5 e6 c0 c6 c7 c8 k0 k1 k2 b5 t0 t1 t2 h0 g6;generalize (w.alloc (.cells #[.bool true,.slice aa sb.length ca,.slice al lb.length cl] 117))=W;intro e3 e1 b3 f6 f5 f4 e7 e8 e4 e5 e6 c0 c6 c7 c8 k0 k1 k2 b5 t0 t1 t2 h0 g6;have a8:=b3.lt;have b0:B_ W W.drew:=aD _ _;refine aI (B_ W) 13 ?_
    iterate 13 (refine aQ (v:=?_) rfl b0 ?_ ?_;rotate_left;(focus (intro wS h;have q0:=(h.kc c6 a8.1);have q1:=(h.kc t1 a8.2.1);have q2:=(h.kc k1 b5);clear h;go_simp;try rfl));dsimp only[Act.put];try simp only[cH])
    refine aR rfl ?_;have b1:=b3.next b0;have g7:=f6.but b0 (λ_ _ h=>h);have h8:=f5.but b0 (λ_ _ h=>h);have d6:=h0.but b0 (λ_ _ h=>h);have e0:=g6.but b0 (λ_ _ h=>h);have g5:=(b0.block w.heap.size b5 (λh=>h)).trans e1;have c9:But (λk=>k=bb\/k=gs\/k=gw) w W.drew:=f4.next b0 (λ_ _ h=>h.elim);have u0:=b0.kc t0 a8.2.1;have u1:=b0.kc t1 a8.2.1;have u2:=b0.kc t2 a8.2.1;clear e7 e8 e4 e5 e6 c0 c6 c7 c8 k0 k1 k2 t0 t1 t2 h0 g6 b3 f6 f5 e1 e3 f4 b5 a8 hB;revert b1 g7 h8 d6 e0 g5 c9 u0 u1 u2;generalize W.drew=w1;intro b1 g7 h8 d6 e0 g5 c9 t0 t1 t2;clear b0;obtain⟨c0,c6,c7,c8⟩:=b1.cells
    obtain⟨k0,k1,k2⟩:=ia g5;have b5:=ae g5;have a7:=b1.lt;go_wp2_with fail;have i2:B_ w1 w1.drew:=aD _ _;have i1:=lS b (im.zz.map toX) a3 aa c3 ca sa sb w1.drew (by rw[cP];have:=hW.nc;omega) (m4.out _ (b1.but.trans i2)) (d6.but i2 (λ_ _ h=>h)) (g7.but i2 (λ_ _ h=>h)) f7.out (by omega);rw[pY hW.cls hW.nc m3.1 hz.1]at i1;have i4:=hid i1;clear i1;refine aI (B_ w1) 15 ?_
    iterate 14 (refine aQ (v:=?_) rfl i2 ?_ ?_;rotate_left;(focus (intro wS h;have q0:=(h.kc c0 a7.1);have q1:=(h.kc c6 a7.1);have q2:=(h.kc t1 a7.2.1);have q3:=(h.kc k1 b5);clear h;go_simp;try rfl));dsimp only[Act.put];try simp only[cH])
    refine az rfl ?_;intro KS hKS;go_simp;refine i4.out.mono ?_;rintro en w2 ⟨j1,v5,rfl,j7⟩;obtain⟨a5,c5,n8⟩:=aw j7;subst n8;have b2:=i2.trans j1;refine hKS.out _ _ (λ_=>b2) ?_;clear hKS KS i4;refine az rfl ?_;intro KS hKS;go_simp;refine hKS.out _ _ nofun ?_;clear hKS KS;refine aR rfl ?_;have b4:=b1.next b2;have l6:=g7.but b2 (λ_ _ h=>h);have j2:=h8.but b2 (λ_ _ h=>h);have i7:=d6.but b2 (λ_ _ h=>h);have i0:=e0.but b2 (λ_ _ h=>h);have k9:=(b2.block w.heap.size b5 (λh=>h)).trans g5;have g1:But (λk=>k=bb\/k=gs\/k=gw) w w2:=c9.next b2 (λ_ _ h=>h.elim);have h6:BtB w2 0 (.slice a5 (dU im.zz sa sb).length c5) (dU im.zz sa sb):=dn j7 (Nat.zero_le _)
    have u0:=b2.kc t0 a7.2.1;have u1:=b2.kc t1 a7.2.1;have u2:=b2.kc t2 a7.2.1;clear c0 c6 c7 c8 k0 k1 k2 t0 t1 t2 b1 g7 h8 d6 e0 g5 c9 b5 a7 b2 j1 i2 j7;obtain⟨c0,c6,c7,c8⟩:=b4.cells;obtain⟨k0,k1,k2⟩:=ia k9;have b5:=ae k9;have a7:=b4.lt;have t0:=u0;have t1:=u1;have t2:=u2;clear u0 u1 u2;obtain⟨M1,g2⟩: ∃M1,dU im.zz sa sb=M1:=⟨_,rfl⟩;rw[g2]at h6;rw[g2];have e9:=hid g2;clear g2;go_wp2_with fail;have i3:B_ w2 w2.drew:=aD _ _;have i1:=lS b (im.zz.map toX) a4 al c4 cl la lb w2.drew (by rw[cP];have:=hW.nc;omega) (m4.out _ (b4.but.trans i3)) (i0.but i3 (λ_ _ h=>h)) (j2.but i3 (λ_ _ h=>h)) (by rw[m3.2.2,hz.2.2]) (by have:=hz.2.2;omega)
    rw[pY hW.cls hW.nc m3.2.1 hz.2.1]at i1;have i4:=hid i1;clear i1;refine aI (B_ w2) 15 ?_
    iterate 14 (refine aQ (v:=?_) rfl i3 ?_ ?_;rotate_left;(focus (intro wS h;have q0:=(h.kc c0 a7.1);have q1:=(h.kc c6 a7.1);have q2:=(h.kc t2 a7.2.1);have q3:=(h.kc k2 b5);clear h;go_simp;try rfl));dsimp only[Act.put];try simp only[cH])
    refine az rfl ?_;intro KS hKS;go_simp;refine i4.out.mono ?_;rintro en w3 ⟨m5,v6,rfl,k3⟩;obtain⟨a6,j0,n9⟩:=aw k3;subst n9;have b2:=i3.trans m5;refine hKS.out _ _ (λ_=>b2) ?_;clear hKS KS i4;refine az rfl ?_;intro KS hKS;go_simp;refine hKS.out _ _ nofun ?_;clear hKS KS;refine aR rfl ?_;have a0:=b4.next b2;have m1:=i7.but b2 (λ_ _ h=>h);have l4:=i0.but b2 (λ_ _ h=>h);have h7:=h6.but b2 (λ_ _ h=>h);have h5:But (λk=>k=bb\/k=gs\/k=gw) w w3:=g1.next b2 (λ_ _ h=>h.elim);have g3:BtB w3 0 (.slice a6 (dU im.zz la lb).length j0) (dU im.zz la lb):=dn k3 (Nat.zero_le _);have u0:=b2.kc t0 a7.2.1
    have u1:=b2.kc t1 a7.2.1;have u2:=b2.kc t2 a7.2.1;clear c0 c6 c7 c8 k0 k1 k2 t0 t1 t2 b4 l6 j2 i7 i0 k9 g1 b5 a7 b2 m5 i3 k3 h6;obtain⟨c0,c6,c7,c8⟩:=a0.cells;have a7:=a0.lt;have t0:=u0;have t1:=u1;have t2:=u2;clear u0 u1 u2;obtain⟨M2,g4⟩: ∃M2,dU im.zz la lb=M2:=⟨_,rfl⟩;rw[g4]at g3;rw[g4];have f0:=hid g4;clear g4;have f1:=hid (rm a5 a3 c5 c3 M1 sa w3 h7 m1);have g0:=hid (rm a6 a4 j0 c4 M2 la w3 g3 l4)
    by_cases hq1:M1=sa
    .rw[show decide (M1=sa)=true from by simp[hq1]]at f1
     by_cases hq2:M2=la
     .rw[show decide (M2=la)=true from by simp[hq2]]at g0;have b6:=Cu (cs:=im.zz) (wt:=wt) (lb:=lb) ho f7.out (by rw[e9.out,hq1]) (by rw[f0.out,hq2]);have i5:=hid b6;clear b6 hq1 hq2;go_wp2_with fail;refine f1.out.mono ?_;rintro en wx ⟨rfl,e2⟩;rw[e2];clear e2 wx;go_wp2_with fail;refine g0.out.mono ?_;rintro en wx ⟨rfl,e2⟩;rw[e2];clear e2 wx;go_wp2_with fail;exact gK results105 rfl ⟨rfl,h5,by rw[i5.out];simpa using a0⟩
     .rw[show decide (M2=la)=false from by simp[hq2]]at g0;have j5:Hid (¬(M1=sa/\M2=la)):=hid (λh=>hq2 h.2);clear hq1 hq2;have b6:=A8 (cs:=im.zz) (wt:=wt) (lb:=lb) ho f7.out (λh=>j5.out ⟨e9.out▸h.1,f0.out▸h.2⟩);rw[e9.out,f0.out]at b6;have i5:=hid b6;have e4:=a0.sfz (j*3);have e5:=a0.sfz (j*3+1);have e6:=a0.sfz (j*3+2);have b9:=a0.lay hj h7 g3;have f2:But (λk=>k=bb\/k=gs\/k=gw) w3 (((w3.setCell ⟨gs,j*3,none⟩ (.bool true)).setCell ⟨gs,j*3+1,none⟩ (.slice a5 M1.length c5)).setCell ⟨gs,j*3+2,none⟩ (.slice a6 M2.length j0)):=(((au w3 gs _ _).trans (au _ gs _ _)).trans (au _ gs _ _)).mono (λk _ h=>Or.inr (Or.inl h))
      have m2:=a0.wcell hj;have n6:=a0.ne;have f3:=b9.wait j true;have h4:=hid f3;have h2:=hid f2;obtain⟨e7,e8⟩:=m2;clear b6 b9 f2 f3 a0;go_wp2_with fail;refine f1.out.mono ?_;rintro en wx ⟨rfl,e2⟩;rw[e2];clear e2 wx;go_wp2_with fail;refine g0.out.mono ?_;rintro en wx ⟨rfl,e2⟩;rw[e2];clear e2 wx;go_wp2_with fail;go_end0;refine⟨rfl,(h5.trans h2.out).trans ((au _ _ _ _).mono (λk _ h=>Or.inr (Or.inr h))),?_⟩;rw[i5.out];simpa using h4.out
    .rw[show decide (M1=sa)=false from by simp[hq1]]at f1;have j5:Hid (¬(M1=sa/\M2=la)):=hid (λh=>hq1 h.1);clear hq1;have b6:=A8 (cs:=im.zz) (wt:=wt) (lb:=lb) ho f7.out (λh=>j5.out ⟨e9.out▸h.1,f0.out▸h.2⟩);rw[e9.out,f0.out]at b6;have i5:=hid b6;have e4:=a0.sfz (j*3);have e5:=a0.sfz (j*3+1);have e6:=a0.sfz (j*3+2);have b9:=a0.lay hj h7 g3;have f2:But (λk=>k=bb\/k=gs\/k=gw) w3 (((w3.setCell ⟨gs,j*3,none⟩ (.bool true)).setCell ⟨gs,j*3+1,none⟩ (.slice a5 M1.length c5)).setCell ⟨gs,j*3+2,none⟩ (.slice a6 M2.length j0)):=(((au w3 gs _ _).trans (au _ gs _ _)).trans (au _ gs _ _)).mono (λk _ h=>Or.inr (Or.inl h))
     have m2:=a0.wcell hj;have n6:=a0.ne;have f3:=b9.wait j true;have h4:=hid f3;have h2:=hid f2;obtain⟨e7,e8⟩:=m2;clear b6 b9 f2 f3 a0;go_wp2_with fail;refine f1.out.mono ?_;rintro en wx ⟨rfl,e2⟩;rw[e2];clear e2 wx;go_wp2_with fail;go_end0;refine⟨rfl,(h5.trans h2.out).trans ((au _ _ _ _).mono (λk _ h=>Or.inr (Or.inr h))),?_⟩;rw[i5.out];simpa using h4.out
   .rw[DC ho hlen];simp only[Bool.or_true];have l0:((sa.length:Int)==(sb.length:Int))=false:=by rw[eA];omega
    have l3:((sa.length:Int)!=(sb.length:Int))=true:=by simp[bne,l0]
    have h9: ¬(sa.length:Int)=(sb.length:Int):=by omega
    go_in
    go_wp2_with fail;revert e3 e1 b3 f6 f5 f4 e7 e8 e4 e5 e6 c0 c6 c7 c8 k0 k1 k2 b5 t0 t1 t2 h0 g6;generalize (w.alloc (.cells #[.bool true,.slice aa sb.length ca,.slice al lb.length cl] 117))=W;intro e3 e1 b3 f6 f5 f4 e7 e8 e4 e5 e6 c0 c6 c7 c8 k0 k1 k2 b5 t0 t1 t2 h0 g6;have a8:=b3.lt;have b0:B_ W W.drew:=aD _ _;refine aI (B_ W) 13 ?_
    iterate 13 (refine aQ (v:=?_) rfl b0 ?_ ?_;rotate_left;(focus (intro wS h;have q0:=(h.kc c6 a8.1);have q1:=(h.kc t1 a8.2.1);have q2:=(h.kc k1 b5);clear h;go_simp;try rfl));dsimp only[Act.put];try simp only[cH])
    refine aR rfl ?_;have b1:=b3.next b0;have g7:=f6.but b0 (λ_ _ h=>h);have h8:=f5.but b0 (λ_ _ h=>h);have d6:=h0.but b0 (λ_ _ h=>h);have e0:=g6.but b0 (λ_ _ h=>h);have g5:=(b0.block w.heap.size b5 (λh=>h)).trans e1;have c9:But (λk=>k=bb\/k=gs\/k=gw) w W.drew:=f4.next b0 (λ_ _ h=>h.elim);have u0:=b0.kc t0 a8.2.1;have u1:=b0.kc t1 a8.2.1;have u2:=b0.kc t2 a8.2.1;clear e7 e8 e4 e5 e6 c0 c6 c7 c8 k0 k1 k2 t0 t1 t2 h0 g6 b3 f6 f5 e1 e3 f4 b5 a8 hB;revert b1 g7 h8 d6 e0 g5 c9 u0 u1 u2;generalize W.drew=w1;intro b1 g7 h8 d6 e0 g5 c9 t0 t1 t2;clear b0;obtain⟨c0,c6,c7,c8⟩:=b1.cells
    have f8:=b1.fz 8;go_wp2_with fail;exact gK results105 rfl ⟨rfl,c9.trans ((au _ _ _ _).mono (λk _ h=>Or.inl h)),b1.fail⟩
 .have n2: ¬(j:Int)<(tab.length:Int):=by omega
  have n1: ¬(j:Int)<0:=by omega
  rw[DB (by omega)];simp only[Bool.or_true];obtain⟨c0,c6,c7,c8⟩:=b3.cells;have f8:=b3.fz 8;have o0:=hid b3;have HB:=hid hB;clear e1 hB
  go_in
  go_wp2_with fail;exact gK results105 rfl ⟨rfl,((au _ _ _ _).mono (λk _ h=>Or.inl h)).trans (ag _ _ _),HB.out.fail.next (ag _ _ _)⟩
end
end Go.Proofs.YtpfkkmacakjmbaaGreatDoor
