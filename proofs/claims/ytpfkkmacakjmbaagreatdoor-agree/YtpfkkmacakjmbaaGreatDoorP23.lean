import Derived.Test.YtpfkkmacakjmbaaGreatDoorP22
import Derived.Test.YtpfkkmacakjmbaaGreatDoorP03
import Derived.Test.YtpfkkmacakjmbaaGreatDoorP04
set_option maxRecDepth 100000
set_option maxHeartbeats 6400000
set_option linter.all false
namespace Go.Proofs.YtpfkkmacakjmbaaGreatDoor
open Proofs.Tryz
section
open Go Go.RowKit Sp
section
variable {im:Img} {bd:Bod} {x:Ins}
theorem mH {c:UInt8} (h:df.contains c.toNat=true):c=107\/c=114\/c=119\/c=108\/c=115\/c=43\/c=45\/c=42\/c=47\/c=60\/c=61\/c=101\/c=110\/c=122\/c=103\/c=112\/c=99\/c=120\/c=100\/c=106\/c=102\/c=116:=by
 have a:c.toNat∈df:=List.elem_iff.1 h;simp only[df,List.mem_cons,List.not_mem_nil,or_false]at a;have e: ∀n:Nat,n<256->c.toNat=n->c=UInt8.ofNat n:=λn hn h=>(u8n hn).1 h
 obtain h|h|h|h|h|h|h|h|h|h|h|h|h|h|h|h|h|h|h|h|h|h:=a<;>(have:=e _ (by decide) h;simp at this;simp[this])
theorem yO (hW:WfI im) (ha:x.a<im.zq.length) (hb:x.b<db im.zq x.a):cC (bV (im.zq.map toX) (UInt8.ofNat (65+x.a))) x.b=dc im.zq x.a x.b:=by
 obtain⟨hl,e⟩:=By ha hW.nc;have d:(UInt8.ofNat (65+x.a)).toNat-65=x.a:=by have:=hW.nc;simp;omega
 have c:=kQ (a:=0) hl;rw[d]at c;unfold cC;rw[if_pos (by rw[<-c];exact hb)];unfold dc bV;rw[bZ,if_pos hl,cg,d]
 cases im.zq[x.a]?<;>rfl
theorem Aw (hW:WfI im) (hbd:WfB im.zq im.zx bd) (hx:WfX im.zq im.zx.length bd.zy.length x):
  aB (im.zq.map toX) im.zx (aJ x).op (aJ x).cls (aJ x).num (aR im.zx bd).ans=cD im.zq im.zx bd x:=by
 have c:(aJ x).op=x.op:=rfl;have d:(aJ x).num=x.b:=rfl;rw[c,d];have hc:=λh=>qv (x:=x) h
 obtain h|h|h|h|h|h|h|h|h|h|h|h|h|h|h|h|h|h|h|h|h|h:=mH hx.op
 .have hn:x.op.toNat=107:=by rw[h];rfl
  simp[aB,cD,bv,arith,hn]
 .have hn:x.op.toNat=114:=by rw[h];rfl
  simp[aB,cD,bv,arith,hn]
 .have hn:x.op.toNat=119:=by rw[h];rfl
  simp[aB,cD,bv,arith,hn]
 .have hn:x.op.toNat=108:=by rw[h];rfl
  simp[aB,cD,bv,arith,hn]
 .have hn:x.op.toNat=115:=by rw[h];rfl
  simp[aB,cD,bv,arith,hn]
 .have hn:x.op.toNat=43:=by rw[h];rfl
  simp[aB,cD,bv,arith,hn]
 .have hn:x.op.toNat=45:=by rw[h];rfl
  simp[aB,cD,bv,arith,hn]
 .have hn:x.op.toNat=42:=by rw[h];rfl
  simp[aB,cD,bv,arith,hn]
 .have hn:x.op.toNat=47:=by rw[h];rfl
  simp[aB,cD,bv,arith,hn]
 .have hn:x.op.toNat=60:=by rw[h];rfl
  simp[aB,cD,bv,arith,hn]
 .have hn:x.op.toNat=61:=by rw[h];rfl
  simp[aB,cD,bv,arith,hn]
 .have hn:x.op.toNat=101:=by rw[h];rfl
  simp[aB,cD,bv,arith,hn]
 .have hn:x.op.toNat=110:=by rw[h];rfl
  simp[aB,cD,bv,arith,hn]
 .have hn:x.op.toNat=122:=by rw[h];rfl
  simp[aB,cD,bv,arith,hn]
 .have hn:x.op.toNat=103:=by rw[h];rfl
  rw[hc (by omega)];simp[aB,cD,bv,arith,hn]
 .have hn:x.op.toNat=112:=by rw[h];rfl
  have a:=yO hW (hx.cls (by omega)) (hx.fld (by omega));rw[hc (by omega)];unfold cE;simp only[aB,cD,bv,arith,hn,cE];simp only[a];simp
 .have hn:x.op.toNat=99:=by rw[h];rfl
  have a:=nU (hx.sig hn);rw[hc (by omega)];simp[aB,cD,bv,arith,hn,a.1]
 .have hn:x.op.toNat=120:=by rw[h];rfl
  simp[aB,cD,bv,arith,hn]
 .have hn:x.op.toNat=100:=by rw[h];rfl
  simp[aB,cD,bv,arith,hn]
 .have hn:x.op.toNat=106:=by rw[h];rfl
  simp[aB,cD,bv,arith,hn]
 .have hn:x.op.toNat=102:=by rw[h];rfl
  simp[aB,cD,bv,arith,hn]
 .have hn:x.op.toNat=116:=by rw[h];rfl
  by_cases hcl:bd.cls<0
  .simp[aB,cD,bv,arith,hn,aR,hcl]
  .have a:(dC im.zx bd.meth.toNat).ret=gI im.zx bd.meth.toNat:=by
    obtain⟨e,_⟩ | ⟨e,f,g,i⟩:=hbd.cls
    .omega
    .exact(nU (by omega)).2
   simp[aB,cD,bv,arith,hn,aR,hcl,a]
theorem Ax (hW:WfI im) {a c:UInt8} (ha:okT im.zq.length a=true) (hc:okT im.zq.length c=true\/c=38):cL (im.zq.map toX) a c=ii im.zq a c:=by
 unfold cL ii;rw[bZ]
 by_cases h:c.toNat=38
 .rw[if_pos h,if_pos h];unfold isR;rw[gv hW.cls hW.nc ha]
 .rw[if_neg h,if_neg h];obtain hc|rfl:=hc
  .exact jk hW.cls hW.nc ha hc
  .exact absurd rfl h
theorem Ay (hW:WfI im) (hbd:WfB im.zq im.zx bd) (hx:WfX im.zq im.zx.length bd.zy.length x): ∀c∈cD im.zq im.zx bd x,okT im.zq.length c=true\/c=38:=by
 intro c hc;unfold cD at hc
 split at hc
 .simp at hc;subst hc;left;simp[ff]
 split at hc
 .simp at hc;right;exact hc
 split at hc
 .simp at hc;right;exact hc
 .left;exact uN hW hbd hx c hc
theorem vF (hW:WfI im) {st asked:L_} (hs: ∀c∈st,okT im.zq.length c=true) (ha: ∀c∈asked,okT im.zq.length c=true\/c=38) (hl:asked.length<=st.length):
  jN (im.zq.map toX) st asked=lh im.zq st asked:=by
 unfold jN lh;rw[show decide (asked.length<=st.length)=true from by simp[hl],Bool.true_and,Bool.eq_iff_iff];simp only[List.all_eq_true,List.mem_range]
 have key: ∀i,i<asked.length->cL (im.zq.map toX) (st.getD (st.length-asked.length+i) 0) (asked.getD i 0)=ii im.zq (st.getD (st.length-asked.length+i) 0) (asked.getD i 0):=by
  intro i hi;refine Ax hW (nz hs (by omega)) ?_;have:asked.getD i 0=asked[i]:=by simp[List.getD,hi]
  rw[this];exact ha _ (cS hi)
 exact⟨λh i hi=>by rw[<-key i hi];exact h i hi,λh i hi=>by rw[key i hi];exact h i hi⟩
theorem vG (hW:WfI im) (hx:WfX im.zq im.zx.length bd.zy.length x) {lo:L_} (hl:lo.length=bd.zy.length) (hlo: ∀c∈lo,okT im.zq.length c=true):
  (if(aH (im.zq.map toX) im.zx (aJ x).op (aJ x).cls (aJ x).num lo).toNat=0 then []else [aH (im.zq.map toX) im.zx (aJ x).op (aJ x).cls (aJ x).num lo])=eD im.zq im.zx x lo/\
  (x.op.toNat=108->aH (im.zq.map toX) im.zx (aJ x).op (aJ x).cls (aJ x).num lo=lo.getD x.b 0):=by
 have n:(aJ x).op=x.op:=rfl;have p:(aJ x).num=x.b:=rfl;rw[n,p];have d: ∀c:UInt8,okT im.zq.length c=true->c.toNat≠0:=λc h=>by rw[ff]at h;omega
 have e:=uq hW hx;have hc:=λh=>qv (x:=x) h
 obtain h|h|h|h|h|h|h|h|h|h|h|h|h|h|h|h|h|h|h|h|h|h:=mH hx.op
 .have hn:x.op.toNat=107:=by rw[h];rfl
  exact⟨by simp[aH,eD,bu,arith,hn],λh=>by omega⟩
 .have hn:x.op.toNat=114:=by rw[h];rfl
  exact⟨by simp[aH,eD,bu,arith,hn],λh=>by omega⟩
 .have hn:x.op.toNat=119:=by rw[h];rfl
  exact⟨by simp[aH,eD,bu,arith,hn],λh=>by omega⟩
 .have hn:x.op.toNat=108:=by rw[h];rfl
  have hb:=hx.loc (Or.inl hn);have i:cC lo x.b=lo.getD x.b 0:=by unfold cC;rw[if_pos (by omega)]
  have f:=d _ (nz hlo (k:=x.b) (by omega));have g:aH (im.zq.map toX) im.zx x.op (aJ x).cls x.b lo=lo.getD x.b 0:=by rw[<-i];simp[aH,hn]
  rw[g,if_neg f];exact⟨by simp[eD,hn],λ_=>rfl⟩
 .have hn:x.op.toNat=115:=by rw[h];rfl
  exact⟨by simp[aH,eD,bu,arith,hn],λh=>by omega⟩
 .have hn:x.op.toNat=43:=by rw[h];rfl
  exact⟨by simp[aH,eD,bu,arith,hn],λh=>by omega⟩
 .have hn:x.op.toNat=45:=by rw[h];rfl
  exact⟨by simp[aH,eD,bu,arith,hn],λh=>by omega⟩
 .have hn:x.op.toNat=42:=by rw[h];rfl
  exact⟨by simp[aH,eD,bu,arith,hn],λh=>by omega⟩
 .have hn:x.op.toNat=47:=by rw[h];rfl
  exact⟨by simp[aH,eD,bu,arith,hn],λh=>by omega⟩
 .have hn:x.op.toNat=60:=by rw[h];rfl
  exact⟨by simp[aH,eD,bu,arith,hn],λh=>by omega⟩
 .have hn:x.op.toNat=61:=by rw[h];rfl
  exact⟨by simp[aH,eD,bu,arith,hn],λh=>by omega⟩
 .have hn:x.op.toNat=101:=by rw[h];rfl
  exact⟨by simp[aH,eD,bu,arith,hn],λh=>by omega⟩
 .have hn:x.op.toNat=110:=by rw[h];rfl
  have ha:=hx.cls (by omega);have m:=hW.nc;have f:(cE x.a).toNat≠0:=by simp[cE];omega
  rw[hc (by omega)];have g:aH (im.zq.map toX) im.zx x.op (cE x.a) x.b lo=cE x.a:=by simp[aH,hn]
  rw[g,if_neg f];exact⟨by simp[eD,bu,arith,hn],λh=>by omega⟩
 .have hn:x.op.toNat=122:=by rw[h];rfl
  exact⟨by simp[aH,eD,bu,arith,hn],λh=>by omega⟩
 .have hn:x.op.toNat=103:=by rw[h];rfl
  have i:=yO hW (hx.cls (by omega)) (hx.fld (by omega));have j:eD im.zq im.zx x lo=[dc im.zq x.a x.b]:=by simp[eD,bu,arith,hn]
  have l:dc im.zq x.a x.b∈bu im.zq im.zx x:=by simp[bu,arith,hn]
  have f:=d _ (e _ l);rw[hc (by omega)];have g:aH (im.zq.map toX) im.zx x.op (cE x.a) x.b lo=dc im.zq x.a x.b:=by rw[<-i];simp[aH,hn,cE]
  rw[g,if_neg f,j];exact⟨rfl,λh=>by omega⟩
 .have hn:x.op.toNat=112:=by rw[h];rfl
  exact⟨by simp[aH,eD,bu,arith,hn],λh=>by omega⟩
 .have hn:x.op.toNat=99:=by rw[h];rfl
  have i:=nU (hx.sig hn);have j:eD im.zq im.zx x lo=[gI im.zx x.b]:=by simp[eD,bu,arith,hn]
  have l:gI im.zx x.b∈bu im.zq im.zx x:=by simp[bu,arith,hn]
  have f:=d _ (e _ l);have g:aH (im.zq.map toX) im.zx x.op (aJ x).cls x.b lo=gI im.zx x.b:=by rw[<-i.2];simp[aH,hn]
  rw[g,if_neg f,j];exact⟨rfl,λh=>by omega⟩
 .have hn:x.op.toNat=120:=by rw[h];rfl
  have ha:=hx.cls (by omega);have m:=hW.nc;have f:(cE x.a).toNat≠0:=by simp[cE];omega
  rw[hc (by omega)];have g:aH (im.zq.map toX) im.zx x.op (cE x.a) x.b lo=cE x.a:=by simp[aH,hn]
  rw[g,if_neg f];exact⟨by simp[eD,bu,arith,hn],λh=>by omega⟩
 .have hn:x.op.toNat=100:=by rw[h];rfl
  exact⟨by simp[aH,eD,bu,arith,hn],λh=>by omega⟩
 .have hn:x.op.toNat=106:=by rw[h];rfl
  exact⟨by simp[aH,eD,bu,arith,hn],λh=>by omega⟩
 .have hn:x.op.toNat=102:=by rw[h];rfl
  exact⟨by simp[aH,eD,bu,arith,hn],λh=>by omega⟩
 .have hn:x.op.toNat=116:=by rw[h];rfl
  exact⟨by simp[aH,eD,bu,arith,hn],λh=>by omega⟩
theorem Az (hW:WfI im) (hbd:WfB im.zq im.zx bd) (hx:WfX im.zq im.zx.length bd.zy.length x) {st lo:L_} (hz:okZ im.zq.length bd.zy.length st lo):
  tV (im.zq.map toX) im.zx (aJ x) (aR im.zx bd).ans st lo=cX im.zq im.zx bd x st lo:=by
 rw[zt hW hbd hx];unfold tV pL;rw[Aw hW hbd hx];have f:=Ay hW hbd hx;have g:(aJ x).op=x.op:=rfl;have i:(aJ x).num=x.b:=rfl
 by_cases hl:st.length<(cD im.zq im.zx bd x).length
 .rw[if_pos (Or.inl hl)]
  have:lh im.zq st (cD im.zq im.zx bd x)=false:=by
   unfold lh;rw[Bool.and_eq_false_iff]
   left
   simp;omega
  rw[if_pos (Or.inl this)]
 .have k:=vF hW hz.1 f (by omega:(cD im.zq im.zx bd x).length<=st.length);rw[k]
  cases hsu:lh im.zq st (cD im.zq im.zx bd x)with
  |false=>rw[if_pos (Or.inr rfl),if_pos (Or.inl rfl)]
  |true=>
   have j: ¬(st.length<(cD im.zq im.zx bd x).length\/true=false):=by simp;omega
   rw[if_neg j];rw[g,i]
   by_cases h115:x.op.toNat=115
   .have hb:=hx.loc (Or.inr h115);have e:(cD im.zq im.zx bd x).length=1:=by unfold cD;rw[if_pos (Or.inl h115)];rfl
    have a: ¬x.op.toNat=108:=by omega
    rw[if_neg (λh=>h.2 (by rw[hz.2.2];exact hb))];simp only[a,false_and,if_false,or_false,Bool.true_eq_false];rw[if_pos h115,if_pos h115,e];have l:okT im.zq.length (st.getD (st.length-1) 0)=true:=nz hz.1 (by rw[e]at hl;omega)
    have d:=vG hW hx (lo:=lo.set x.b (st.getD (st.length-1) 0)) (by rw[List.length_set];exact hz.2.2) (λc hc=>by
     obtain h|h:=List.mem_or_eq_of_mem_set hc
     .exact hz.2.1 c h
     .rw[h];exact l)
    rw[g,i]at d;rw[d.1]
    congr 2
    unfold eD;rw[if_neg a,if_neg a]
   .simp only[h115,false_and,if_false];have d:=vG hW hx hz.2.2 hz.2.1;rw[g,i]at d;rw[d.1]
    by_cases a:x.op.toNat=108
    .rw[d.2 a];simp only[a,true_and,Bool.true_eq_false,false_or]
    .simp only[a,false_and,if_false,or_false,Bool.true_eq_false]
end
end
section
open Go Go.RowKit Sp
attribute [local go_sem ↓] eF eG
def stC (x:St×Value×Value):List Value:=match x.1 with
 |none=> [.bool false,S_,S_]
 |some _=> [.bool true,x.2.1,x.2.2]
def fG (l:List (St×Value×Value)):List Value:=l.flatMap stC
theorem tW (x:St×Value×Value):(stC x).length=3:=by unfold stC;split<;>rfl
theorem cP {l:List (St×Value×Value)} {j k:Nat} {x:St×Value×Value} (h:l[j]?=some x) (hk:k<3):(fG l)[j*3+k]?=(stC x)[k]?:=me stC 3 tW l j k x h hk
theorem vH (l:List (St×Value×Value)):(fG l).length=l.length*3:=by
 induction l with
 |nil=>rfl
 |cons x l ih=>simp only[fG,lu,aV,tW,ie]at ih⊢;rw[ih];omega
theorem vI: ∀{l:List (St×Value×Value)} {j:Nat} {y:St×Value×Value} {a b c:Value},stC y=[a,b,c]->j<l.length->(((fG l).set (j*3) a).set (j*3+1) b).set (j*3+2) c=fG (l.set j y):=by
 intro l
 induction l with
 |nil=>intro j y a b c _ h;simp at h
 |cons x l ih=>
  intro j y a b c d e
  obtain⟨x0,x1,x2,hx⟩: ∃x0 x1 x2,stC x=[x0,x1,x2]:=by
   have:=tW x
   match hh:stC x,this with
   | [x0,x1,x2],_=>exact⟨x0,x1,x2,rfl⟩
  cases j with
  |zero=>simp[fG,hx,d]
  |succ j=>
   have:=ih (j:=j) d (by simpa using e);simp only[fG,lu,List.set_cons_succ,hx]at this⊢;rw[<-this];rw[show(j+1)*3=j*3+3 from by omega];simp[List.set_append]
def StB (w:World) (g:Nat) (tab:List St):Prop:=
 ∃l:List (St×Value×Value),w.heap[g]?=some (.cells (fG l).toArray 117)/\l.map (·.1)=tab/\ ∀x∈l,∀s lo,x.1=some (s,lo)->BtB w 0 x.2.1 s/\BtB w 0 x.2.2 lo
theorem StB.off {F:Nat->Prop} {w w':World} {g:Nat} {tab:List St} (h:StB w g tab) (hb:But F w w') (hg: ¬F g) (hf: ∀k cur,w.heap[k]?=some (.cells cur 5)-> ¬F k):StB w' g tab:=by
 obtain⟨l,a,c,b⟩:=h;exact⟨l,(hb.block g (ae a) hg).trans a,c,λx hx s lo e=>⟨bz (b x hx s lo e).1 hb (λk cur hh _=>hf k cur hh),bz (b x hx s lo e).2 hb (λk cur hh _=>hf k cur hh)⟩⟩
structure Bld (w0 w:World) (bb b gs gw:Nat) (c r:UInt8) (m:Nat) (vl vi:Value) (tab:List St) (wt:List Bool) (bad:Bool):Prop where
 but:B_ w0 w
 gbb:w0.heap.size<=bb
 ggs:w0.heap.size<=gs
 ggw:w0.heap.size<=gw
 blk:w.heap[bb]?=some (.cells #[.pointer (some ⟨b,0,none⟩),.int .u8 c.toNat,.int .i64 m,.int .u8 r.toNat,vl,vi,.slice (some ⟨gs,0,none⟩) tab.length tab.length,.slice (some ⟨gw,0,none⟩) tab.length tab.length,.bool bad] 181)
 sts:StB w gs tab
 wts:WtB w gw wt
 wl:wt.length=tab.length
section
variable {w0 w:World} {bb b gs gw:Nat} {c r:UInt8} {m:Nat} {vl vi:Value} {tab:List St} {wt:List Bool} {bad:Bool}
theorem Bld.cells (h:Bld w0 w bb b gs gw c r m vl vi tab wt bad):
  w.cell? ⟨bb,0,none⟩=some (.pointer (some ⟨b,0,none⟩))/\w.cell? ⟨bb,6,none⟩=some (.slice (some ⟨gs,0,none⟩) tab.length tab.length)/\w.cell? ⟨bb,7,none⟩=some (.slice (some ⟨gw,0,none⟩) tab.length tab.length)/\w.cell? ⟨bb,8,none⟩=some (.bool bad):=by
 refine⟨?_,?_,?_,?_⟩
 .rw[bU w bb 0 _ _ (0,0) h.blk];rfl
 .rw[bU w bb 6 _ _ (0,0) h.blk];rfl
 .rw[bU w bb 7 _ _ (0,0) h.blk];rfl
 .rw[bU w bb 8 _ _ (0,0) h.blk];rfl
theorem Bld.body (h:Bld w0 w bb b gs gw c r m vl vi tab wt bad):
  w.cell? ⟨bb,1,none⟩=some (.int .u8 c.toNat)/\w.cell? ⟨bb,2,none⟩=some (.int .i64 m)/\w.cell? ⟨bb,3,none⟩=some (.int .u8 r.toNat)/\w.cell? ⟨bb,4,none⟩=some vl/\w.cell? ⟨bb,5,none⟩=some vi:=by
 refine⟨?_,?_,?_,?_,?_⟩
 .rw[bU w bb 1 _ _ (0,0) h.blk];rfl
 .rw[bU w bb 2 _ _ (0,0) h.blk];rfl
 .rw[bU w bb 3 _ _ (0,0) h.blk];rfl
 .rw[bU w bb 4 _ _ (0,0) h.blk];rfl
 .rw[bU w bb 5 _ _ (0,0) h.blk];rfl
theorem Bld.fz (h:Bld w0 w bb b gs gw c r m vl vi tab wt bad) (k:Nat):w.frozen? ⟨bb,k,none⟩=false:=cw w bb k _ _ h.blk
theorem Bld.ne (h:Bld w0 w bb b gs gw c r m vl vi tab wt bad):bb≠gs/\bb≠gw/\gs≠gw:=by
 obtain⟨l,a,_⟩:=h.sts;refine⟨?_,?_,?_⟩
 .intro e;have:=h.blk;rw[e,a]at this;injection this with this;injection this with _ h2;exact absurd h2 (by decide)
 .intro e;have:=h.blk;rw[e]at this;have d:=h.wts;unfold WtB at d;rw[d]at this;injection this with this;injection this with _ h2;exact absurd h2 (by decide)
 .intro e;have d:=h.wts;unfold WtB at d;rw[e,d]at a;injection a with a;injection a with _ h2;exact absurd h2 (by decide)
theorem Bld.u8 (h:Bld w0 w bb b gs gw c r m vl vi tab wt bad) {k:Nat} {cur:Array Value} (hk:w.heap[k]?=some (.cells cur 5)): ¬(k=bb\/k=gs\/k=gw):=by
 obtain⟨l,d,_⟩:=h.sts;have a:=h.wts;unfold WtB at a;rintro(e|e|e)
 .rw[e,h.blk]at hk;injection hk with hk;injection hk with _ h2;exact absurd h2 (by decide)
 .rw[e,d]at hk;injection hk with hk;injection hk with _ h2;exact absurd h2 (by decide)
 .rw[e,a]at hk;injection hk with hk;injection hk with _ h2;exact absurd h2 (by decide)
theorem Bld.lt (h:Bld w0 w bb b gs gw c r m vl vi tab wt bad):bb<w.heap.size/\gs<w.heap.size/\gw<w.heap.size:=by
 obtain⟨l,a,_⟩:=h.sts;exact⟨ae h.blk,ae a,ae h.wts⟩
theorem Bld.next {w':World} (h:Bld w0 w bb b gs gw c r m vl vi tab wt bad) (hb:B_ w w'):Bld w0 w' bb b gs gw c r m vl vi tab wt bad:=
 ⟨h.but.trans hb,h.gbb,h.ggs,h.ggw,hb.kp h.blk,h.sts.off hb (λh=>h) (λ_ _ _ h=>h),hb.kp h.wts,h.wl⟩
theorem Bld.fail (h:Bld w0 w bb b gs gw c r m vl vi tab wt bad):Bld w0 (w.setCell ⟨bb,8,none⟩ (.bool true)) bb b gs gw c r m vl vi tab wt true:=by
 have hb:=aq w bb 8 (.bool true);have hn:=h.ne;refine⟨h.but.next hb (λk hk e=>by have:=h.gbb;omega),h.gbb,h.ggs,h.ggw,bS w bb 8 _ _ _ h.blk,h.sts.off hb (λe=>hn.1 e.symm) (λk cur hk e=>h.u8 hk (Or.inl e)),(hb.block gw (ae h.wts) (λe=>hn.2.1 e.symm)).trans h.wts,h.wl⟩
theorem Bld.wait (h:Bld w0 w bb b gs gw c r m vl vi tab wt bad) (k:Nat) (v:Bool):Bld w0 (w.setCell ⟨gw,k,none⟩ (.bool v)) bb b gs gw c r m vl vi tab (wt.set k v) bad:=by
 have hb:=aq w gw k (.bool v);have hn:=h.ne;refine⟨h.but.next hb (λj hk e=>by have:=h.ggw;omega),h.gbb,h.ggs,h.ggw,(hb.block bb (ae h.blk) hn.2.1).trans h.blk,h.sts.off hb hn.2.2 (λk cur hk e=>h.u8 hk (Or.inr (Or.inr e))),?_,by rw[List.length_set];exact h.wl⟩;have:=bS w gw k _ _ (.bool v) h.wts;unfold WtB;rw[this,List.map_set];simp
theorem Bld.wcell (h:Bld w0 w bb b gs gw c r m vl vi tab wt bad) {k:Nat} (hk:k<tab.length):w.cell? ⟨gw,k,none⟩=some (.bool (wt.getD k false))/\w.frozen? ⟨gw,k,none⟩=false:=
 ⟨h.wts.cell (by rw[h.wl];exact hk),cw w gw k _ _ h.wts⟩
theorem Bld.known (h:Bld w0 w bb b gs gw c r m vl vi tab wt bad) {k:Nat} {s lo:L_} (hk:tab[k]?=some (some (s,lo))):
  ∃a1 c1 d c2,w.cell? ⟨gs,k*3,none⟩=some (.bool true)/\w.cell? ⟨gs,k*3+1,none⟩=some (.slice a1 s.length c1)/\w.cell? ⟨gs,k*3+2,none⟩=some (.slice d lo.length c2)/\BtB w 0 (.slice a1 s.length c1) s/\BtB w 0 (.slice d lo.length c2) lo:=by
 obtain⟨l,g,hm,n⟩:=h.sts;rw[<-hm,cg]at hk;obtain⟨x,hx,a⟩:=Option.map_eq_some_iff.1 hk;obtain⟨e,f⟩:=n x (a9 hx) s lo a;obtain⟨a1,c1,i⟩:=aA e;obtain⟨d,c2,j⟩:=aA f;have hc:stC x=[.bool true,x.2.1,x.2.2]:=by unfold stC;rw[a]
 rw[i]at e;rw[j]at f;refine⟨a1,c1,d,c2,?_,?_,?_,e,f⟩
 .rw[bU w gs (k*3) _ _ (0,0) g];have:=cP (k:=0) hx (by omega);rw[hc]at this;simpa using this
 .rw[bU w gs (k*3+1) _ _ (0,0) g];have:=cP (k:=1) hx (by omega);rw[hc,i]at this;simpa using this
 .rw[bU w gs (k*3+2) _ _ (0,0) g];have:=cP (k:=2) hx (by omega);rw[hc,j]at this;simpa using this
theorem Bld.unk (h:Bld w0 w bb b gs gw c r m vl vi tab wt bad) {k:Nat} (hk:tab[k]?= .some .none):
  w.cell? ⟨gs,k*3,none⟩= .some (.bool false)/\w.cell? ⟨gs,k*3+1,none⟩= .some S_/\w.cell? ⟨gs,k*3+2,none⟩= .some S_:=by
 obtain⟨l,a,hm,e⟩:=h.sts;rw[<-hm,cg]at hk;obtain⟨x,hx,d⟩:=Option.map_eq_some_iff.1 hk;have hc:stC x=[.bool false,S_,S_]:=by unfold stC;rw[d]
 refine⟨?_,?_,?_⟩
 .rw[bU w gs (k*3) _ _ (0,0) a];have:=cP (k:=0) hx (by omega);rw[hc]at this;simpa using this
 .rw[bU w gs (k*3+1) _ _ (0,0) a];have:=cP (k:=1) hx (by omega);rw[hc]at this;simpa using this
 .rw[bU w gs (k*3+2) _ _ (0,0) a];have:=cP (k:=2) hx (by omega);rw[hc]at this;simpa using this
theorem Bld.sfz (h:Bld w0 w bb b gs gw c r m vl vi tab wt bad) (k:Nat):w.frozen? ⟨gs,k,none⟩=false:=by
 obtain⟨l,a,hm,d⟩:=h.sts;exact cw w gs k _ _ a
theorem Bld.lay (h:Bld w0 w bb b gs gw c r m vl vi tab wt bad) {k:Nat} (hk:k<tab.length) {s lo:L_} {v1 v2:Value} (h1:BtB w 0 v1 s) (h2:BtB w 0 v2 lo):
  Bld w0 (((w.setCell ⟨gs,k*3,none⟩ (.bool true)).setCell ⟨gs,k*3+1,none⟩ v1).setCell ⟨gs,k*3+2,none⟩ v2) bb b gs gw c r m vl vi (tab.set k (.some (s,lo))) wt bad:=by
 have hb:But (· =gs) w (((w.setCell ⟨gs,k*3,none⟩ (.bool true)).setCell ⟨gs,k*3+1,none⟩ v1).setCell ⟨gs,k*3+2,none⟩ v2):=((aq w gs _ _).trans (aq _ gs _ _)).trans (aq _ gs _ _);have hn:=h.ne;have f: ∀j cur,w.heap[j]?= .some (.cells cur 5)-> ¬j=gs:=λj cur hj e=>h.u8 hj (Or.inr (Or.inl e))
 have d:=h.lt;have C:=h.ggs;have g:=(hb.block bb d.1 hn.1).trans h.blk;have n:=(hb.block gw d.2.2 (λe=>hn.2.2 e.symm)).trans h.wts;have i:B_ w0 (((w.setCell ⟨gs,k*3,none⟩ (.bool true)).setCell ⟨gs,k*3+1,none⟩ v1).setCell ⟨gs,k*3+2,none⟩ v2):=h.but.next hb (λj hj e=>by omega);obtain⟨l,A,hm,v⟩:=h.sts;have z:l.length=tab.length:=by rw[<-hm];simp
 have p:=bS w gs (k*3) _ _ (.bool true) A;have q:=bS _ gs (k*3+1) _ _ v1 p;have t:=bS _ gs (k*3+2) _ _ v2 q;refine⟨i,h.gbb,h.ggs,h.ggw,by rw[List.length_set];exact g,⟨l.set k (.some (s,lo),v1,v2),?_,?_,?_⟩,n,by rw[List.length_set];exact h.wl⟩
 .rw[t]
  congr 2
  rw[<-vI (l:=l) (j:=k) (y:=(.some (s,lo),v1,v2)) (a:= .bool true) (b:=v1) (c:=v2) rfl (by omega)];simp
 .rw[List.map_set,hm]
 .intro x hx s' lo' e;obtain hx|hx:=List.mem_or_eq_of_mem_set hx
  .obtain⟨B,p2⟩:=v x hx s' lo' e;exact⟨bz B hb (λj cur hh _=>f j cur hh),bz p2 hb (λj cur hh _=>f j cur hh)⟩
  .subst hx;simp only[Option.some.injEq,Prod.mk.injEq]at e;obtain⟨rfl,rfl⟩:=e;exact⟨bz h1 hb (λj cur hh _=>f j cur hh),bz h2 hb (λj cur hh _=>f j cur hh)⟩
end
theorem StB.known {w:World} {gs:Nat} {tab:List St} (h:StB w gs tab) {k:Nat} {s lo:L_} (hk:tab[k]?=some (some (s,lo))):
  ∃a1 c1 b c2,w.cell? ⟨gs,k*3,none⟩=some (.bool true)/\w.cell? ⟨gs,k*3+1,none⟩=some (.slice a1 s.length c1)/\w.cell? ⟨gs,k*3+2,none⟩=some (.slice b lo.length c2)/\BtB w 0 (.slice a1 s.length c1) s/\BtB w 0 (.slice b lo.length c2) lo:=by
 obtain⟨l,e,hm,i⟩:=h;rw[<-hm,cg]at hk;obtain⟨x,hx,a⟩:=Option.map_eq_some_iff.1 hk;obtain⟨c,d⟩:=i x (a9 hx) s lo a;obtain⟨a1,c1,f⟩:=aA c;obtain⟨b,c2,g⟩:=aA d;have hc:stC x=[.bool true,x.2.1,x.2.2]:=by unfold stC;rw[a]
 rw[f]at c;rw[g]at d;refine⟨a1,c1,b,c2,?_,?_,?_,c,d⟩
 .rw[bU w gs (k*3) _ _ (0,0) e];have:=cP (k:=0) hx (by omega);rw[hc]at this;simpa using this
 .rw[bU w gs (k*3+1) _ _ (0,0) e];have:=cP (k:=1) hx (by omega);rw[hc,f]at this;simpa using this
 .rw[bU w gs (k*3+2) _ _ (0,0) e];have:=cP (k:=2) hx (by omega);rw[hc,g]at this;simpa using this
theorem StB.unk {w:World} {gs:Nat} {tab:List St} (h:StB w gs tab) {k:Nat} (hk:tab[k]?= .some .none):
  w.cell? ⟨gs,k*3,none⟩= .some (.bool false)/\w.cell? ⟨gs,k*3+1,none⟩= .some S_/\w.cell? ⟨gs,k*3+2,none⟩= .some S_:=by
 obtain⟨l,a,hm,c⟩:=h;rw[<-hm,cg]at hk;obtain⟨x,hx,b⟩:=Option.map_eq_some_iff.1 hk;have hc:stC x=[.bool false,S_,S_]:=by unfold stC;rw[b]
 refine⟨?_,?_,?_⟩
 .rw[bU w gs (k*3) _ _ (0,0) a];have:=cP (k:=0) hx (by omega);rw[hc]at this;simpa using this
 .rw[bU w gs (k*3+1) _ _ (0,0) a];have:=cP (k:=1) hx (by omega);rw[hc]at this;simpa using this
 .rw[bU w gs (k*3+2) _ _ (0,0) a];have:=cP (k:=2) hx (by omega);rw[hc]at this;simpa using this
theorem kT (W:World) (n:Int) (c:UInt8) (hc:(c.toNat:Int)=n) (g:Nat) (hg:W.heap.size=g):BtB (W.alloc (.cells #[.int .u8 n] 5)) 0 (.slice (some ⟨g,0,none⟩) 1 1) [c]:=by
 subst hg;have h:=BtB.lit W 0 (Nat.zero_le _) [c] (by simp);simp only[aU,List.map_cons,List.map_nil,fM,hc]at h;exact h
theorem xL (gA:Nat) (t:List St) (w:World) (hA:StB w gA t) (ht:qg t):
  Calls prog 37 #[.agg #[.slice (some ⟨gA,0,none⟩) t.length t.length]] w λen w'=>en= .returned (.string ⟨(d7 t).toArray⟩)/\B_ w w':=by
 have hl:=ht.1;have b6:=bj w (.cells #[.slice (some ⟨gA,0,none⟩) t.length t.length] 65);have e2:B_ w (w.alloc (.cells #[.slice (some ⟨gA,0,none⟩) t.length t.length] 65)):=ag _ _ _
 go_in
 go_wp2_with fail;have hE:=BtB.empty (w.alloc (.cells #[.slice (some ⟨gA,0,none⟩) t.length t.length] 65));have J:=(ag (λ_=>False) (w.alloc (.cells #[.slice (some ⟨gA,0,none⟩) t.length t.length] 65)) (.cells #[] 5)).block w.heap.size (ae b6) (λh=>h);have b3:=e2.trans (ag (λ_=>False) (w.alloc (.cells #[.slice (some ⟨gA,0,none⟩) t.length t.length] 65)) (.cells #[] 5));rw[b6]at J;have f1:((w.alloc (.cells #[.slice (some ⟨gA,0,none⟩) t.length t.length] 65))).heap.size=w.heap.size+1:=by simp
 rw[f1]at hE;revert hE J b3;generalize ((w.alloc (.cells #[.slice (some ⟨gA,0,none⟩) t.length t.length] 65)).alloc (.cells #[] 5))=W;intro hE J b3;clear b6 e2 f1
 go_loopg [3,4] t.length (λmm ss ks wr=> ∃(k:Nat) (ao:Option Addr) (cap:Nat) (s:L_),ss= .slice ao s.length cap/\BtB wr (w.heap.size+1) (.slice ao s.length cap) s/\s.length<=200*k/\ks= .int .i64 k/\k<=t.length/\k+mm<=t.length/\t.length<=k+mm/\B_ w wr/\wr.heap[w.heap.size]?=some (.cells #[.slice (some ⟨gA,0,none⟩) t.length t.length] 65)/\Hid ((t.take k).flatMap s8=s))
 case atStart=>exact⟨0,_,0,[],rfl,hE,by simp,rfl,by omega,by omega,by omega,b3,J,rfl⟩
 case round=>
  obtain⟨k,ao,cap,s,rfl,P,h3,rfl,h0,g0,h1,j,L,HA⟩:=hrel;clear g0;have e5:=hA.off j (λh=>h) (λ_ _ _ h=>h);have e8:=ae L;have g5:=j.size;have c0:=ce0 L
  by_cases hlt:k<t.length
  .have g1:(k:Int)<(t.length:Int):=by omega
   obtain⟨o,ho⟩: ∃o,t[k]=o:=⟨_,rfl⟩;have e:=aM hlt;rw[ho]at e;have alt:gA<wr.heap.size:=by obtain⟨l,h,_⟩:=e5;exact ae h
   have HT:Hid ((t.take (k+1)).flatMap s8=s++s8 o):=by
    show _=_
    rw[List.take_add_one,e,List.flatMap_append,HA.out];simp
   cases o with
   |none=>
    obtain⟨q0,q1,q2⟩:=e5.unk e;clear e ho HA;have x:B_ wr (wr.alloc (.cells #[.bool false,S_,S_] 117)):=ag _ _ _;have n:=(P.but x (λ_ _ h=>h)).but (ag (λ_=>False) _ (.cells #[.int .u8 63] 5)) (λ_ _ h=>h);have G:=kT (wr.alloc (.cells #[.bool false,S_,S_] 117)) 63 63 rfl (wr.heap.size+1) (by simp);have p:=aC P;have X:=bB P;obtain⟨f,d⟩: ∃f,s++ [63]=f:=⟨_,rfl⟩;have Z:f.length<=200*k+1:=by rw[<-d];simp;omega
    have q:=hid d;clear d;go_wp2_with (at_builtin;refine bH rfl _ _ rfl (w.heap.size+1) 0 _ _ s [63] f q rfl rfl n G (by omega) (by simp;omega) ?_);intro a6 C w2 y c _;have b:But (λk'=>(Value.slice ao s.length cap).ownBlock=some k') wr w2:=((ag _ _ _).trans (ag _ _ _)).trans c;have b1:B_ w w2:=j.next b (λk' hk' h=>absurd (p k' h) (by omega));have F:=(b.block w.heap.size e8 (λh=>by have:=p _ h;omega)).trans L;have g6:=b.size;clear x n G c q0 q1 q2;have H:=kT w2 44 44 rfl w2.heap.size rfl;have E:=y.but (ag (λ_=>False) _ (.cells #[.int .u8 44] 5)) (λ_ _ h=>h);have m:=aC y
    obtain⟨A,r⟩: ∃A,f++ [44]=A:=⟨_,rfl⟩;have b9:A.length<=200*k+2:=by rw[<-r];simp;omega
    have B:=hid r;clear r;go_wp2_with (at_builtin;refine bH rfl _ _ rfl (w.heap.size+1) 0 _ _ f [44] A B rfl rfl E H (by omega) (by simp;omega) ?_);intro a7 D M z i _;have a:But (λk'=>(Value.slice a6 f.length C).ownBlock=some k') w2 M:=(ag _ _ _).trans i;have c:B_ w M:=b1.next a (λk' hk' h=>absurd (m k' h) (by omega));have I:=(a.block w.heap.size (ae F) (λh=>by have:=m _ h;omega)).trans F;clear H E i;go_wp2_with fail
    go_roundg (t.length-(k+1))
    case measure=>omega
    case rel=>exact⟨k+1,a7,D,A,rfl,z,by omega,by simp,by omega,by omega,by omega,c,I,hid (by rw[HT.out,<-B.out,<-q.out];simp[s8])⟩
   |some st=>
    obtain⟨st,lo⟩:=st;have h2:=ht.2 k st lo e;obtain⟨a1,c1,a2,c2,z0,z1,z2,a4,a5⟩:=hA.known e;have altw:gA<w.heap.size:=by obtain⟨l,h,_⟩:=hA;exact ae h
    have q0:=j.kc z0 altw;have q1:=j.kc z1 altw;have q2:=j.kc z2 altw;have g4:=a4.but j (λ_ _ h=>h);have f0:=a5.but j (λ_ _ h=>h);have Y:=bB a5;clear z0 z1 z2 a4;clear e ho HA;have x:B_ wr (wr.alloc (.cells #[.bool true,.slice a1 st.length c1,.slice a2 lo.length c2] 117)):=ag _ _ _;have e7:=bj wr (.cells #[.bool true,.slice a1 st.length c1,.slice a2 lo.length c2] 117);have n:=P.but x (λ_ _ h=>h);have a3:=g4.but x (λ_ _ h=>h);have c6:=f0.but x (λ_ _ h=>h);have p:=aC P;have X:=bB P;obtain⟨f,d⟩: ∃f,s++st=f:=⟨_,rfl⟩;have Z:f.length<=200*k+100:=by rw[<-d];simp;omega
    have q:=hid d;clear d;go_wp2_with (at_builtin;refine bH rfl _ _ rfl (w.heap.size+1) 0 _ _ s st f q rfl rfl n a3 (by omega) (by simp;omega) ?_);intro a6 C w2 y c _;have b:But (λk'=>(Value.slice ao s.length cap).ownBlock=some k') wr w2:=(ag _ _ _).trans c;have b1:B_ w w2:=j.next b (λk' hk' h=>absurd (p k' h) (by omega));have F:=(b.block w.heap.size e8 (λh=>by have:=p _ h;omega)).trans L;have v:=(c.block wr.heap.size (ae e7) (λh=>by have:=X _ h;omega)).trans e7;have b7:BtB w2 0 (.slice a2 lo.length c2) lo:=f0.but b (λg hg h=>by have:=Y g hg;have:=p g h;omega);obtain⟨m0,m1,m2⟩:=iD v
    have g6:=b.size;clear n c q0 q1 q2 a3 c6;have H:=kT w2 124 124 rfl w2.heap.size rfl;have E:=y.but (ag (λ_=>False) _ (.cells #[.int .u8 124] 5)) (λ_ _ h=>h);have m:=aC y;obtain⟨A,r⟩: ∃A,f++ [124]=A:=⟨_,rfl⟩;have b9:A.length<=200*k+101:=by rw[<-r];simp;omega
    have B:=hid r;clear r;go_wp2_with (at_builtin;refine bH rfl _ _ rfl (w.heap.size+1) 0 _ _ f [124] A B rfl rfl E H (by omega) (by simp;omega) ?_);intro a7 D M z i _;have a:But (λk'=>(Value.slice a6 f.length C).ownBlock=some k') w2 M:=(ag _ _ _).trans i;have c:B_ w M:=b1.next a (λk' hk' h=>absurd (m k' h) (by omega));have I:=(a.block w.heap.size (ae F) (λh=>by have:=m _ h;omega)).trans F;have Q:=(a.block wr.heap.size (ae v) (λh=>gd y v (by decide) h)).trans v;have b8:BtB M 0 (.slice a2 lo.length c2) lo:=b7.but a (λg hg h=>by have:=Y g hg;have:=m g h;omega);have h4:=a.size
    have S:=aC z;clear H E i m0 m1 m2;obtain⟨m0,m1,m2⟩:=iD Q;have f8:=ae Q;obtain⟨S4,b4⟩: ∃S4,A++lo=S4:=⟨_,rfl⟩;have g2:S4.length<=200*k+106:=by rw[<-b4];simp;omega
    have d6:=hid b4;clear b4;go_wp2_with (at_builtin;refine bH rfl _ _ rfl (w.heap.size+1) 0 _ _ A lo S4 d6 rfl rfl z b8 (by omega) (by omega) ?_);intro f3 a8 w4 e3 b2 _;have f5:B_ w w4:=c.next b2 (λk' hk' h=>absurd (S k' h) (by omega));have e6:=(b2.block w.heap.size (ae I) (λh=>by have:=S _ h;omega)).trans I;have h5:=b2.size;have T:=aC e3;clear m0 m1 m2;have e9:=kT w4 44 44 rfl w4.heap.size rfl;have e4:=e3.but (ag (λ_=>False) _ (.cells #[.int .u8 44] 5)) (λ_ _ h=>h);obtain⟨S5,b5⟩: ∃S5,S4++ [44]=S5:=⟨_,rfl⟩;have g3:S5.length<=200*k+107:=by rw[<-b5];simp;omega
    have e0:=hid b5;clear b5;go_wp2_with (at_builtin;refine bH rfl _ _ rfl (w.heap.size+1) 0 _ _ S4 [44] S5 e0 rfl rfl e4 e9 (by omega) (by simp;omega) ?_);intro f4 b0 w5 f6 e1 _;have O:But (λk'=>(Value.slice f3 S4.length a8).ownBlock=some k') w4 w5:=(ag _ _ _).trans e1;have i:B_ w w5:=f5.next O (λk' hk' h=>absurd (T k' h) (by omega));have f7:=(O.block w.heap.size (ae e6) (λh=>by have:=T _ h;omega)).trans e6;clear e9 e4 e1;go_wp2_with fail
    go_roundg (t.length-(k+1))
    case measure=>omega
    case rel=>exact⟨k+1,f4,b0,S5,rfl,f6,by omega,by simp,by omega,by omega,by omega,i,f7,hid (by rw[HT.out,<-e0.out,<-d6.out,<-B.out,<-q.out];simp[s8])⟩
  .have g1: ¬(k:Int)<(t.length:Int):=by omega
   have a0:d7 t=s++ [59]:=by rw[d7,<-HA.out,g8 (by omega)]
   obtain⟨f,d⟩: ∃f,s++ [59]=f:=⟨_,rfl⟩;have Z:f.length<=200*k+1:=by rw[<-d];simp;omega
   have f2:=hid (a0.trans d);have q:=hid d;clear a0 HA d;have G:=kT wr 59 59 rfl wr.heap.size rfl;have n:=P.but (ag (λ_=>False) _ (.cells #[.int .u8 59] 5)) (λ_ _ h=>h);have p:=aC P;go_wp2_with (at_builtin;refine bH rfl _ _ rfl (w.heap.size+1) 0 _ _ s [59] f q rfl rfl n G (by omega) (by simp;omega) ?_);intro a7 D M z i _;have a:But (λk'=>(Value.slice ao s.length cap).ownBlock=some k') wr M:=(ag _ _ _).trans i;have c:B_ w M:=j.next a (λk' hk' h=>absurd (p k' h) (by omega));have g7:=iF z;clear G n i;go_wp2_with fail;exact cV (.string ⟨f.toArray⟩) results37 rfl rfl ⟨by rw[f2.out],c⟩
section
variable {cs:List Cls} {tab:List St} {wt:List Bool} {j:Nat} {sb lb sa la:L_}
theorem ER (h:tab.length<=j):bq cs (tab,wt,false) j sb lb=(tab,wt,true):=by
 have:cH cs (tab,false,false) (j:Int) sb lb=(tab,false,true):=by
  unfold cH;rw[if_neg (by simp),if_pos (by simp;omega)]
 unfold bq;simp only;rw[this];simp
theorem B9 (h:tab[j]?=some none):bq cs (tab,wt,false) j sb lb=(tab.set j (some (sb,lb)),wt.set j true,false):=by
 have a:=(bn h).1
 have:cH cs (tab,false,false) (j:Int) sb lb=(tab.set j (some (sb,lb)),true,false):=by
  unfold cH;rw[if_neg (by simp),if_neg (by simp;omega)];simp[List.getD,h,iJ]
 unfold bq;simp only;rw[this];simp
theorem ES (h:tab[j]?=some (some (sa,la))) (hl:sa.length≠sb.length):bq cs (tab,wt,false) j sb lb=(tab,wt,true):=by
 have a:=(bn h).1
 have:cH cs (tab,false,false) (j:Int) sb lb=(tab,false,true):=by
  unfold cH;rw[if_neg (by simp),if_neg (by simp;omega)];simp[List.getD,h,iJ,hl]
 unfold bq;simp only;rw[this];simp
theorem DF (h:tab[j]?=some (some (sa,la))) (hl:sa.length=sb.length) (h1:dW cs sa sb=sa) (h2:dW cs la lb=la):bq cs (tab,wt,false) j sb lb=(tab,wt,false):=by
 have a:=(bn h).1
 have:cH cs (tab,false,false) (j:Int) sb lb=(tab,false,false):=by
  unfold cH;rw[if_neg (by simp),if_neg (by simp;omega)];simp[List.getD,h,iJ,hl,h1,h2]
 unfold bq;simp only;rw[this];simp
theorem Ca (h:tab[j]?=some (some (sa,la))) (hl:sa.length=sb.length) (h1: ¬(dW cs sa sb=sa/\dW cs la lb=la)):bq cs (tab,wt,false) j sb lb=(tab.set j (some (dW cs sa sb,dW cs la lb)),wt.set j true,false):=by
 have a:=(bn h).1
 have:cH cs (tab,false,false) (j:Int) sb lb=(tab.set j (some (dW cs sa sb,dW cs la lb)),true,false):=by
  unfold cH;rw[if_neg (by simp),if_neg (by simp;omega)];simp[List.getD,h,iJ,hl,h1]
 unfold bq;simp only;rw[this];simp
theorem qO (hw:WfC cs) (hn:cs.length<=4): ∀{a b:L_},(∀c∈a,okT cs.length c=true)->(∀c∈b,okT cs.length c=true)->List.zipWith (iC (cs.map toX)) a b=dW cs a b:=by
 intro a
 induction a with
 |nil=>intro b _ _;simp[dW]
 |cons x a ih=>
  intro b ha hb
  cases b with
  |nil=>simp[dW]
  |cons y b=>
   simp only[dW,List.zipWith_cons_cons];rw[pb hw hn (ha x (by simp)) (hb y (by simp))]
   congr 1
   exact ih (λc h=>ha c (by simp[h])) (λc h=>hb c (by simp[h]))
end
theorem m9 (w0:World) (bb b gs gw:Nat) (c r:UInt8) (m:Nat) (vl vi:Value) (tab:List St) (wt:List Bool) (bad:Bool) (im:Img) (nl j:Nat) (aa al:Option Addr) (ca cl:Nat) (sb lb:L_) (w:World) (hW:WfI im) (hnl:nl<=5) (htl:tab.length<=100)
  (hB:Bld w0 w bb b gs gw c r m vl vi tab wt bad) (hTX:TxC w0 b (im.zq.map toX)) (hwf:wfT im.zq.length nl tab.length tab) (hz:okZ im.zq.length nl sb lb) (hsl:sb.length<=101)
  (hs:BtB w 0 (.slice aa sb.length ca) sb) (hl:BtB w 0 (.slice al lb.length cl) lb):
  Calls prog 105 #[.pointer (some ⟨bb,0,none⟩),.int .i64 j,xsV true (.slice aa sb.length ca) (.slice al lb.length cl)] w λen w'=>en= .returned (.tuple #[])/\But (λk=>k=bb\/k=gs\/k=gw) w w'/\
   Bld w0 w' bb b gs gw c r m vl vi (bq im.zq (tab,wt,false) j sb lb).1 (bq im.zq (tab,wt,false) j sb lb).2.1 (bad||(bq im.zq (tab,wt,false) j sb lb).2.2):=by
 have x:B_ w (w.alloc (.cells #[.bool true,.slice aa sb.length ca,.slice al lb.length cl] 117)):=ag _ _ _;have s:=bj w (.cells #[.bool true,.slice aa sb.length ca,.slice al lb.length cl] 117);have f:=hB.next x;have M:=hs.but x (λ_ _ h=>h);have J:=hl.but x (λ_ _ h=>h);have i0:=hB.lt;have I:=x.mono (G:=λk=>k=bb\/k=gs\/k=gw) (λ_ _ h=>h.elim);unfold xsV
 by_cases hj:j<tab.length
 .have h7:(j:Int)<(tab.length:Int):=by omega
  have h6: ¬(j:Int)<0:=by omega
  obtain⟨o,ho⟩: ∃o,tab[j]?=some o:=⟨_,aM hj⟩;have h3:=hid (λ(wx:World) (h:B_ w0 wx)=>hTX.but h);obtain⟨E,F⟩:=f.wcell hj;have y:=f.sfz (j*3);have z:=f.sfz (j*3+1);have A:=f.sfz (j*3+2);obtain⟨c0,H,c7,c8⟩:=f.cells;obtain⟨k0,k1,k2⟩:=iD s;have l:=ae s
  cases o with
  |none=>
   rw[B9 ho];simp only[Bool.or_false];obtain⟨O,t1,t2⟩:=f.unk ho;have g5:lb.length<=1000:=by have:=hz.2.2;omega
   go_in
   go_wp2_with fail;revert x s f M J I E F y z A c0 H c7 c8 k0 k1 k2 l O t1 t2;generalize (w.alloc (.cells #[.bool true,.slice aa sb.length ca,.slice al lb.length cl] 117))=W;intro x s f M J I E F y z A c0 H c7 c8 k0 k1 k2 l O t1 t2;have i:=f.lt;have d:B_ W W.drew:=aD _ _;have f5:=hid (pu 0 true aa al ca cl sb lb W.drew (M.but d (λ_ _ h=>h)) (J.but d (λ_ _ h=>h)) (by omega) g5);unfold xsV at f5;refine aF (B_ W) 7 ?_
   iterate 6 (refine aN (v:=?_) rfl d ?_ ?_;rotate_left;(focus (intro wS h;have q0:=(h.kc H i.1);have q1:=(h.kc k0 l);have q2:=(h.kc k1 l);have q3:=(h.kc k2 l);clear h;go_simp;try rfl));dsimp only[Act.put];try simp only[bW])
   refine au rfl ?_;intro KS hKS;go_simp;refine f5.out.mono ?_;rintro en w2 ⟨f2,a1,c1,a2,c2,G2,rfl,g6,f3,_,_,_⟩;clear f5;have e:=d.trans f2;refine hKS.out _ _ (λ_=>e) ?_;clear hKS KS;have p:=f.next e;have a8:But (λk=>k=bb\/k=gs\/k=gw) w w2:=I.next e (λ_ _ h=>h.elim);clear E F y z A c0 H c7 c8 k0 k1 k2 O t1 t2;obtain⟨O,t1,t2⟩:=p.unk ho;have y:=p.sfz (j*3);have z:=p.sfz (j*3+1);have A:=p.sfz (j*3+2);have a:=p.lay hj (v1:= .slice a1 sb.length c1) (v2:= .slice a2 lb.length c2) (dh g6 (Nat.zero_le _)) (dh f3 (Nat.zero_le _));have e9:But (λk=>k=bb\/k=gs\/k=gw) w2 (((w2.setCell ⟨gs,j*3,none⟩ (.bool true)).setCell ⟨gs,j*3+1,none⟩ (.slice a1 sb.length c1)).setCell ⟨gs,j*3+2,none⟩ (.slice a2 lb.length c2)):=(((aq w2 gs _ _).trans (aq _ gs _ _)).trans (aq _ gs _ _)).mono (λk _ h=>Or.inr (Or.inl h))
   have b7:=hid a;have b5:=hid e9;clear a e9 f s hB x;refine au rfl ?_;intro KS hKS;go_simp;refine hKS.out _ _ nofun ?_;clear hKS KS;refine au rfl ?_;intro KS hKS;go_simp;refine hKS.out _ _ nofun ?_;clear hKS KS;refine aK rfl ?_;revert b7 b5;generalize (((w2.setCell ⟨gs,j*3,none⟩ (.bool true)).setCell ⟨gs,j*3+1,none⟩ (.slice a1 sb.length c1)).setCell ⟨gs,j*3+2,none⟩ (.slice a2 lb.length c2))=w3;intro b7 b5;have a:=b7.out;clear O t1 t2 y z A;obtain⟨c0,H,c7,c8⟩:=a.cells;obtain⟨E,F⟩:=a.wcell (k:=j) (by rw[List.length_set];exact hj);rw[List.length_set]at H c7;have B:=a.wait j true;have f4:=hid B;clear B a
   go_wp2_with fail;exact wL results105 rfl ⟨rfl,(a8.trans b5.out).trans ((aq _ _ _ _).mono (λk _ h=>Or.inr (Or.inr h))),f4.out⟩
  |some o=>
   obtain⟨sa,la⟩:=o;obtain⟨h2,g7⟩:=hwf.2 j sa la ho;have i2:=pK tab;obtain⟨a3,c3,a4,c4,O,t1,t2,b4,Z⟩:=f.known ho
   by_cases hlen:sa.length=sb.length
   .have g2:((sa.length:Int)==(sb.length:Int))=true:=by rw[hlen];simp
    have g3:((sa.length:Int)!=(sb.length:Int))=false:=by simp[bne,g2]
    have e2:(sa.length:Int)=(sb.length:Int):=by rw[hlen]
    have h5:=hid e2;have a0:=hid hlen;have h8:sa.length<=sb.length:=by omega
    have h9:sb.length<=sa.length:=by omega
    clear e2 hlen
    go_in
    go_wp2_with fail;revert x s f M J I E F y z A c0 H c7 c8 k0 k1 k2 l O t1 t2 b4 Z;generalize (w.alloc (.cells #[.bool true,.slice aa sb.length ca,.slice al lb.length cl] 117))=W;intro x s f M J I E F y z A c0 H c7 c8 k0 k1 k2 l O t1 t2 b4 Z;have i:=f.lt;have d:B_ W W.drew:=aD _ _;refine aF (B_ W) 13 ?_
    iterate 13 (refine aN (v:=?_) rfl d ?_ ?_;rotate_left;(focus (intro wS h;have q0:=(h.kc H i.1);have q1:=(h.kc t1 i.2.1);have q2:=(h.kc k1 l);clear h;go_simp;try rfl));dsimp only[Act.put];try simp only[bW])
    refine aK rfl ?_;have n:=f.next d;have b3:=M.but d (λ_ _ h=>h);have e1:=J.but d (λ_ _ h=>h);have D:=b4.but d (λ_ _ h=>h);have L:=Z.but d (λ_ _ h=>h);have P:=(d.block w.heap.size l (λh=>h)).trans s;have C:But (λk=>k=bb\/k=gs\/k=gw) w W.drew:=I.next d (λ_ _ h=>h.elim);have u0:=d.kc O i.2.1;have u1:=d.kc t1 i.2.1;have u2:=d.kc t2 i.2.1;clear E F y z A c0 H c7 c8 k0 k1 k2 O t1 t2 b4 Z f M J s x I l i hB;revert n b3 e1 D L P C u0 u1 u2;generalize W.drew=w1;intro n b3 e1 D L P C O t1 t2;clear d;obtain⟨c0,H,c7,c8⟩:=n.cells;obtain⟨k0,k1,k2⟩:=iD P;have l:=ae P;have g:=n.lt;go_wp2_with fail
    have e5:B_ w1 w1.drew:=aD _ _;have e4:=mE b (im.zq.map toX) a3 aa c3 ca sa sb w1.drew (by rw[bZ];have:=hW.nc;omega) (h3.out _ (n.but.trans e5)) (D.but e5 (λ_ _ h=>h)) (b3.but e5 (λ_ _ h=>h)) a0.out (by omega);rw[qO hW.cls hW.nc h2.1 hz.1]at e4;have e7:=hid e4;clear e4;refine aF (B_ w1) 15 ?_
    iterate 14 (refine aN (v:=?_) rfl e5 ?_ ?_;rotate_left;(focus (intro wS h;have q0:=(h.kc c0 g.1);have q1:=(h.kc H g.1);have q2:=(h.kc t1 g.2.1);have q3:=(h.kc k1 l);clear h;go_simp;try rfl));dsimp only[Act.put];try simp only[bW])
    refine au rfl ?_;intro KS hKS;go_simp;refine e7.out.mono ?_;rintro en w2 ⟨f2,v5,rfl,f7⟩;obtain⟨a5,c5,i3⟩:=aA f7;subst i3;have e:=e5.trans f2;refine hKS.out _ _ (λ_=>e) ?_;clear hKS KS e7;refine au rfl ?_;intro KS hKS;go_simp;refine hKS.out _ _ nofun ?_;clear hKS KS;refine aK rfl ?_;have p:=n.next e;have g6:=b3.but e (λ_ _ h=>h);have f3:=e1.but e (λ_ _ h=>h);have f0:=D.but e (λ_ _ h=>h);have e3:=L.but e (λ_ _ h=>h);have g1:=(e.block w.heap.size l (λh=>h)).trans P;have a8:But (λk=>k=bb\/k=gs\/k=gw) w w2:=C.next e (λ_ _ h=>h.elim);have d6:BtB w2 0 (.slice a5 (dW im.zq sa sb).length c5) (dW im.zq sa sb):=dh f7 (Nat.zero_le _)
    have u0:=e.kc O g.2.1;have u1:=e.kc t1 g.2.1;have u2:=e.kc t2 g.2.1;clear c0 H c7 c8 k0 k1 k2 O t1 t2 n b3 e1 D L P C l g e f2 e5 f7;obtain⟨c0,H,c7,c8⟩:=p.cells;obtain⟨k0,k1,k2⟩:=iD g1;have l:=ae g1;have g:=p.lt;have O:=u0;have t1:=u1;have t2:=u2;clear u0 u1 u2;obtain⟨M1,b0⟩: ∃M1,dW im.zq sa sb=M1:=⟨_,rfl⟩;rw[b0]at d6;rw[b0];have Q:=hid b0;clear b0;go_wp2_with fail;have e6:B_ w2 w2.drew:=aD _ _;have e4:=mE b (im.zq.map toX) a4 al c4 cl la lb w2.drew (by rw[bZ];have:=hW.nc;omega) (h3.out _ (p.but.trans e6)) (e3.but e6 (λ_ _ h=>h)) (f3.but e6 (λ_ _ h=>h)) (by rw[h2.2.2,hz.2.2]) (by have:=hz.2.2;omega)
    rw[qO hW.cls hW.nc h2.2.1 hz.2.1]at e4;have e7:=hid e4;clear e4;refine aF (B_ w2) 15 ?_
    iterate 14 (refine aN (v:=?_) rfl e6 ?_ ?_;rotate_left;(focus (intro wS h;have q0:=(h.kc c0 g.1);have q1:=(h.kc H g.1);have q2:=(h.kc t2 g.2.1);have q3:=(h.kc k2 l);clear h;go_simp;try rfl));dsimp only[Act.put];try simp only[bW])
    refine au rfl ?_;intro KS hKS;go_simp;refine e7.out.mono ?_;rintro en w3 ⟨h4,v6,rfl,g0⟩;obtain⟨a6,f1,i4⟩:=aA g0;subst i4;have e:=e6.trans h4;refine hKS.out _ _ (λ_=>e) ?_;clear hKS KS e7;refine au rfl ?_;intro KS hKS;go_simp;refine hKS.out _ _ nofun ?_;clear hKS KS;refine aK rfl ?_;have a:=p.next e;have h0:=f0.but e (λ_ _ h=>h);have g4:=e3.but e (λ_ _ h=>h);have e0:=d6.but e (λ_ _ h=>h);have b9:But (λk=>k=bb\/k=gs\/k=gw) w w3:=a8.next e (λ_ _ h=>h.elim);have b1:BtB w3 0 (.slice a6 (dW im.zq la lb).length f1) (dW im.zq la lb):=dh g0 (Nat.zero_le _);have u0:=e.kc O g.2.1;have u1:=e.kc t1 g.2.1
    have u2:=e.kc t2 g.2.1;clear c0 H c7 c8 k0 k1 k2 O t1 t2 p g6 f3 f0 e3 g1 a8 l g e h4 e6 g0 d6;obtain⟨c0,H,c7,c8⟩:=a.cells;have g:=a.lt;have O:=u0;have t1:=u1;have t2:=u2;clear u0 u1 u2;obtain⟨M2,b2⟩: ∃M2,dW im.zq la lb=M2:=⟨_,rfl⟩;rw[b2]at b1;rw[b2];have S:=hid b2;clear b2;have T:=hid (su a5 a3 c5 c3 M1 sa w3 e0 h0);have a7:=hid (su a6 a4 f1 c4 M2 la w3 b1 g4)
    by_cases hq1:M1=sa
    .rw[show decide (M1=sa)=true from by simp[hq1]]at T
     by_cases hq2:M2=la
     .rw[show decide (M2=la)=true from by simp[hq2]]at a7;have q:=DF (cs:=im.zq) (wt:=wt) (lb:=lb) ho a0.out (by rw[Q.out,hq1]) (by rw[S.out,hq2]);have e8:=hid q;clear q hq1 hq2;go_wp2_with fail;refine T.out.mono ?_;rintro en wx ⟨rfl,t⟩;rw[t];clear t wx;go_wp2_with fail;refine a7.out.mono ?_;rintro en wx ⟨rfl,t⟩;rw[t];clear t wx;go_wp2_with fail;exact wL results105 rfl ⟨rfl,b9,by rw[e8.out];simpa using a⟩
     .rw[show decide (M2=la)=false from by simp[hq2]]at a7;have f6:Hid (¬(M1=sa/\M2=la)):=hid (λh=>hq2 h.2);clear hq1 hq2;have q:=Ca (cs:=im.zq) (wt:=wt) (lb:=lb) ho a0.out (λh=>f6.out ⟨Q.out▸h.1,S.out▸h.2⟩);rw[Q.out,S.out]at q;have e8:=hid q;have y:=a.sfz (j*3);have z:=a.sfz (j*3+1);have A:=a.sfz (j*3+2);have B:=a.lay hj e0 b1;have X:But (λk=>k=bb\/k=gs\/k=gw) w3 (((w3.setCell ⟨gs,j*3,none⟩ (.bool true)).setCell ⟨gs,j*3+1,none⟩ (.slice a5 M1.length c5)).setCell ⟨gs,j*3+2,none⟩ (.slice a6 M2.length f1)):=(((aq w3 gs _ _).trans (aq _ gs _ _)).trans (aq _ gs _ _)).mono (λk _ h=>Or.inr (Or.inl h))
      have h1:=a.wcell hj;have i1:=a.ne;have Y:=B.wait j true;have b8:=hid Y;have b6:=hid X;obtain⟨E,F⟩:=h1;clear q B X Y a;go_wp2_with fail;refine T.out.mono ?_;rintro en wx ⟨rfl,t⟩;rw[t];clear t wx;go_wp2_with fail;refine a7.out.mono ?_;rintro en wx ⟨rfl,t⟩;rw[t];clear t wx;go_wp2_with fail;go_end0;refine⟨rfl,(b9.trans b6.out).trans ((aq _ _ _ _).mono (λk _ h=>Or.inr (Or.inr h))),?_⟩;rw[e8.out];simpa using b8.out
    .rw[show decide (M1=sa)=false from by simp[hq1]]at T;have f6:Hid (¬(M1=sa/\M2=la)):=hid (λh=>hq1 h.1);clear hq1;have q:=Ca (cs:=im.zq) (wt:=wt) (lb:=lb) ho a0.out (λh=>f6.out ⟨Q.out▸h.1,S.out▸h.2⟩);rw[Q.out,S.out]at q;have e8:=hid q;have y:=a.sfz (j*3);have z:=a.sfz (j*3+1);have A:=a.sfz (j*3+2);have B:=a.lay hj e0 b1;have X:But (λk=>k=bb\/k=gs\/k=gw) w3 (((w3.setCell ⟨gs,j*3,none⟩ (.bool true)).setCell ⟨gs,j*3+1,none⟩ (.slice a5 M1.length c5)).setCell ⟨gs,j*3+2,none⟩ (.slice a6 M2.length f1)):=(((aq w3 gs _ _).trans (aq _ gs _ _)).trans (aq _ gs _ _)).mono (λk _ h=>Or.inr (Or.inl h))
     have h1:=a.wcell hj;have i1:=a.ne;have Y:=B.wait j true;have b8:=hid Y;have b6:=hid X;obtain⟨E,F⟩:=h1;clear q B X Y a;go_wp2_with fail;refine T.out.mono ?_;rintro en wx ⟨rfl,t⟩;rw[t];clear t wx;go_wp2_with fail;go_end0;refine⟨rfl,(b9.trans b6.out).trans ((aq _ _ _ _).mono (λk _ h=>Or.inr (Or.inr h))),?_⟩;rw[e8.out];simpa using b8.out
   .rw[ES ho hlen];simp only[Bool.or_true];have g2:((sa.length:Int)==(sb.length:Int))=false:=by rw[fh];omega
    have g3:((sa.length:Int)!=(sb.length:Int))=true:=by simp[bne,g2]
    have e2: ¬(sa.length:Int)=(sb.length:Int):=by omega
    go_in
    go_wp2_with fail;revert x s f M J I E F y z A c0 H c7 c8 k0 k1 k2 l O t1 t2 b4 Z;generalize (w.alloc (.cells #[.bool true,.slice aa sb.length ca,.slice al lb.length cl] 117))=W;intro x s f M J I E F y z A c0 H c7 c8 k0 k1 k2 l O t1 t2 b4 Z;have i:=f.lt;have d:B_ W W.drew:=aD _ _;refine aF (B_ W) 13 ?_
    iterate 13 (refine aN (v:=?_) rfl d ?_ ?_;rotate_left;(focus (intro wS h;have q0:=(h.kc H i.1);have q1:=(h.kc t1 i.2.1);have q2:=(h.kc k1 l);clear h;go_simp;try rfl));dsimp only[Act.put];try simp only[bW])
    refine aK rfl ?_;have n:=f.next d;have b3:=M.but d (λ_ _ h=>h);have e1:=J.but d (λ_ _ h=>h);have D:=b4.but d (λ_ _ h=>h);have L:=Z.but d (λ_ _ h=>h);have P:=(d.block w.heap.size l (λh=>h)).trans s;have C:But (λk=>k=bb\/k=gs\/k=gw) w W.drew:=I.next d (λ_ _ h=>h.elim);have u0:=d.kc O i.2.1;have u1:=d.kc t1 i.2.1;have u2:=d.kc t2 i.2.1;clear E F y z A c0 H c7 c8 k0 k1 k2 O t1 t2 b4 Z f M J s x I l i hB;revert n b3 e1 D L P C u0 u1 u2;generalize W.drew=w1;intro n b3 e1 D L P C O t1 t2;clear d;obtain⟨c0,H,c7,c8⟩:=n.cells;have f8:=n.fz 8;go_wp2_with fail;exact wL results105 rfl ⟨rfl,C.trans ((aq _ _ _ _).mono (λk _ h=>Or.inl h)),n.fail⟩
 .have h7: ¬(j:Int)<(tab.length:Int):=by omega
  have h6: ¬(j:Int)<0:=by omega
  rw[ER (by omega)];simp only[Bool.or_true];obtain⟨c0,H,c7,c8⟩:=f.cells;have f8:=f.fz 8;have i5:=hid f;have HB:=hid hB;clear s hB
  go_in
  go_wp2_with fail;exact wL results105 rfl ⟨rfl,((aq _ _ _ _).mono (λk _ h=>Or.inl h)).trans (ag _ _ _),HB.out.fail.next (ag _ _ _)⟩
end
end Go.Proofs.YtpfkkmacakjmbaaGreatDoor
