import Derived.Test.YtpfkkmacakjmbaaGreatDoorP40
import Derived.Test.YtpfkkmacakjmbaaGreatDoorP32
set_option maxRecDepth 100000
set_option maxHeartbeats 6400000
set_option linter.unusedSimpArgs false
set_option linter.unusedVariables false
namespace Go.Proofs.YtpfkkmacakjmbaaGreatDoor
section
open Go Go.RowKit Sp
section
variable {w0 w w':World} {im:Img} {T:cw} {mb tx:Nat} {tv:Value} {bw cells:Nat} {ans:Int} {inp:ByteArray} {r:Fr} {rs:List Fr} {f:Fm} {fs:List Fm} {s:Ev} {vo vb:Value} {gs:List Nat} {fv:List Value} {cn:Int} {sn:Nat→Int} {b:Bod} {x:Ins} {st l:List UInt8}
theorem BB (h:At w0 w im T mb tx tv bw cells ans inp r rs f fs s vo vb gs fv cn sn b x st l) (h4:s.heap.length≤4000) (base:Nat) (L:List (Nat×List St)) (hXT:ei w0 base tv L) (hLT:L.map (·.2)=T) (ho:x.op.toNat=99):
  Calls Tryz.prog 88 #[.pointer (some ⟨mb,0,none⟩)] w (fun en w'=> ∃e,en= .returned (.int .i64 e)∧dv w0 im T mb tx tv bw cells ans inp cn (Sp.stepX im inp T cells x f fs s) e w'):=by
 obtain⟨st',l',he⟩:=h.eff;obtain⟨hf,_,_⟩:=bC (by omega) (by omega) he;simp[bB,arith,ho]at hf;obtain⟨f1,f2,f3⟩:=fI hf;have hl:=h.top.stk.len;have hcl:=h.wx.cls (by omega);have a7:=h.wx.sig ho;have b4:=h.fit.wf.nc;have b2:b∈im.bodies:=List.mem_of_getElem? h.top.bd;have e0:x∈b.code:=List.mem_of_getElem? h.top.ins;obtain⟨a3,a8⟩:=dD (a:=x.a) (by omega);have hv:=((h.top.stk.t2 f1).sub h.fit.wf.cls h.fit.wf.nc h.mt.ht f2).toRef (bR a3);have b6:(ay (im.classes.map toX) im.sigs (aL x).op (aL x).cls (aL x).num (aN im.sigs r.b).ans).length=2:=by simp[ay,aL,ho]
 have b3:=h.mt.dep;refine gS (fun e w'=>dv w0 im T mb tx tv bw cells ans inp cn (Sp.stepX im inp T cells x f fs s) e w') h.mc h.tx h.hcl h.nsg (by have:=h.sml.1;omega) h.h100 (aL x) h.hx (by omega) (by omega) (fun Y sv' hM=> .inr (.inl ⟨ho,?_⟩));rw[b6]at hM⊢;have eA:tkA 2 f.stk=jW f.stk:=rfl;have eB:tkB 2 f.stk=cO f.stk:=rfl;rw[eA,eB];rcases hv.ref (bR a3)with e| ⟨k,ob,e,hk,_,hu⟩
 ·rw[e];refine(sS hM (aL x).num .z (cO f.stk) (-1) 2 (by decide) (fun Z hZ=>pA (hM.new hZ).wd h4 _ _)).mono ?_;rintro en w1 ⟨rfl,hB⟩;refine⟨2,rfl,?_⟩;have e1:Sp.stepX im inp T cells x f fs s= .bad 6 s.out:=by simp[Sp.stepX,ho,e]
  rw[e1];exact⟨rfl,_,_,s,_,_,_,_,_,_,rfl,hM.new hB⟩
 ·rw[e];rw[a8]at hu;have a6:=h.mt.ht.cls k ob hk;have a0:=fun(Z:World) (hZ:But (fun _=>False) Y Z)=>pB (hM.new hZ).wd h4 hk (im.classes.map toX) (im.bodies.map (aN im.sigs)) h.hcl (by rw[List.length_map];have:=h.fit.wf.nb;omega) h.tx.cls h.tx.bod (UInt8.ofNat (65+ob.cls)) (ep (by omega)) (aL x).num (fs.length+1)
  by_cases hd:12≤fs.length+1
  ·rw[if_pos hd]at a0;refine(sS hM (aL x).num (.o k) (cO f.stk) (-1) 6 (by decide) a0).mono ?_;rintro en w1 ⟨rfl,hB⟩;refine⟨6,rfl,?_⟩;have e1:Sp.stepX im inp T cells x f fs s= .bad 10 s.out:=by simp only[Sp.stepX,ho,e];simp[hd]
   rw[e1];exact⟨rfl,_,_,s,_,_,_,_,_,_,rfl,hM.new hB⟩
  ·rw[if_neg hd]at a0;have c6:=((h.top.stk.t1 (by omega)).sub h.fit.wf.cls h.fit.wf.nc h.mt.ht f3).not45 (gN (uN h.fit.wf a7).1);have a5:=h.fit.lk b b2 x e0 ho;obtain⟨c1,c2,c3,c4,c5⟩:=uM h.fit h.mt.ht hk hcl a7 hu a5 c6;have e2:=jz (bs:=im.bodies) (m:=x.b) h.fit.wf.cls 4 (x:=ob.cls) (y:=x.a) (by omega) (by omega) hu a5
   have b1:eG (im.classes.map toX) (im.bodies.map (aN im.sigs)) x.b (im.classes.map toX).length (UInt8.ofNat (65+ob.cls))=cE im.classes im.bodies x.b 5 ob.cls:=by
    rw[List.length_map]
    exact gM h.fit.wf.cls b4 (fun b' hb'=>by
     rcases(h.fit.wf.bod b' hb').cls with⟨q1,_⟩ | ⟨q1,q2,q3,_⟩
     ·exact Or.inl q1
     ·exact Or.inr ⟨q1,by omega,q3⟩) x.b im.classes.length 5 ob.cls a6 a6 (by omega)
   have a4:s.cls k=ob.cls:=(Ev.at hk).1;rw[a4]at c1;obtain⟨q,hq⟩: ∃q:Nat,cE im.classes im.bodies x.b 5 ob.cls=q:=⟨(cE im.classes im.bodies x.b 5 ob.cls).toNat,by omega⟩;have a1:(aL x).num=x.b:=rfl;rw[a1,b1,hq]at a0;have a2:im.bodies[q]?=some (bj im x k s):=by rw[hq]at c1;exact c1
   have d6:=h.fit.wf.bod _ c2;obtain⟨tl,b9⟩:=h.fit.lc _ c2 c4
   have a9:L.length=im.bodies.length:=by
    have:=congrArg List.length hLT;rw[List.length_map,h.fit.len]at this;exact this
   have b5:q<L.length:=by rw[a9];exact(List.getElem?_eq_some_iff.1 a2).1
   refine(Ag hM x.b (.o k) (cO f.stk) q base (bj im x k s) L L[q] h.tx hXT hLT a2 (List.getElem?_eq_getElem b5) d6.loc.1 (by rw[b9];simp) (by have:=h.fit.wf.nb;omega) (by omega) a0).mono ?_;rintro en w1 ⟨rfl,r',b0⟩;refine⟨0,rfl,?_⟩
   have e1:Sp.stepX im inp T cells x f fs s= .go ⟨⟨q,0,[],aX (bj im x k s) [.o k,cO f.stk]⟩::{f with stk:=gC f.stk}::fs,s⟩:=by
    simp only[Sp.stepX,ho,e,a4,hq];simp;omega
   rw[e1];exact⟨rfl,_,_,_,_,_,cn,_,by omega,b0⟩
theorem yX (h:At w0 w im T mb tx tv bw cells ans inp r rs f fs s vo vb gs fv cn sn b x st l) (ht:dc w0) (h40:inp.size≤40) (h4:s.heap.length≤4000) (hol:s.out.length≤90000) (hcn:cn≤100000) (base:Nat) (L:List (Nat×List St)) (hXT:ei w0 base tv L) (hLT:L.map (·.2)=T):
  Calls Tryz.prog 88 #[.pointer (some ⟨mb,0,none⟩)] w (fun en w'=> ∃e,en= .returned (.int .i64 e)∧dv w0 im T mb tx tv bw cells ans inp cn (Sp.stepX im inp T cells x f fs s) e w'):=by
 have a0:=h.wx.op;simp[da]at a0
 by_cases h107:x.op.toNat=107
 ·exact Bm h h107
 by_cases h114:x.op.toNat=114
 ·exact Bo h h40 h114
 by_cases h119:x.op.toNat=119
 ·exact Bp h ht hol h119
 by_cases h122:x.op.toNat=122
 ·exact Bn h h122
 by_cases h100:x.op.toNat=100
 ·exact Bq h h100
 by_cases h108:x.op.toNat=108
 ·exact Bt h h108
 by_cases h115:x.op.toNat=115
 ·exact Bu h h115
 by_cases h106:x.op.toNat=106
 ·exact Br h h106
 by_cases h102:x.op.toNat=102
 ·exact Bs h h102
 by_cases h101:x.op.toNat=101
 ·exact Bv h h101
 by_cases h110:x.op.toNat=110
 ·exact BA h h4 hcn h110
 by_cases h120:x.op.toNat=120
 ·exact By h h4 h120
 by_cases h103:x.op.toNat=103
 ·exact Bw h h4 h103
 by_cases h112:x.op.toNat=112
 ·exact Bx h h4 h112
 by_cases h99:x.op.toNat=99
 ·exact BB h h4 base L hXT hLT h99
 by_cases h116:x.op.toNat=116
 ·exact Bz h h116
 exact ur h (by omega)
theorem BC (hM:McQ w0 w im T mb tx tv bw cells ans inp (r::rs) (f::fs) s vo vb gs fv cn sn) (hT:dn w0 tx im) (hF:Fit im T) {n:Nat} (hm:MTn im T f fs s (n+1)) (ht:dc w0) (h40:inp.size≤40) (hcn:cn≤100000) (base:Nat) (L:List (Nat×List St)) (hXT:ei w0 base tv L) (hLT:L.map (·.2)=T):
  Calls Tryz.prog 88 #[.pointer (some ⟨mb,0,none⟩)] w (fun en w'=> ∃e,en= .returned (.int .i64 e)∧dv w0 im T mb tx tv bw cells ans inp cn (oX im inp T cells ⟨f::fs,s⟩) e w')∧
  match oX im inp T cells ⟨f::fs,s⟩with
  | .go m=> ∃f' r',m.fr=f'::r'∧MTn im T f' r' m.ev n
  | .bad e o=>6≤e∧e≤10∧o=s.out
  | .fin v o=>(∃k,v= .i k∧ -2147483648≤k∧k<2147483648)∧o=s.out:=by
 obtain⟨b,x,st,l,a0,hC,he,hR⟩:=uO inp cells hF hm;rw[he];exact⟨yX ⟨hM,hT,hF,hm.mt,a0⟩ ht h40 (by have:=hm.hn;omega) (by have:=hm.on;omega) hcn base L hXT hLT,hR⟩
end
theorem wX {w0 w2 w':World} {im:Img} {T:cw} {mb tx bw cells q fb bl:Nat} {tv lv vl vi:Value} {ans:Int} {inp:ByteArray} {b:Bod} {p:Nat×List St} (hB:But (fun _=>False) w0 w2) (hw:XwC w2 bw tx inp 0 (.slice none 0 0) (.slice none 0 0) 0) (hbw:w0.heap.size≤bw) (hmb:w0.heap.size≤mb) (hm2:mb<w2.heap.size) (hne:bw≠mb)
  (g:AD w0 w2 w' mb tx tv bw cells none ans 1 im.sigs b p fb bl lv vl vi) (hq:im.bodies[q]?=some b) (hTq:T[q]?=some p.2):
  McQ w0 w' im T mb tx tv bw cells ans inp [⟨fb,bl,p.1,vl,vi,lv,.slice none 0 0,b,p.2⟩] [⟨q,0,[],aX b []⟩] ⟨[],0,0,[]⟩ (.slice none 0 0) (.slice none 0 0) [] [] 0 (fun _=>0):=by
 have h0:=hB.size;have a0:But (fun _=>False) w0 w':=hB.next g.but (fun k hk e=>by have e:k=mb:=e;omega);have a3: ∀k,lv.ownBlock=some k→w2.heap.size≤k:=fun k hk=>aA g.lo k hk
 have a1:w'.ownsRow w0.heap.size 168 2 lv (aX b []).length (au (aX b [])):=by
  have e:aX b []=b.locals.map cB:=by simp[aX]
  rw[e,List.length_map];exact World.ownsRow.mono g.lo h0
 have a2:bw<w2.heap.size:=ae hw;have hF:FrM w0 w' im T none 1 ⟨fb,bl,p.1,vl,vi,lv,.slice none 0 0,b,p.2⟩ ⟨q,0,[],aX b []⟩:=⟨hq,hTq,g.fr,g.lb,a1,sT _ _,g.bt,g.it,g.tb,fun k _ e=>(by cases e),Nat.le_trans h0 g.gf,Nat.le_trans h0 g.gl⟩;refine⟨⟨a0,?_,⟨rfl,Or.inl ⟨rfl,rfl⟩⟩,⟨rfl,Or.inl ⟨rfl,rfl⟩⟩,rfl,rfl,fun k o g' v a=>(by simp at a),fun j k g' a=>(by simp at a),fun k hk=> ?_,fun k hk=> ?_,fun j k v v' g' a=>(by simp at a),by omega,fun k=>(by omega)⟩,g.mc,⟨hF,trivial,fun k _ q' hq'=>(by cases hq')⟩,hmb⟩
 ·have:((min 0 inp.size:Nat):Int)=0:=by simp
  show XwC w' bw tx inp ((min 0 inp.size:Nat):Int) _ _ _
  rw[this];exact hw.but g.but (fun e=>hne e)
 ·rcases hk with e0|hk|hk|hk| ⟨v,hv,_⟩
  ·rw[e0];refine⟨hbw,fun ho=> ?_⟩;rcases ho with e| ⟨r,hr,ho⟩
   ·exact hne e
   ·simp only[List.mem_singleton]at hr;subst hr;rcases ho with e|e|e|e
    ·have:=g.gf;have e:bw=fb:=e;omega
    ·have:=g.gl;have e:bw=bl:=e;omega
    ·have:=a3 bw e;omega
    ·cases e
  ·cases hk
  ·cases hk
  ·cases hk
  ·cases hv
 ·rcases hk with rfl| ⟨r,hr,ho⟩
  ·exact⟨g.mc.lt,fun c fz e=>br g.mc e (by decide) rfl⟩
  ·simp only[List.mem_singleton]at hr;subst hr;exact⟨hF.lt ho,fun c fz e=>hF.nb ho c fz e⟩
end
section
open Go Go.RowKit Sp
attribute [local go_sem ↓] Go.wp_at_zero Go.wp_at_succ
def BD (w0:World) (im:Img) (T:cw) (mb tx:Nat) (tv:Value) (bw cells:Nat) (inp:ByteArray) (RV:List UInt8×Int×Nat) (n k:Nat) (e:Int) (w:World):Prop:=
 (e=0∧ ∃r rs f fs s vo vb gs fv,∃cn:Int,∃sn ans,cn≤k∧McQ w0 w im T mb tx tv bw cells ans inp (r::rs) (f::fs) s vo vb gs fv cn sn∧MTn im T f fs s n∧j8 im inp T cells n ⟨f::fs,s⟩=RV)∨
 (∃m rs fs s vo vb gs fv cn sn ans,6≤m∧m≤10∧e=bK m∧McQ w0 w im T mb tx tv bw cells ans inp rs fs s vo vb gs fv cn sn∧RV=(s.out,0,m))∨
 (e=0∧ ∃v s vo vb gs fv cn sn,McQ w0 w im T mb tx tv bw cells v inp [] [] s vo vb gs fv cn sn∧ -2147483648≤v∧v<2147483648∧RV=(s.out,v,0))
section
variable {w0 w:World} {im:Img} {T:cw} {mb tx:Nat} {tv:Value} {bw cells:Nat} {inp:ByteArray} {RV:List UInt8×Int×Nat}
theorem yY {r:Fr} {rs:List Fr} {f:Fm} {fs:List Fm} {s:Ev} {vo vb:Value} {gs:List Nat} {fv:List Value} {cn:Int} {sn:Nat→Int} {ans:Int} {n k:Nat} (hT:dn w0 tx im) (hF:Fit im T) (ht:dc w0) (h40:inp.size≤40) (base:Nat) (L:List (Nat×List St)) (hXT:ei w0 base tv L) (hLT:L.map (·.2)=T)
  (hk:k≤90000) (hcn:cn≤k) (hM:McQ w0 w im T mb tx tv bw cells ans inp (r::rs) (f::fs) s vo vb gs fv cn sn) (hm:MTn im T f fs s (n+1)) (hR:j8 im inp T cells (n+1) ⟨f::fs,s⟩=RV):
  Calls Tryz.prog 88 #[.pointer (some ⟨mb,0,none⟩)] w (fun en w'=> ∃e,en= .returned (.int .i64 e)∧BD w0 im T mb tx tv bw cells inp RV n (k+1) e w'):=by
 obtain⟨hC,hO⟩:=BC hM hT hF hm ht h40 (by omega) base L hXT hLT;refine hC.mono ?_;rintro en w1 ⟨e,rfl,hQ⟩;refine⟨e,rfl,?_⟩;unfold j8 at hR
 cases hsr:oX im inp T cells ⟨f::fs,s⟩with
 |go m=>
  rw[hsr]at hQ hO hR;obtain⟨rfl,rs',vo',vb',gs',fv',cn',sn',hc,a0⟩:=hQ;obtain⟨f',r',he,a1⟩:=hO;have em:m=⟨f'::r',m.ev⟩:=by cases m;simp only at he;subst he;rfl
  rw[he]at a0
  match rs',a0 with
  | [],a0=>exact a0.fr.elim
  |q::rs',a0=>exact Or.inl ⟨rfl,q,rs',f',r',m.ev,vo',vb',gs',fv',cn',sn',ans,by omega,a0,a1,by rw[←em];exact hR⟩
 |bad m o=>
  rw[hsr]at hQ hO hR;obtain⟨rfl,rs',fs',s',vo',vb',gs',fv',cn',sn',ho,a0⟩:=hQ;exact Or.inr (Or.inl ⟨m,rs',fs',s',vo',vb',gs',fv',cn',sn',ans,hO.1,hO.2.1,rfl,a0,by rw[ho];exact hR.symm⟩)
 |fin v o=>
  rw[hsr]at hQ hO hR;obtain⟨rfl,s',vo',vb',gs',fv',cn',sn',ho,a0⟩:=hQ;obtain⟨⟨j,rfl,j1,j2⟩,_⟩:=hO;exact Or.inr (Or.inr ⟨rfl,j,s',vo',vb',gs',fv',cn',sn',a0,j1,j2,by rw[ho];exact hR.symm⟩)
end
theorem wY {w:World} {im:Img} {T:cw} {tx:Nat} {tv:Value} {cells fuel base:Nat} {inp:ByteArray} {L:List (Nat×List St)} (hT:dn w tx im) (hF:Fit im T) (hXT:ei w base tv L) (hLT:L.map (·.2)=T) (hfu:fuel≤4000) {nb:Nat} (hnb:nb=im.bodies.length) {w2:World} (hw2:w2=(w.alloc (.cells #[.pointer (some ⟨tx,0,none⟩),.string inp,.int .i64 0,.slice none 0 0,.slice none 0 0,.int .i64 0] 211)).alloc (.cells #[.pointer (some ⟨tx,0,none⟩),tv,.pointer (some ⟨w.heap.size,0,none⟩),.int .i64 cells,.pointer none,.int .i32 0] 157)):
  Calls Tryz.prog 87 #[.pointer (some ⟨w.heap.size+1,0,none⟩),.int .i64 ((nb:Int)-1)] w2 (fun en w'=>en= .returned (.tuple #[])∧BD w im T (w.heap.size+1) tx tv w.heap.size cells inp (kr im inp T cells fuel) fuel 0 0 w'):=by
 obtain⟨bs,m,a1,a5⟩:=hF.main;have a0:im.bodies.length=bs.length+1:=by rw[a1];simp
 have hq:im.bodies[bs.length]?=some m:=by rw[a1];simp
 have a4:L.length=im.bodies.length:=by rw[←hF.len,←hLT,List.length_map]
 obtain⟨p,hp⟩: ∃p,L[bs.length]?=some p:=⟨_,List.getElem?_eq_getElem (by omega)⟩;have a2:T[bs.length]?=some p.2:=by rw[←hLT,List.getElem?_map,hp];rfl
 have hB:But (fun _=>False) w w2:=by rw[hw2];exact(But.alloc _ _ _).trans (But.alloc _ _ _)
 have hW:XwC w2 w.heap.size tx inp 0 (.slice none 0 0) (.slice none 0 0) 0:=by
  rw[hw2];exact((But.alloc (fun _=>False) _ _).block _ (by simp) nF).trans (heap_alloc_new w _)
 have hM:MbB w2 (w.heap.size+1) tx tv w.heap.size cells none 0:=by
  rw[hw2];exact aq (by simp) _
 have e:((nb:Int)-1)=((bs.length:Nat):Int):=by omega
 rw[e];have a3:=hF.wf.bod m (List.mem_of_getElem? hq);refine(pG w w2 (w.heap.size+1) tx w.heap.size cells 0 base tv 0 im L bs.length m p none (Or.inl ⟨rfl,rfl⟩) (by omega) hM hB hT hXT hq hp ?_ (by have:=hF.wf.nb;omega)).mono ?_
 ·exact a3.loc.1
 ·rintro en w' ⟨rfl,fb,bl,lv,vl,vi,g⟩;refine⟨rfl,Or.inl ⟨rfl,_,_,_,_,_,_,_,_,_,0,_,_,by omega,wX hB hW (Nat.le_refl _) (by omega) hM.lt (by omega) g hq a2,⟨rQ hF a0 hq,by simp;omega,by simp;omega,by simp;omega⟩,?_⟩⟩;unfold kr;rw[a0];simp[hq]
def Cg (w0:World) (im:Img) (T:cw) (mb tx:Nat) (tv:Value) (bw cells:Nat) (inp:ByteArray) (RV:List UInt8×Int×Nat) (fuel mm:Nat) (vf vs:Value) (w:World):Prop:=
 ∃(k:Nat) (e:Int),vf= .int .i64 e∧vs= .int .i64 k∧k+mm=fuel∧BD w0 im T mb tx tv bw cells inp RV mm k e w
theorem wZ {m:Nat} (h:6≤m) (h':m≤10):bK m≠0∧2≤bK m∧bK m≤6:=by
 have:m=6∨m=7∨m=8∨m=9∨m=10:=by omega
 rcases this with rfl|rfl|rfl|rfl|rfl<;>decide
section
variable {w:World} {im:Img} {T:cw} {tx base:Nat} {tv:Value} {cells fuel:Nat} {inp:ByteArray} {L:List (Nat×List St)}
theorem yZ (hT:dn w tx im) (hF:Fit im T) (ht:dc w) (h40:inp.size≤40) (hXT:ei w base tv L) (hLT:L.map (·.2)=T) (hfu:fuel≤4000):
  Calls Tryz.prog 58 #[.pointer (some ⟨tx,0,none⟩),tv,.string inp,.int .i64 cells,.int .i64 fuel] w (fun en w'=>en= .returned (.tuple #[.string ⟨(kr im inp T cells fuel).1.toArray⟩,.int .i64 (kr im inp T cells fuel).2.1,.int .i64 (bK (kr im inp T cells fuel).2.2)])∧But (fun _=>False) w w'):=by
 obtain⟨ax,capx,rfl⟩:=aw hXT.1;have HB:=hid (fun(nb:Nat) (a3:nb=im.bodies.length) w2 hw2=>wY (inp:=inp) (cells:=cells) (w2:=w2) hT hF hXT hLT hfu a3 hw2);have HS:=hid (fun w' mb bw RV r rs f fs s vo vb gs fv cn sn ans n k=> @yY w w' im T mb tx (.slice ax L.length capx) bw cells inp RV r rs f fs s vo vb gs fv cn sn ans n k hT hF ht h40 base L hXT hLT);obtain⟨v2,t2,b6,lb,hO,hm,hf⟩:=hT.bod;have a0:lb.length=im.bodies.length:=by have:=congrArg List.length hm;simpa using this
 have a1:=hid a0;clear a0;have a4:lb.length≤7:=by rw[a1.out];exact hF.wf.nb
 obtain⟨ao,capo,rfl⟩:=aw hO;have a6:=hid (fun Y=>wI tx inp Y);generalize a7:kr im inp T cells fuel=RV at*;have b9:=hid a7;clear a7 hO hm hf hT hF ht hXT hLT;generalize L.length=nL at*;generalize a3:lb.length=nb at*;clear a3
 go_in
 go_wp2_with fail;refine(a6.out _).mono ?_;rintro en w1 ⟨rfl,rfl⟩;go_wp2_with fail;refine(HB.out nb a1.out _ rfl).mono ?_;rintro en w3 ⟨rfl,hJ⟩;have HJ:=hid hJ;clear hJ HB a6 t2 a1 a4 b6;generalize b3:w.heap.size=bw at*;generalize bw+1=mb at*;clear b3;go_wp2_with fail
 go_loopg [14,15] fuel (fun mm vf vs wr=>Cg w im T mb tx (.slice ax nL capx) bw cells inp RV fuel mm vf vs wr)
 case atStart=>exact⟨0,0,rfl,rfl,by omega,HJ.out⟩
 case round=>
  clear HJ;obtain⟨k,e,rfl,rfl,hk,hJ⟩:=hrel;rcases hJ with⟨rfl,r,rs,f,fs,s,vo,vb,gs,fv,cn,sn,ans,b4,hM,hm,hR⟩ | ⟨m,rs,fs,s,vo,vb,gs,fv,cn,sn,ans,h6,b2,rfl,hM,hR⟩ | ⟨rfl,v,s,vo,vb,gs,fv,cn,sn,hM,v1,v2,hR⟩
  all_goals
   have c2:=hM.mc.c2;have c4:=hM.mc.c4;have c5:=hM.mc.c5;have c6:=hM.mc.lt;have HM:=hid hM;have HO:=hid (sD hM.wd.wd hM.wd.out);have HR:=hid hR;clear hM hR
  ·simp only[gR,iv,Option.map_some]at c4;rcases Nat.eq_zero_or_pos gk with h0|h0
   ·have a2: ¬(k:Int)<(fuel:Int):=by omega
    rw[h0]at HR;clear hm hk h0;go_wp2_with fail;refine HO.out.mono ?_;rintro en w4 ⟨rfl,rfl⟩;go_wp2_with fail;exact bodyPost_ret (v:= .tuple #[.string ⟨s.out.toArray⟩,.int .i64 0,.int .i64 1]) (by simp[results,Tryz.results58,go_sem]) rfl ⟨by rw[←HR.out];rfl,HM.out.wd.old⟩
   ·obtain⟨n,hn⟩: ∃n,gk=n+1:=⟨gk-1,by omega⟩;have a5:=hid hn;rw[hn]at HR hm;clear hn;have a2:(k:Int)<(fuel:Int):=by omega
    have a9:=hid hm;have b5:k≤90000:=by omega
    clear hm;go_wp2_with fail;refine(HS.out _ _ _ _ _ _ _ _ _ _ _ _ _ _ _ _ _ _ b5 b4 HM.out a9.out HR.out).mono ?_;rintro en w4 ⟨e,rfl,hJ⟩;have HJ:=hid hJ;clear hJ;go_wp2_with fail
    go_roundg n
    case measure=>have:=a5.out;omega
    case rel=>exact⟨k+1,e,rfl,by simp,by have:=a5.out;omega,HJ.out⟩
  ·obtain⟨e1,e2,e3⟩:=wZ h6 b2;generalize hE:bK m=E at*;have HE:=hid hE;have b0:(E==0)=false:=by simp[e1]
   clear hE hk;obtain⟨cu,a8⟩: ∃cu,iv (gR rs)= .pointer cu:=⟨_,rfl⟩;rw[a8]at c4;clear a8 e1
   by_cases a2:(k:Int)<(fuel:Int)<;>rcases cu with _|cu
   all_goals
    go_wp2_with fail;refine HO.out.mono ?_;rintro en w4 ⟨rfl,rfl⟩;go_wp2_with fail;exact bodyPost_ret (v:= .tuple #[.string ⟨s.out.toArray⟩,.int .i64 0,.int .i64 E]) (by simp[results,Tryz.results58,go_sem]) rfl ⟨by rw[HR.out,←HE.out],HM.out.wd.old⟩
  ·simp only[gR,iv,Option.map_none]at c4;have b1:=hid (fun n=>sD (HM.out.new (But.drewN _ wr n)).wd.wd (HM.out.new (But.drewN _ wr n)).wd.out);clear hk HO
   by_cases a2:(k:Int)<(fuel:Int)
   all_goals
    go_wp2_with fail
    go_quiet (exact Calls.quiet_of_same (b1.out _))
    go_wp2_with fail;exact bodyPost_ret (v:= .tuple #[.string ⟨s.out.toArray⟩,.int .i64 v,.int .i64 0]) (by simp[results,Tryz.results58,go_sem]) rfl ⟨by rw[HR.out];rfl,HM.out.wd.old.trans (But.drewN _ _ _)⟩
end
theorem sX (s inp:ByteArray) (cells fuel:Int) (w:World) (hmax:s.size≤maxLen) (htab:dc w):
  Calls Tryz.prog 32 #[.string s,.string inp,.int .i64 cells,.int .i64 fuel] w fun en w'=>en= .returned (.tuple #[.string ⟨(lj s inp cells fuel).1.toArray⟩,.int .i64 (lj s inp cells fuel).2.1,.int .i64 (lj s inp cells fuel).2.2])∧But (fun _=>False) w w':=by
 obtain⟨RR,a0⟩: ∃RR,lj s inp cells fuel=RR:=⟨_,rfl⟩;rw[a0]
 by_cases hg:40<inp.size∨cells<0∨100<cells∨fuel<0∨4000<fuel
 ·have a1:RR=([],0,1):=by rw[←a0];unfold lj;rw[if_pos hg]
  subst a1;clear a0;have a8:40<(inp.size:Int)∨(¬40<(inp.size:Int)∧cells<0)∨(¬40<(inp.size:Int)∧ ¬cells<0∧100<cells)∨(¬40<(inp.size:Int)∧ ¬cells<0∧ ¬100<cells∧fuel<0)∨(¬40<(inp.size:Int)∧ ¬cells<0∧ ¬100<cells∧ ¬fuel<0∧4000<fuel):=by omega
  clear hg;rcases a8 with g| ⟨g,g2⟩ | ⟨g,g2,g3⟩ | ⟨g,g2,g3,g4⟩ | ⟨g,g2,g3,g4,g5⟩
  all_goals
   go_in
   go_wp2_with fail;exact bodyPost_ret (v:= .tuple #[.string ⟨#[]⟩,.int .i64 0,.int .i64 1]) (by simp[results,Tryz.results32,go_sem]) rfl ⟨rfl,But.refl _ _⟩
 ·obtain⟨fu,rfl⟩: ∃fu:Nat,fuel=fu:=⟨fuel.toNat,by omega⟩;obtain⟨ce,rfl⟩: ∃ce:Nat,cells=ce:=⟨cells.toNat,by omega⟩;have g1: ¬40<(inp.size:Int):=by omega
  have g2: ¬(ce:Int)<0:=by omega
  have g3: ¬100<(ce:Int):=by omega
  have g4: ¬(fu:Int)<0:=by omega
  have g5: ¬4000<(fu:Int):=by omega
  have key:Calls Tryz.prog 36 #[.string s] w fun en w'=>But (fun _=>False) w w'∧((∃(e:Nat) (p:Int),en= .returned (.agg #[.int .i64 e,.int .i64 p,.pointer none,.slice none 0 0])∧0<e∧RR=([],0,e))∨ ∃im T g ao n cap,en= .returned (.agg #[.int .i64 0,.int .i64 0,.pointer (some ⟨g,0,none⟩),.slice ao n cap])∧Fit im T∧dn w' g im∧(∃l,l.length=n∧l.map (·.2)=T∧ei w' w.heap.size (.slice ao n cap) l)∧RR=kr im inp T ce fu):=by
   refine(iN s w hmax).mono ?_;rintro en w' ⟨hB,hE⟩;refine⟨hB,?_⟩;unfold ja at hE;unfold lj at a0;rw[if_neg hg]at a0
   cases hl:dN s with
   |error e=>
    rw[hl]at hE a0;obtain⟨e,p⟩:=e;exact Or.inl ⟨e,p,hE,(o8 hl).1,a0.symm⟩
   |ok im=>
    rw[hl]at hE a0;simp only at hE a0
    cases ht:dS im 0 im.bodies with
    |error k=>
     rw[ht]at hE a0;exact Or.inl ⟨4,k,hE,by omega,a0.symm⟩
    |ok T=>
     rw[ht]at hE a0;obtain⟨g,ao,cap,l,h1,h2,h3,h4⟩:=hE;exact Or.inr ⟨im,T,g,ao,l.length,cap,h1,AT hl (xZ ht),h4,⟨l,rfl,h2,h3⟩,a0.symm⟩
  have HK:=hid key;clear key a0
  go_in
  go_wp2_with fail;refine HK.out.mono ?_;rintro en w1 ⟨a2,a7⟩;clear HK;rcases a7 with⟨e,p,rfl,he,rfl⟩ | ⟨im,T,g,ao,n,cap,rfl,hF,a4,a5,a1⟩
  ·have b0:((e:Int)!=0)=true:=by rw[bne_iff_ne];omega
   go_wp2_with fail
   go_quiet (fail)
   go_wp2_with fail;exact bodyPost_ret (v:= .tuple #[.string ⟨#[]⟩,.int .i64 0,.int .i64 e]) (by simp[results,Tryz.results32,go_sem]) rfl ⟨rfl,(a2.trans (But.alloc _ _ _)).trans (But.drewN _ _ _)⟩
  ·have HE:Hid (∀ob,Calls Tryz.prog 58 #[.pointer (some ⟨g,0,none⟩),.slice ao n cap,.string inp,.int .i64 ce,.int .i64 fu] (w1.alloc ob) fun en w'=>en= .returned (.tuple #[.string ⟨(kr im inp T ce fu).1.toArray⟩,.int .i64 (kr im inp T ce fu).2.1,.int .i64 (bK (kr im inp T ce fu).2.2)])∧But (fun _=>False) (w1.alloc ob) w'):=fun ob=>by
    obtain⟨l,hl,a9,hX⟩:=a5;have hA:But (fun _=>False) w1 (w1.alloc ob):=But.alloc _ _ _;exact yZ (a4.but hA) hF ((htab.but a2).but hA) (by omega) (hX.but hA) a9 (by omega)
   have a3:=ya inp ce hF (fu:=fu) (by omega);rw[←a1]at HE a3;have HV:=hid a3;clear a4 a1 a3 a5 hF;obtain⟨o,v,e⟩:=RR;dsimp only at HE HV;go_wp2_with fail;refine(HE.out _).mono ?_;rintro en w2 ⟨rfl,a6⟩;clear HE;go_wp2_with fail;refine(qE e HV.out w2).mono ?_;rintro en w3 ⟨rfl,rfl⟩;go_wp2_with fail;exact bodyPost_ret (v:= .tuple #[.string ⟨o.toArray⟩,.int .i64 v,.int .i64 e]) (by simp[results,Tryz.results32,go_sem]) rfl ⟨rfl,(a2.trans (But.alloc _ _ _)).trans a6⟩
end
end Go.Proofs.YtpfkkmacakjmbaaGreatDoor
