import Derived.Test.YtpfkkmacakjmbaaGreatDoorP28
import Derived.Test.YtpfkkmacakjmbaaGreatDoorP23
set_option maxRecDepth 100000
set_option maxHeartbeats 6400000
set_option linter.unusedSimpArgs false
set_option linter.unusedVariables false
namespace Go.Proofs.YtpfkkmacakjmbaaGreatDoor
section
open Go Go.RowKit Sp
section
variable {w0 w w':World} {im:Img} {T:cw} {mb tx:Nat} {tv:Value} {bw cells:Nat} {ans:Int} {inp:ByteArray} {r q:Fr} {rs:List Fr} {f g:Fm} {fs:List Fm} {s:Ev} {vo vb:Value} {gs:List Nat} {fv:List Value} {cn:Int} {sn:Nat→Int}
theorem BT (h:McQ w0 w im T mb tx tv bw cells ans inp (r::rs) (f::fs) s vo vb gs fv cn sn) (hpc:f.pc≤1000) (n:Nat) (u:V):
  Calls Tryz.prog 144 #[.pointer (some ⟨r.fb,0,none⟩),.int .i64 n,aG u] w fun en w'=>en= .returned (.tuple #[])∧McQ w0 w' im T mb tx tv bw cells ans inp (r::rs) ({f with pc:=if xN u=0 then n else f.pc+1}::fs) s vo vb gs fv cn sn:=by
 have a0: ∀w',But (· =r.fb) w w'→w'.ownsRow w0.heap.size 168 2 r.sv f.stk.length (au f.stk):=fun w' hB=>ag h.fr.1.st hB (fun k hk e=>aC h.fr.1.st h.fr.1.fr (by decide) (by have e:k=r.fb:=e;rw[←e];exact hk))
 unfold aG
 by_cases hu:xN u=0
 ·rw[if_pos hu,hu];refine(BJ _ _ _ _ _ _ _ _ _ _ _ h.fr.1.fr n (xO u)).mono ?_;rintro en w1 ⟨rfl,hB,hF⟩;exact⟨rfl,h.pushed (sv':=r.sv) (stk':=f.stk) (hB.mono (fun _ _ h=>Or.inl h)) hF (a0 _ hB) (Or.inl rfl)⟩
 ·rw[if_neg hu];refine(BK _ _ _ _ _ _ _ _ _ _ _ h.fr.1.fr hpc n (xN u) (xO u) hu).mono ?_;rintro en w1 ⟨rfl,hB,hF⟩;exact⟨rfl,h.pushed (sv':=r.sv) (stk':=f.stk) (hB.mono (fun _ _ h=>Or.inl h)) hF (a0 _ hB) (Or.inl rfl)⟩
theorem BU (h:McQ w0 w im T mb tx tv bw cells ans inp [r] [f] s vo vb gs fv cn sn) (u:V):
  Calls Tryz.prog 143 #[.pointer (some ⟨mb,0,none⟩),aG u] w fun en w'=>en= .returned (.tuple #[])∧McQ w0 w' im T mb tx tv bw cells (xN u) inp [] [] s vo vb gs fv cn sn:=by
 unfold aG;refine(zF _ _ _ _ _ _ _ _ _ _ _ _ _ _ _ _ h.mc h.fr.1.fr (xN u) (xO u)).mono ?_;rintro en w1 ⟨rfl,hB,hM⟩;refine⟨rfl,h.step hB (fun k e=>Or.inl e) hM trivial (fun k hk=> ?_)⟩;rcases hk with e| ⟨q,hq,_⟩
 ·exact Or.inl (Or.inl e)
 ·cases hq
theorem BV (h:McQ w0 w im T mb tx tv bw cells ans inp (r::q::rs) (f::g::fs) s vo vb gs fv cn sn) (h4:g.stk.length≤4000) (hpc:g.pc≤1000) (u:V):
  Calls Tryz.prog 143 #[.pointer (some ⟨mb,0,none⟩),aG u] w fun en w'=>en= .returned (.tuple #[])∧ ∃q',McQ w0 w' im T mb tx tv bw cells ans inp (q'::rs) ({g with pc:=g.pc+1,stk:=g.stk++ [u]}::fs) s vo vb gs fv cn sn:=by
 obtain⟨hR,⟨hF,a1,a3⟩,a8⟩:=h.fr;refine(BL _ _ _ _ _ _ _ _ _ _ _ _ _ _ _ _ _ _ _ _ _ _ _ _ _ _ _ _ h.mc hR.fr hF.fr hF.st h4 hpc h.wd.old.size u).mono ?_;rintro en w1 ⟨rfl,hB,hM,sv',hf,ho,hs⟩;refine⟨rfl,{q with sv:=sv'},?_⟩;have a2: ∀k,(k=q.fb∨q.sv.ownBlock=some k)→jr q k:=fun k hk=>hk.elim Or.inl (fun e=>Or.inr (Or.inr (Or.inr e)))
 have a0:q∈r::q::rs:=List.mem_cons_of_mem _ (List.mem_cons_self ..)
 have hO: ∀k,jr {q with sv:=sv'} k→jr q k∨w.heap.size≤k:=fun k hk=>by
  rcases hk with e|e|e|e
  ·exact Or.inl (Or.inl e)
  ·exact Or.inl (Or.inr (Or.inl e))
  ·exact Or.inl (Or.inr (Or.inr (Or.inl e)))
  ·rcases hs with h1| ⟨j,h1,h2⟩
   ·exact Or.inl (Or.inr (Or.inr (Or.inr (h1▸e))))
   ·have e:sv'.ownBlock=some k:=e;rw[h1]at e
    cases e
    exact Or.inr h2
 have a4: ¬jr q mb:=h.off a0
 have a7: ∀k,q.lv.ownBlock=some k→ ¬(k=mb∨k=q.fb∨q.sv.ownBlock=some k):=fun k hk e=>by
  rcases e with e|e|e
  ·exact a4 (Or.inr (Or.inr (Or.inl (e▸hk))))
  ·exact aC hF.lo hF.fr (by decide) (e▸hk)
  ·exact hF.ap k hk e
 have a6: ¬(q.bl=mb∨q.bl=q.fb∨q.sv.ownBlock=some q.bl):=fun e=>by
  rcases e with e|e|e
  ·exact a4 (Or.inr (Or.inl e.symm))
  ·exact bv hF.lb hF.fr (by decide) e
  ·exact aC hF.st hF.lb (by decide) e
 refine h.step hB (fun k hk=> ?_) hM ⟨⟨hF.hb,hF.ht,hf,(hB.block q.bl (ae hF.lb) a6).trans hF.lb,ag hF.lo hB a7,ho,hF.bt,hF.it,hF.tb,fun k hk e=> ?_,hF.g1,hF.g2⟩,a1.but hB (fun p hp k hk e=> ?_),fun k hk p hp hk'=> ?_⟩ (fun k hk=> ?_)
 ·rcases hk with e|e
  ·exact Or.inl e
  ·exact Or.inr ⟨q,a0,a2 k e⟩
 ·have hk:q.lv.ownBlock=some k:=hk;rcases hs with h1| ⟨j,h1,h2⟩
  ·exact hF.ap k hk (h1▸e)
  ·have e:sv'.ownBlock=some k:=e;rw[h1]at e
   cases e
   have:=aX hF.lo _ hk;omega
 ·rcases e with e|e
  ·exact h.off (List.mem_cons_of_mem _ (List.mem_cons_of_mem _ hp)) (e▸hk)
  ·exact a3 k (a2 k e) p hp hk
 ·rcases hO k hk with h1|h1
  ·exact a3 k h1 p hp hk'
  ·obtain⟨ca,d,f',a5⟩:=a1.mem p hp;have:=a5.lt hk';omega
 ·rcases hk with e| ⟨p,hp,hk⟩
  ·exact Or.inl (Or.inl e)
  ·rcases List.mem_cons.1 hp with rfl|hp
   ·rcases hO k hk with h1|h1
    ·exact Or.inl (Or.inr ⟨q,a0,h1⟩)
    ·exact Or.inr h1
   ·exact Or.inl (Or.inr ⟨p,List.mem_cons_of_mem _ (List.mem_cons_of_mem _ hp),hk⟩)
end
theorem Bf {cs:List Cls} {hp:List Ob} {t:UInt8} {v:V} (h:VT cs hp t v):iE hp.length v:=by
 cases v with
 |i n=>exact Or.inl ⟨n,rfl⟩
 |z=>exact Or.inr (Or.inl rfl)
 |o k=>
  obtain⟨_,ob,hk,_⟩:=h;exact Or.inr (Or.inr ⟨k,rfl,(List.getElem?_eq_some_iff.1 hk).1⟩)
theorem xQ {im:Img} (hw:WfI im) {hp:List Ob} (hh:HT im.classes hp):l9 (im.classes.map toX) hp:=by
 intro o ho;obtain⟨k,hk,rfl⟩:=List.getElem_of_mem ho;have a0:hp[k]?=some hp[k]:=List.getElem?_eq_getElem hk;have hc:=hh.cls k _ a0;have hn:=hw.nc;have hl:=hh.len k _ a0;have hf:=jP hw.nc hc;have h2:=jF hw.cls hw.nc (UInt8.ofNat (65+hp[k].cls));rw[hf]at h2;refine⟨⟨UInt8.ofNat (65+hp[k].cls),et (by omega),by rw[hf,hl]⟩,by omega,fun u hu=> ?_⟩;obtain⟨j,hj,e⟩:=List.getElem_of_mem hu;exact Bf (hh.fs k _ j u a0 (by rw[List.getElem?_eq_getElem hj,e]))
theorem pW {cs:List Cls} {hp:List Ob} {ts us:List UInt8} {vs:List V} (h:STk cs hp ts vs) (hu: ∀j:Nat,j<vs.length→us[j]?=ts[j]?): ∀v∈dg vs us,iE hp.length v:=by
 intro v hv;unfold dg at hv;obtain⟨⟨a,t⟩,hm,rfl⟩:=List.mem_map.1 hv;obtain⟨hz,ht⟩:=List.mem_filter.1 hm;obtain⟨j,hj,e⟩:=List.getElem_of_mem hz;have a0:(vs.zip us)[j]?=some (a,t):=by rw[List.getElem?_eq_getElem hj,e]
 rw[List.getElem?_zip_eq_some]at a0;have a1:j<vs.length:=(List.getElem?_eq_some_iff.1 a0.1).1;have h1:=h.at' j a a0.1;have h2:ts.getD j 0=t:=by rw[List.getD_eq_getElem?_getD,←hu j a1,a0.2];rfl
 rw[h2]at h1;exact Bf (h1.not45 (by simpa using ht))
theorem tz {im:Img} {T:cw} (hF:Fit im T) {hp:List Ob} {g:Fm} {b:Bod} {x:Ins} {s l st:List UInt8} (hb:im.bodies[g.q]?=some b) (hx:b.code[g.pc]?=some x) (hs:gM T g.q g.pc=some (s,l)) (hst:STk im.classes hp st g.stk) (hp1: ∀j:Nat,j<g.stk.length→s[j]?=st[j]?) (hlen:st.length≤s.length) (hlo:STk im.classes hp l g.loc):
  ((∃st lo,gM T g.q g.pc=some (st,lo))∧g.stk.length≤1000∧g.loc.length≤1000∧(∀t,T[g.q]?=some t→t.length≤100)∧ ∀u∈fW T g,iE hp.length u)∧g.pc≤100:=by
 obtain⟨t,ht,hG⟩:=hF.tab hb;have hw:=hF.wf.bod b (List.mem_of_getElem? hb);have a0:=hF.wt g.q b t hb ht;have hk:=(cO ht).1 hs;obtain⟨hz,a4⟩:=a0.2 g.pc s l hk;have hn:=mR t;have a1:=a0.1;have a2:=hw.len.2;have a3:g.pc<b.code.length:=(List.getElem?_eq_some_iff.1 hx).1;refine⟨⟨⟨s,l,hs⟩,by rw[hst.len];omega,by rw[hlo.len,hz.2.2];have:=hw.loc.1;omega,fun t' ht'=>by rw[ht]at ht';cases ht';omega,fun u hu=> ?_⟩,by omega⟩;unfold fW at hu;rw[hs]at hu;rcases List.mem_append.1 hu with hu|hu
 ·exact pW hst hp1 u hu
 ·exact pW hlo (fun _ _=>rfl) u hu
theorem uQ {s:List UInt8} {n j:Nat} (h:j<(s.take n).length):s[j]?=(s.take n)[j]?:=by
 rw[List.getElem?_take,if_pos (by rw[List.length_take]at h;omega)]
theorem zH {im:Img} {T:cw} (hF:Fit im T) {hp:List Ob} {b:Bod} {r:List Fm} (h:jk im T hp b r):BM T hp.length r∧ ∀g∈r,g.pc≤100:=by
 induction h with
 |main b hb=>exact⟨fun f hf=>(by cases hf),fun f hf=>(by cases hf)⟩
 |call b g r bg x s l hb hg hx ho hm hs h2 hst hlo hr ih=>
  have hf:=tz hF hg hx hs hst (fun j hj=>uQ (by rw[←hst.len];exact hj)) (by rw[List.length_take];omega) hlo;refine⟨fun f' a0=> ?_,fun f' a0=> ?_⟩
  ·rcases List.mem_cons.1 a0 with rfl|a0
   ·exact hf.1
   ·exact ih.1 f' a0
  ·rcases List.mem_cons.1 a0 with rfl|a0
   ·exact hf.2
   ·exact ih.2 f' a0
theorem vF {im:Img} {T:cw} (hF:Fit im T) {f:Fm} {rest:List Fm} {s:Ev} (h:MT im T f rest s):BM T s.heap.length (f::rest)∧ ∀g∈f::rest,g.pc≤100:=by
 obtain⟨b,x,st,l,hT,hC⟩:=h.top;have hf:=tz hF hT.bd hT.ins hT.st hT.stk (fun _ _=>rfl) (Nat.le_refl _) hT.loc;have hc:=zH hF hC;refine⟨fun f' a0=> ?_,fun f' a0=> ?_⟩
 ·rcases List.mem_cons.1 a0 with rfl|a0
  ·exact hf.1
  ·exact hc.1 f' a0
 ·rcases List.mem_cons.1 a0 with rfl|a0
  ·exact hf.2
  ·exact hc.2 f' a0
theorem vG (n:Nat) (s:List V):(tkR n s).length≤s.length:=by
 unfold tkR cI fY
 split
 ·omega
 ·split<;>(rw[List.length_take];omega)
section
variable {w0 w w':World} {im:Img} {T:cw} {mb tx:Nat} {tv:Value} {bw cells:Nat} {ans:Int} {inp:ByteArray} {r:Fr} {rs:List Fr} {f:Fm} {fs:List Fm} {s:Ev} {vo vb:Value} {gs:List Nat} {fv:List Value} {cn:Int} {sn:Nat→Int}
theorem vH (psh:Bool) (h:McQ w0 w im T mb tx tv bw cells ans inp (r::rs) (f::fs) s vo vb gs fv cn sn) (hT:dk w0 tx im) (hcl:(im.classes.map toX).length≤100) (hsg:im.sigs.length≤100) (h4:f.stk.length≤4000) (hpc:f.pc≤1000) (h100:(aN im.sigs r.b).items.length≤100) (x:XIt) (hx:(aN im.sigs r.b).items[f.pc]?=some x) (nT:Nat) (hnT:(ay (im.classes.map toX) im.sigs x.op x.cls x.num (aN im.sigs r.b).ans).length=nT) (h2:nT≤2) (hl:nT≤f.stk.length) (hno:x.op.toNat≠99∧x.op.toNat≠116∧x.op.toNat≠106∧x.op.toNat≠102∧x.op.toNat≠108∧x.op.toNat≠115∧x.op.toNat≠110) (hly:match psh with|true=>(aF (im.classes.map toX) im.sigs x.op x.cls x.num (aN im.sigs r.b).locals).toNat≠0|false=>(aF (im.classes.map toX) im.sigs x.op x.cls x.num (aN im.sigs r.b).locals).toNat=0) (rr:R)
  (hD: ∀(P':Nat→Prop) X,WdQ P' w0 X bw tx inp s vo vb gs fv cn sn→Calls Tryz.prog 197 #[.pointer (some ⟨bw,0,none⟩),bU x,aG (tkA nT f.stk),aG (tkB nT f.stk)] X (ReW P' w0 X bw tx inp cn rr)):
  Calls Tryz.prog 88 #[.pointer (some ⟨mb,0,none⟩)] w (fun en w'=> ∃e,en= .returned (.int .i64 e)∧vE w0 im T mb tx tv bw cells ans inp rs {f with stk:=tkR nT f.stk} fs cn rr psh (.returned (.int .i64 e)) w'):=by
 subst hnT;obtain⟨n1,n2,n3,n4,n5,n6,n7⟩:=hno;refine g9 (fun e w'=>vE w0 im T mb tx tv bw cells ans inp rs {f with stk:=tkR _ f.stk} fs cn rr psh (.returned (.int .i64 e)) w') h hT hcl hsg h4 h100 x hx h2 hl (fun Y sv' hM=> .inl ⟨⟨n1,n2,n3,n4⟩,?_⟩);refine(BP psh hM hT hcl hsg (Nat.le_trans (vG _ _) h4) hpc x _ _ n5 n6 n7 hly rr (fun X hX=>hD _ _ (hM.wd.grown hX))).mono ?_;intro en w5 hp;have hp':=hp;obtain⟨u,e,s',vo',vb',gs',fv',sn',r',h1,h2,h3⟩:=hp;subst h2;exact⟨e,rfl,hp'⟩
end
end
section
open Go Go.RowKit Sp
attribute [local go_sem ↓] Go.wp_at_zero Go.wp_at_succ
section
variable {P:Nat→Prop} {w0 w w':World} {bw tx:Nat} {inp:ByteArray} {s:Ev} {vo vb:Value} {gs:List Nat} {fv:List Value} {cn:Int} {sn:Nat→Int} {l:List V}
theorem CH (h:WdQ P w0 w bw tx inp s vo vb gs fv cn sn) (u v:V) (pl n pn pc:Nat) (c:UInt8) (pa:Option Addr):
  Calls Tryz.prog 197 #[.pointer (some ⟨bw,0,none⟩),.agg #[.int .i64 pl,.int .u8 100,.int .u8 c.toNat,.int .i64 n,.slice pa pn pc],aG u,aG v] w (ReW P w0 w bw tx inp cn (.ok .z l s)):=by
 unfold aG
 go_in
 go_wp2_with fail;exact cU Tryz.results197 rfl rfl rfl (aq (by simp) _) ⟨dX.but.mono (fun _ _ h=>h.elim),vo,vb,gs,fv,sn,rfl,h.new dX.but⟩
end
def dr (w0:World) (im:Img) (T:cw) (mb tx:Nat) (tv:Value) (bw cells:Nat) (ans:Int) (inp:ByteArray) (cn:Int) (sr:SR) (e:Int) (w':World):Prop:=match sr with
 | .go m=>e=0∧ ∃rs vo vb gs fv cn' sn,cn'≤cn+1∧McQ w0 w' im T mb tx tv bw cells ans inp rs m.fr m.ev vo vb gs fv cn' sn
 | .bad n o=>e=bK n∧ ∃rs fs s' vo vb gs fv cn' sn,s'.out=o∧McQ w0 w' im T mb tx tv bw cells ans inp rs fs s' vo vb gs fv cn' sn
 | .fin v o=>e=0∧ ∃s' vo vb gs fv cn' sn,s'.out=o∧McQ w0 w' im T mb tx tv bw cells (xN v) inp [] [] s' vo vb gs fv cn' sn
section
variable {w0 w w':World} {im:Img} {T:cw} {mb tx:Nat} {tv:Value} {bw cells:Nat} {ans:Int} {inp:ByteArray} {r:Fr} {rs:List Fr} {f:Fm} {fs:List Fm} {s:Ev} {vo vb:Value} {gs:List Nat} {fv:List Value} {cn:Int} {sn:Nat→Int} {b:Bod} {x:Ins} {st l:List UInt8}
structure At (w0 w:World) (im:Img) (T:cw) (mb tx:Nat) (tv:Value) (bw cells:Nat) (ans:Int) (inp:ByteArray) (r:Fr) (rs:List Fr) (f:Fm) (fs:List Fm) (s:Ev) (vo vb:Value) (gs:List Nat) (fv:List Value) (cn:Int) (sn:Nat→Int) (b:Bod) (x:Ins) (st l:List UInt8):Prop where
 mc:McQ w0 w im T mb tx tv bw cells ans inp (r::rs) (f::fs) s vo vb gs fv cn sn
 tx:dk w0 tx im
 fit:Fit im T
 mt:MT im T f fs s
 top:qD im T s.heap f b x st l
theorem At.rb (h:At w0 w im T mb tx tv bw cells ans inp r rs f fs s vo vb gs fv cn sn b x st l):r.b=b:=by
 have h1:=h.mc.fr.1.hb;rw[h.top.bd]at h1
 cases h1
 rfl
theorem At.hx (h:At w0 w im T mb tx tv bw cells ans inp r rs f fs s vo vb gs fv cn sn b x st l):(aN im.sigs r.b).items[f.pc]?=some (aK x):=by
 show(r.b.code.map aK)[f.pc]?=_
 rw[h.rb,List.getElem?_map,h.top.ins]
 rfl
theorem At.sml (h:At w0 w im T mb tx tv bw cells ans inp r rs f fs s vo vb gs fv cn sn b x st l):f.stk.length≤1000∧f.pc≤100:=
 ⟨((vF h.fit h.mt).1 f (List.mem_cons_self ..)).2.1,(vF h.fit h.mt).2 f (List.mem_cons_self ..)⟩
theorem At.hcl (h:At w0 w im T mb tx tv bw cells ans inp r rs f fs s vo vb gs fv cn sn b x st l):(im.classes.map toX).length≤100:=by rw[List.length_map];have:=h.fit.wf.nc;omega
theorem At.h100 (h:At w0 w im T mb tx tv bw cells ans inp r rs f fs s vo vb gs fv cn sn b x st l):(aN im.sigs r.b).items.length≤100:=by
 show(r.b.code.map aK).length≤100
 rw[h.rb,List.length_map];exact(h.fit.wf.bod b (List.mem_of_getElem? h.top.bd)).len.2
theorem dl {x:Ins} {n:Nat} (h:x.op.toNat=n):bU (aK x)= .agg #[.int .i64 x.pos,.int .u8 n,.int .u8 (aK x).cls.toNat,.int .i64 x.b,.slice none 0 0]:=by
 subst h
 rfl
def srP (f:Fm) (fs:List Fm) (stk:List V):R→SR
 | .ok v _ t=> .go ⟨f.on (stk++ [v])::fs,t⟩
 | .bad n o=> .bad n o
def srN (f:Fm) (fs:List Fm) (stk:List V):R→SR
 | .ok _ _ t=> .go ⟨f.on stk::fs,t⟩
 | .bad n o=> .bad n o
theorem At.doP (h:At w0 w im T mb tx tv bw cells ans inp r rs f fs s vo vb gs fv cn sn b x st l) (nT:Nat) (hnT:(ay (im.classes.map toX) im.sigs x.op (aK x).cls x.b (aN im.sigs r.b).ans).length=nT) (h2:nT≤2) (hl:nT≤f.stk.length) (hno:x.op.toNat≠99∧x.op.toNat≠116∧x.op.toNat≠106∧x.op.toNat≠102∧x.op.toNat≠108∧x.op.toNat≠115∧x.op.toNat≠110) (hly:(aF (im.classes.map toX) im.sigs x.op (aK x).cls x.b (aN im.sigs r.b).locals).toNat≠0) (rr:R)
  (hD: ∀(P':Nat→Prop) X,WdQ P' w0 X bw tx inp s vo vb gs fv cn sn→Calls Tryz.prog 197 #[.pointer (some ⟨bw,0,none⟩),bU (aK x),aG (tkA nT f.stk),aG (tkB nT f.stk)] X (ReW P' w0 X bw tx inp cn rr))
  (sr:SR) (hsr:srP f fs (tkR nT f.stk) rr=sr):
  Calls Tryz.prog 88 #[.pointer (some ⟨mb,0,none⟩)] w (fun en w'=> ∃e,en= .returned (.int .i64 e)∧dr w0 im T mb tx tv bw cells ans inp cn sr e w'):=by
 refine(vH true h.mc h.tx h.hcl (by have:=h.fit.wf.ns;omega) (by have:=h.sml.1;omega) (by have:=h.sml.2;omega) h.h100 (aK x) h.hx nT hnT h2 hl hno hly rr hD).mono ?_;rintro en w1 ⟨e,rfl,u,e',s',vo',vb',gs',fv',sn',r',h1,a0,h3⟩;refine⟨e,rfl,?_⟩;injection a0 with a0;injection a0 with _ a0;subst a0
 cases rr with
 |ok v _ t=>
  obtain⟨rfl,rfl,rfl⟩:=h1;rw[←hsr];exact⟨rfl,_,vo',vb',gs',fv',cn,sn',by omega,h3⟩
 |bad n o=>
  obtain⟨rfl,rfl,h5⟩:=h1;rw[←hsr];exact⟨rfl,_,_,s',vo',vb',gs',fv',cn,sn',h5,h3⟩
theorem BW (h:At w0 w im T mb tx tv bw cells ans inp r rs f fs s vo vb gs fv cn sn b x st l) (ho:x.op.toNat=107):
  Calls Tryz.prog 88 #[.pointer (some ⟨mb,0,none⟩)] w (fun en w'=> ∃e,en= .returned (.int .i64 e)∧dr w0 im T mb tx tv bw cells ans inp cn (Sp.stepX im inp T cells x f fs s) e w'):=by
 have a0:=(h.fit.wf.bod b (List.mem_of_getElem? h.top.bd)).code x (List.mem_of_getElem? h.top.ins);refine h.doP 0 (by simp[ay,ho]) (by omega) (by omega) (by omega) (by simp[aF,ho]) (.ok (.i x.b) [] s) (fun P' X hX=> ?_) _ (by simp[srP,Sp.stepX,ho,tkR]);rw[dl ho];exact A6 hX _ _ _ _ _ _ _ _ a0.num
theorem BX (h:At w0 w im T mb tx tv bw cells ans inp r rs f fs s vo vb gs fv cn sn b x st l) (ho:x.op.toNat=122):
  Calls Tryz.prog 88 #[.pointer (some ⟨mb,0,none⟩)] w (fun en w'=> ∃e,en= .returned (.int .i64 e)∧dr w0 im T mb tx tv bw cells ans inp cn (Sp.stepX im inp T cells x f fs s) e w'):=by
 refine h.doP 0 (by simp[ay,ho]) (by omega) (by omega) (by omega) (by simp[aF,ho]) (.ok .z [] s) (fun P' X hX=> ?_) _ (by simp[srP,Sp.stepX,ho,tkR]);rw[dl ho];exact A7 hX _ _ _ _ _ _ _ _
theorem BY (h:At w0 w im T mb tx tv bw cells ans inp r rs f fs s vo vb gs fv cn sn b x st l) (h40:inp.size≤40) (ho:x.op.toNat=114):
  Calls Tryz.prog 88 #[.pointer (some ⟨mb,0,none⟩)] w (fun en w'=> ∃e,en= .returned (.int .i64 e)∧dr w0 im T mb tx tv bw cells ans inp cn (Sp.stepX im inp T cells x f fs s) e w'):=by
 refine h.doP 0 (by simp[ay,ho]) (by omega) (by omega) (by omega) (by simp[aF,ho]) (.ok (.i (jc inp s.read)) [] {s with read:=s.read+1}) (fun P' X hX=> ?_) _ (by simp[srP,Sp.stepX,ho,tkR]);rw[dl ho];exact A8 hX h40 _ _ _ _ _ _ _ _
end
end
section
open Go Go.RowKit Sp
section
variable {w0 w w':World} {im:Img} {T:cw} {mb tx:Nat} {tv:Value} {bw cells:Nat} {ans:Int} {inp:ByteArray} {r:Fr} {rs:List Fr} {f:Fm} {fs:List Fm} {s:Ev} {vo vb:Value} {gs:List Nat} {fv:List Value} {cn:Int} {sn:Nat→Int} {b:Bod} {x:Ins} {st l:List UInt8}
theorem At.doN (h:At w0 w im T mb tx tv bw cells ans inp r rs f fs s vo vb gs fv cn sn b x st l) (nT:Nat) (hnT:(ay (im.classes.map toX) im.sigs x.op (aK x).cls x.b (aN im.sigs r.b).ans).length=nT) (h2:nT≤2) (hl:nT≤f.stk.length) (hno:x.op.toNat≠99∧x.op.toNat≠116∧x.op.toNat≠106∧x.op.toNat≠102∧x.op.toNat≠108∧x.op.toNat≠115∧x.op.toNat≠110) (hly:(aF (im.classes.map toX) im.sigs x.op (aK x).cls x.b (aN im.sigs r.b).locals).toNat=0) (rr:R)
  (hD: ∀(P':Nat→Prop) X,WdQ P' w0 X bw tx inp s vo vb gs fv cn sn→Calls Tryz.prog 197 #[.pointer (some ⟨bw,0,none⟩),bU (aK x),aG (tkA nT f.stk),aG (tkB nT f.stk)] X (ReW P' w0 X bw tx inp cn rr))
  (sr:SR) (hsr:srN f fs (tkR nT f.stk) rr=sr):
  Calls Tryz.prog 88 #[.pointer (some ⟨mb,0,none⟩)] w (fun en w'=> ∃e,en= .returned (.int .i64 e)∧dr w0 im T mb tx tv bw cells ans inp cn sr e w'):=by
 refine(vH false h.mc h.tx h.hcl (by have:=h.fit.wf.ns;omega) (by have:=h.sml.1;omega) (by have:=h.sml.2;omega) h.h100 (aK x) h.hx nT hnT h2 hl hno hly rr hD).mono ?_;rintro en w1 ⟨e,rfl,u,e',s',vo',vb',gs',fv',sn',r',h1,a0,h3⟩;refine⟨e,rfl,?_⟩;injection a0 with a0;injection a0 with _ a0;subst a0
 cases rr with
 |ok v _ t=>
  obtain⟨rfl,rfl,rfl⟩:=h1;rw[←hsr];exact⟨rfl,_,vo',vb',gs',fv',cn,sn',by omega,h3⟩
 |bad n o=>
  obtain⟨rfl,rfl,h5⟩:=h1;rw[←hsr];exact⟨rfl,_,_,s',vo',vb',gs',fv',cn,sn',h5,h3⟩
theorem At.eff (h:At w0 w im T mb tx tv bw cells ans inp r rs f fs s vo vb gs fv cn sn b x st l): ∃st' l',dP im.classes im.sigs b x st l=some (st',l'):=by
 obtain⟨t,ht,hG⟩:=h.fit.tab h.top.bd;obtain⟨st',l',he,_,_⟩:=hG.go f.pc x st l h.top.ins ((cO ht).1 h.top.st);exact⟨st',l',he⟩
theorem BZ (h:At w0 w im T mb tx tv bw cells ans inp r rs f fs s vo vb gs fv cn sn b x st l) (ht:dw w0) (hol:s.out.length≤90000) (ho:x.op.toNat=119):
  Calls Tryz.prog 88 #[.pointer (some ⟨mb,0,none⟩)] w (fun en w'=> ∃e,en= .returned (.int .i64 e)∧dr w0 im T mb tx tv bw cells ans inp cn (Sp.stepX im inp T cells x f fs s) e w'):=by
 obtain⟨st',l',he⟩:=h.eff;obtain⟨hf,_,_⟩:=bD (by omega) (by omega) he;simp[bC,arith,ho]at hf;obtain⟨f1,f2⟩:=eF hf;obtain⟨n,hn,n1,n2⟩:=(h.top.stk.t1 f1).toInt h.fit.wf.cls h.fit.wf.nc h.mt.ht f2;have hl:=h.top.stk.len;refine h.doN 1 (by simp[ay,ho]) (by omega) (by omega) (by omega) (by simp[aF,ho]) (.ok (.i 0) [] (s.say n)) (fun P' X hX=> ?_) _ (by simp[srN,Sp.stepX,ho,tkR,hn,V.N]);rw[dl ho];simp only[tkA,tkB,hn];exact A9 hX ht n n1 n2 hol _ _ _ _ _ _ _
theorem B0 (h:At w0 w im T mb tx tv bw cells ans inp r rs f fs s vo vb gs fv cn sn b x st l) (ho:x.op.toNat=100):
  Calls Tryz.prog 88 #[.pointer (some ⟨mb,0,none⟩)] w (fun en w'=> ∃e,en= .returned (.int .i64 e)∧dr w0 im T mb tx tv bw cells ans inp cn (Sp.stepX im inp T cells x f fs s) e w'):=by
 obtain⟨st',l',he⟩:=h.eff;obtain⟨k,hk,_,_⟩:=eG (by omega) (by omega) he;obtain⟨_,q1,_⟩:=ff (by omega) hk;have hl:=h.top.stk.len;refine h.doN 1 (by simp[ay,ho]) (by omega) (by omega) (by omega) (by simp[aF,ho]) (.ok .z [] s) (fun P' X hX=> ?_) _ (by simp[srN,Sp.stepX,ho,tkR]);rw[dl ho];exact CH hX _ _ _ _ _ _ _ _
theorem uR (h:At w0 w im T mb tx tv bw cells ans inp r rs f fs s vo vb gs fv cn sn b x st l) (ho:x.op.toNat=43∨x.op.toNat=45∨x.op.toNat=42∨x.op.toNat=60∨x.op.toNat=61∨x.op.toNat=47):
  Calls Tryz.prog 88 #[.pointer (some ⟨mb,0,none⟩)] w (fun en w'=> ∃e,en= .returned (.int .i64 e)∧dr w0 im T mb tx tv bw cells ans inp cn (Sp.stepX im inp T cells x f fs s) e w'):=by
 obtain⟨st',l',he⟩:=h.eff;obtain⟨hf,_,_⟩:=bD (by omega) (by omega) he
 have hp:bC im.classes im.sigs b x=[105,105]:=by
  rcases ho with h'|h'|h'|h'|h'|h'<;>simp[bC,arith,h']
 rw[hp]at hf;obtain⟨f1,f2,f3⟩:=fO hf;obtain⟨n,hn,n1,n2⟩:=(h.top.stk.t2 f1).toInt h.fit.wf.cls h.fit.wf.nc h.mt.ht f2;obtain⟨m,hm,m1,m2⟩:=(h.top.stk.t1 (by omega)).toInt h.fit.wf.cls h.fit.wf.nc h.mt.ht f3;have hl:=h.top.stk.len
 have a1:ay (im.classes.map toX) im.sigs x.op (aK x).cls x.b (aN im.sigs r.b).ans=[105,105]:=by
  unfold ay;rw[if_neg (by omega),if_neg (by omega),if_pos (by omega)]
 have a0:aF (im.classes.map toX) im.sigs x.op (aK x).cls x.b (aN im.sigs r.b).locals=105:=by
  unfold aF;rw[if_pos (by omega)]
 refine h.doP 2 (by rw[a1];rfl) (by omega) (by omega) (by omega) (by rw[a0];decide) (cX x.op.toNat n m [] s) (fun P' X hX=> ?_) _ ?_
 ·rw[dl rfl];simp only[tkA,tkB,hn,hm];exact Bc hX x.op.toNat ho n m n1 n2 m1 m2 _ _ _ _ _ _
 ·have e1:Sp.stepX im inp T cells x f fs s=match cX x.op.toNat (jw f.stk).N (cM f.stk).N [] s with
   | .bad e o=> .bad e o
   | .ok v _ s=> .go ⟨f.on (fY f.stk++ [v])::fs,s⟩:=by
   rcases ho with h'|h'|h'|h'|h'|h'<;>simp[Sp.stepX,h']<;>rfl
  rw[e1,hn,hm];simp only[V.N,tkR]
  cases cX x.op.toNat n m [] s<;>rfl
theorem At.nsg (h:At w0 w im T mb tx tv bw cells ans inp r rs f fs s vo vb gs fv cn sn b x st l):im.sigs.length≤100:=by have:=h.fit.wf.ns;omega
theorem B1 (h:At w0 w im T mb tx tv bw cells ans inp r rs f fs s vo vb gs fv cn sn b x st l) (ho:x.op.toNat=106):
  Calls Tryz.prog 88 #[.pointer (some ⟨mb,0,none⟩)] w (fun en w'=> ∃e,en= .returned (.int .i64 e)∧dr w0 im T mb tx tv bw cells ans inp cn (Sp.stepX im inp T cells x f fs s) e w'):=by
 have a0:(ay (im.classes.map toX) im.sigs (aK x).op (aK x).cls (aK x).num (aN im.sigs r.b).ans).length=0:=by simp[ay,aK,ho]
 refine g9 (fun e w'=>dr w0 im T mb tx tv bw cells ans inp cn (Sp.stepX im inp T cells x f fs s) e w') h.mc h.tx h.hcl h.nsg (by have:=h.sml.1;omega) h.h100 (aK x) h.hx (by omega) (by omega) (fun _ _ _=> .inr (.inr (.inr (.inr ⟨ho,fun Y sv' hM=> ?_⟩))));have e1:Sp.stepX im inp T cells x f fs s= .go ⟨{f with pc:=x.b}::fs,s⟩:=by simp[Sp.stepX,ho]
 rw[a0]at hM;rw[e1];exact⟨rfl,_,_,_,_,_,cn,_,by omega,hM⟩
theorem B3 (h:At w0 w im T mb tx tv bw cells ans inp r rs f fs s vo vb gs fv cn sn b x st l) (ho:x.op.toNat=102):
  Calls Tryz.prog 88 #[.pointer (some ⟨mb,0,none⟩)] w (fun en w'=> ∃e,en= .returned (.int .i64 e)∧dr w0 im T mb tx tv bw cells ans inp cn (Sp.stepX im inp T cells x f fs s) e w'):=by
 obtain⟨st',l',he⟩:=h.eff;obtain⟨hf,_,_⟩:=bD (by omega) (by omega) he;simp[bC,arith,ho]at hf;obtain⟨f1,f2⟩:=eF hf;obtain⟨n,hn,n1,n2⟩:=(h.top.stk.t1 f1).toInt h.fit.wf.cls h.fit.wf.nc h.mt.ht f2;have hl:=h.top.stk.len;have a2:(ay (im.classes.map toX) im.sigs (aK x).op (aK x).cls (aK x).num (aN im.sigs r.b).ans).length=1:=by simp[ay,aK,ho]
 refine g9 (fun e w'=>dr w0 im T mb tx tv bw cells ans inp cn (Sp.stepX im inp T cells x f fs s) e w') h.mc h.tx h.hcl h.nsg (by have:=h.sml.1;omega) h.h100 (aK x) h.hx (by omega) (by omega) (fun Y sv' hM=> .inr (.inr (.inr (.inl ⟨ho,?_⟩))));rw[a2]at hM⊢;refine(BT hM (by have:=h.sml.2;simp;omega) (aK x).num _).mono ?_;rintro en w1 ⟨rfl,a0⟩;refine⟨rfl,?_⟩;have e1:Sp.stepX im inp T cells x f fs s= .go ⟨{f with stk:=cI f.stk,pc:=if(cM f.stk).N=0 then x.b else f.pc+1}::fs,s⟩:=by simp[Sp.stepX,ho]
 have a1:tkA 1 f.stk= .i n:=hn;rw[a1]at a0;rw[e1,hn];exact⟨rfl,_,_,_,_,_,cn,_,by omega,a0⟩
theorem B4 (h:At w0 w im T mb tx tv bw cells ans inp r rs f fs s vo vb gs fv cn sn b x st l) (ho:x.op.toNat=108):
  Calls Tryz.prog 88 #[.pointer (some ⟨mb,0,none⟩)] w (fun en w'=> ∃e,en= .returned (.int .i64 e)∧dr w0 im T mb tx tv bw cells ans inp cn (Sp.stepX im inp T cells x f fs s) e w'):=by
 have a0:=h.fit.wf.bod b (List.mem_of_getElem? h.top.bd);have a4:=a0.code x (List.mem_of_getElem? h.top.ins);have hb:=a4.loc (Or.inl ho)
 have a5:f.loc.length=b.locals.length:=by
  obtain⟨t,ht,_⟩:=h.fit.tab h.top.bd;have hk:=(cO ht).1 h.top.st;rw[h.top.loc.len,((h.fit.wt f.q b t h.top.bd ht).2 f.pc st l hk).1.2.2]
 have a3:(ay (im.classes.map toX) im.sigs (aK x).op (aK x).cls (aK x).num (aN im.sigs r.b).ans).length=0:=by simp[ay,aK,ho]
 have hu:f.loc[x.b]?=some (f.loc.getD x.b .z):=by
  rw[List.getD_eq_getElem?_getD,List.getElem?_eq_getElem (show x.b<f.loc.length by omega)]
  rfl
 have a2:(aF (im.classes.map toX) im.sigs (aK x).op (aK x).cls (aK x).num (aN im.sigs r.b).locals).toNat≠0:=by
  have e:aF (im.classes.map toX) im.sigs (aK x).op (aK x).cls (aK x).num (aN im.sigs r.b).locals=bM r.b.locals x.b:=by
   show aF _ _ x.op _ x.b _=_
   unfold aF;rw[if_neg (by omega),if_pos ho]
   rfl
  rw[e,h.rb]
  have hm:b.locals.getD x.b 0∈b.locals:=by
   rw[List.getD_eq_getElem?_getD,List.getElem?_eq_getElem hb];exact List.getElem_mem hb
  have ht:=a0.loc.2 _ hm;unfold bM;rw[if_pos hb];clear hm;generalize b.locals.getD x.b 0=c at ht⊢;simp[cG,aO]at ht;omega
 refine g9 (fun e w'=>dr w0 im T mb tx tv bw cells ans inp cn (Sp.stepX im inp T cells x f fs s) e w') h.mc h.tx h.hcl h.nsg (by have:=h.sml.1;omega) h.h100 (aK x) h.hx (by omega) (by omega) (fun Y sv' hM=> .inl ⟨show x.op.toNat≠99∧x.op.toNat≠116∧x.op.toNat≠106∧x.op.toNat≠102 by omega,?_⟩);rw[a3]at hM⊢;refine(BN hM h.tx h.hcl h.nsg (by have:=h.sml.1;simp[tkR];omega) (by have:=h.sml.2;simp;omega) (aK x) _ _ _ ho hu a2).mono ?_;rintro en w1 ⟨rfl,r',a1⟩;refine⟨0,rfl,?_⟩;have e1:Sp.stepX im inp T cells x f fs s= .go ⟨f.on (f.stk++ [f.loc.getD x.b .z])::fs,s⟩:=by simp[Sp.stepX,ho]
 rw[e1];exact⟨rfl,_,_,_,_,_,cn,_,by omega,a1⟩
theorem At.ll (h:At w0 w im T mb tx tv bw cells ans inp r rs f fs s vo vb gs fv cn sn b x st l):f.loc.length=b.locals.length:=by rw[h.top.loc.len,yG h.fit h.top]
theorem At.wx (h:At w0 w im T mb tx tv bw cells ans inp r rs f fs s vo vb gs fv cn sn b x st l):WfX im.classes im.sigs.length b.locals.length x:=(h.fit.wf.bod b (List.mem_of_getElem? h.top.bd)).code x (List.mem_of_getElem? h.top.ins)
theorem B5 (h:At w0 w im T mb tx tv bw cells ans inp r rs f fs s vo vb gs fv cn sn b x st l) (ho:x.op.toNat=115):
  Calls Tryz.prog 88 #[.pointer (some ⟨mb,0,none⟩)] w (fun en w'=> ∃e,en= .returned (.int .i64 e)∧dr w0 im T mb tx tv bw cells ans inp cn (Sp.stepX im inp T cells x f fs s) e w'):=by
 obtain⟨st',l',he⟩:=h.eff;obtain⟨k,hk,_,_⟩:=kL (by omega) he;obtain⟨_,q1,_⟩:=ff (by omega) hk;have hl:=h.top.stk.len;have hb:=h.wx.loc (Or.inr ho);have a3:=h.ll;have a2:(ay (im.classes.map toX) im.sigs (aK x).op (aK x).cls (aK x).num (aN im.sigs r.b).ans).length=1:=by simp[ay,aK,ho]
 have a1:(aF (im.classes.map toX) im.sigs (aK x).op (aK x).cls (aK x).num (aN im.sigs r.b).locals).toNat=0:=by
  show(aF _ _ x.op _ x.b _).toNat=0
  simp[aF,ho]
 refine g9 (fun e w'=>dr w0 im T mb tx tv bw cells ans inp cn (Sp.stepX im inp T cells x f fs s) e w') h.mc h.tx h.hcl h.nsg (by have:=h.sml.1;omega) h.h100 (aK x) h.hx (by omega) (by omega) (fun Y sv' hM=> .inl ⟨show x.op.toNat≠99∧x.op.toNat≠116∧x.op.toNat≠106∧x.op.toNat≠102 by omega,?_⟩);rw[a2]at hM⊢;refine(BO hM h.tx h.hcl h.nsg (Nat.le_trans (vG 1 f.stk) (by have:=h.sml.1;omega)) (by have:=h.sml.2;simp;omega) (aK x) _ _ ho (by show x.b<f.loc.length;omega) a1).mono ?_;rintro en w1 ⟨rfl,r',a0⟩;refine⟨0,rfl,?_⟩;have e1:Sp.stepX im inp T cells x f fs s= .go ⟨{f.on (cI f.stk)with loc:=f.loc.set x.b (cM f.stk)}::fs,s⟩:=by simp[Sp.stepX,ho]
 rw[e1];exact⟨rfl,_,_,_,_,_,cn,_,by omega,a0⟩
theorem B6 (h:At w0 w im T mb tx tv bw cells ans inp r rs f fs s vo vb gs fv cn sn b x st l) (ho:x.op.toNat=101):
  Calls Tryz.prog 88 #[.pointer (some ⟨mb,0,none⟩)] w (fun en w'=> ∃e,en= .returned (.int .i64 e)∧dr w0 im T mb tx tv bw cells ans inp cn (Sp.stepX im inp T cells x f fs s) e w'):=by
 obtain⟨st',l',he⟩:=h.eff;obtain⟨k,hk,_,_⟩:=eG (by omega) (by omega) he;obtain⟨_,q1,q3,q2⟩:=nY (by rw[ho]at hk;exact hk);have hl:=h.top.stk.len;have hu:=((h.top.stk.t2 q1).toRef q2).ref q2;have hv:=((h.top.stk.t1 (by omega)).toRef q3).ref q3
 have a0:xO (jw f.stk)=xO (cM f.stk)↔jw f.stk=cM f.stk:=by
  refine⟨fun e=> ?_,fun e=>by rw[e]⟩;rcases hu with hu| ⟨j,_,hu,_⟩<;>rcases hv with hv| ⟨j',_,hv,_⟩<;>rw[hu,hv]at e⊢ <;>simp only[xO]at e
  ·omega
  ·omega
  ·have:j=j':=by omega
   rw[this]
 refine h.doP 2 (by simp[ay,ho]) (by omega) (by omega) (by omega) (by simp[aF,ho]) (.ok (if jw f.stk=cM f.stk then .i 1 else .i 0) [] s) (fun P' X hX=> ?_) _ (by simp[srP,Sp.stepX,ho,tkR]);rw[dl ho];exact Ba hX _ _ a0 _ _ _ _ _ _
theorem B7 (h:At w0 w im T mb tx tv bw cells ans inp r rs f fs s vo vb gs fv cn sn b x st l) (h4:s.heap.length≤4000) (ho:x.op.toNat=103):
  Calls Tryz.prog 88 #[.pointer (some ⟨mb,0,none⟩)] w (fun en w'=> ∃e,en= .returned (.int .i64 e)∧dr w0 im T mb tx tv bw cells ans inp cn (Sp.stepX im inp T cells x f fs s) e w'):=by
 obtain⟨st',l',he⟩:=h.eff;obtain⟨hf,_,_⟩:=bD (by omega) (by omega) he;simp[bC,arith,ho]at hf;obtain⟨f1,f2⟩:=eF hf;have hl:=h.top.stk.len;have hcl:=h.wx.cls (by omega);have a6:=h.fit.wf.nc;obtain⟨a1,a5⟩:=dC (a:=x.a) (by omega);have hv:=((h.top.stk.t1 f1).sub h.fit.wf.cls h.fit.wf.nc h.mt.ht f2).toRef (bR a1)
 have a3:(aF (im.classes.map toX) im.sigs x.op (aK x).cls x.b (aN im.sigs r.b).locals).toNat≠0:=by
  have a2:=h.wx.fld (by omega);have a0:=lX h.fit.wf hcl a2;have ec:(aK x).cls=UInt8.ofNat (65+x.a):=by simp[aK,ho]
  unfold aF;rw[if_neg (by omega),if_neg (by omega),if_neg (by omega),if_neg (by omega),if_pos ho,ec,jP a6 hcl];unfold bM;rw[if_pos (show x.b<(bj im.classes x.a).length from a2)];have a0:cG im.classes.length ((bj im.classes x.a).getD x.b 0)=true:=a0;generalize (bj im.classes x.a).getD x.b 0=c at a0⊢;simp[cG,aO]at a0;omega
 have a4:(ay (im.classes.map toX) im.sigs x.op (aK x).cls x.b (aN im.sigs r.b).ans).length=1:=by simp[ay,ho]
 rcases hv.ref (bR a1)with e| ⟨k,ob,e,hk,_,hu⟩
 ·refine h.doP 1 a4 (by omega) (by omega) (by omega) a3 (.bad 6 s.out) (fun P' X hX=> ?_) _ (by simp[srP,Sp.stepX,ho,e]);rw[dl ho];simp only[tkA,e];exact zo hX h4 _ _ _ _ _ _ _
 ·rw[a5]at hu;obtain⟨g1,g2⟩:=ka h.fit h.mt.ht hcl (h.wx.fld (by omega)) hk hu;refine h.doP 1 a4 (by omega) (by omega) (by omega) a3 (.ok (ob.fs.getD x.b .z) [] s) (fun P' X hX=> ?_) _ (by simp[srP,Sp.stepX,ho,e,tkR,(Ev.at hk).2]);rw[dl ho];simp only[tkA,e];exact zp hX h4 hk _ _ _ _ _ _ _ _ (by rw[List.getD_eq_getElem?_getD,List.getElem?_eq_getElem g1];rfl)
theorem B8 (h:At w0 w im T mb tx tv bw cells ans inp r rs f fs s vo vb gs fv cn sn b x st l) (h4:s.heap.length≤4000) (ho:x.op.toNat=112):
  Calls Tryz.prog 88 #[.pointer (some ⟨mb,0,none⟩)] w (fun en w'=> ∃e,en= .returned (.int .i64 e)∧dr w0 im T mb tx tv bw cells ans inp cn (Sp.stepX im inp T cells x f fs s) e w'):=by
 obtain⟨st',l',he⟩:=h.eff;obtain⟨hf,_,_⟩:=bD (by omega) (by omega) he;simp[bC,arith,ho]at hf;obtain⟨f1,f2,f3⟩:=fO hf;have hl:=h.top.stk.len;have hcl:=h.wx.cls (by omega);have a4:=h.fit.wf.nc;obtain⟨a0,a3⟩:=dC (a:=x.a) (by omega);have hv:=((h.top.stk.t2 f1).sub h.fit.wf.cls h.fit.wf.nc h.mt.ht f2).toRef (bR a0);have a1:(aF (im.classes.map toX) im.sigs x.op (aK x).cls x.b (aN im.sigs r.b).locals).toNat=0:=by simp[aF,ho]
 have a2:(ay (im.classes.map toX) im.sigs x.op (aK x).cls x.b (aN im.sigs r.b).ans).length=2:=by simp[ay,ho]
 rcases hv.ref (bR a0)with e| ⟨k,ob,e,hk,_,hu⟩
 ·refine h.doN 2 a2 (by omega) (by omega) (by omega) a1 (.bad 6 s.out) (fun P' X hX=> ?_) _ (by simp[srN,Sp.stepX,ho,e]);rw[dl ho];simp only[tkA,e];exact zq hX h4 _ _ _ _ _ _ _
 ·rw[a3]at hu;obtain⟨g1,g2⟩:=ka h.fit h.mt.ht hcl (h.wx.fld (by omega)) hk hu;refine h.doN 2 a2 (by omega) (by omega) (by omega) a1 (.ok (.i 0) [] (s.put k x.b (cM f.stk))) (fun P' X hX=> ?_) _ (by simp[srN,Sp.stepX,ho,e,tkR]);rw[dl ho];simp only[tkA,tkB,e];exact zt hX h4 hk _ _ _ _ _ _ _ g1
theorem B9 (h:At w0 w im T mb tx tv bw cells ans inp r rs f fs s vo vb gs fv cn sn b x st l) (h4:s.heap.length≤4000) (ho:x.op.toNat=120):
  Calls Tryz.prog 88 #[.pointer (some ⟨mb,0,none⟩)] w (fun en w'=> ∃e,en= .returned (.int .i64 e)∧dr w0 im T mb tx tv bw cells ans inp cn (Sp.stepX im inp T cells x f fs s) e w'):=by
 obtain⟨st',l',he⟩:=h.eff;obtain⟨k,hk,_,_⟩:=eG (by omega) (by omega) he;obtain⟨_,q1,q2⟩:=ff (by omega) hk;have q2:=q2 ho;have hl:=h.top.stk.len;have hcl:=h.wx.cls (by omega);have a4:=h.fit.wf.nc;have hv:=(h.top.stk.t1 q1).toRef q2;have ec:(aK x).cls=UInt8.ofNat (65+x.a):=by simp[aK,ho]
 have a1:(aF (im.classes.map toX) im.sigs x.op (aK x).cls x.b (aN im.sigs r.b).locals).toNat≠0:=by
  have:=et (a:=x.a) (by omega);unfold aF;rw[if_neg (by omega),if_neg (by omega),if_pos (by omega),ec,this];omega
 have a2:(ay (im.classes.map toX) im.sigs x.op (aK x).cls x.b (aN im.sigs r.b).ans).length=1:=by simp[ay,ho]
 have a0:cI f.stk++ [cM f.stk]=f.stk:=lY (by omega);rcases hv.ref q2 with e| ⟨k,ob,e,hk,_,hu⟩
 ·refine h.doP 1 a2 (by omega) (by omega) (by omega) a1 (.ok .z [] s) (fun P' X hX=> ?_) _ ?_
  ·rw[dl ho];simp only[tkA,e];exact zu hX h4 _ _ _ _ _ _ _
  ·rw[e]at a0;simp[srP,Sp.stepX,ho,e,tkR,a0]
 ·have a5:=h.mt.ht.cls k ob hk;have a3:=pQ h.fit.wf.cls a4 hcl a5;refine h.doP 1 a2 (by omega) (by omega) (by omega) a1 (if dc (im.classes.map toX) (UInt8.ofNat (65+x.a)) (im.classes.map toX).length (UInt8.ofNat (65+ob.cls))=true then .ok (.o k) [] s else .bad 8 s.out) (fun P' X hX=> ?_) _ ?_
  ·rw[dl ho,ec];simp only[tkA,e];exact zv hX h4 hk (im.classes.map toX) h.hcl h.tx.cls _ (et (by omega)) _ _ _ _ _ _ _
  ·rw[e]at a0;rw[a3]
   by_cases hb:bO im.classes 5 ob.cls x.a=true
   ·simp[srP,Sp.stepX,ho,e,tkR,a0,(Ev.at hk).1,hb]
   ·simp[srP,Sp.stepX,ho,e,tkR,a0,(Ev.at hk).1,hb]
theorem Ca (h:At w0 w im T mb tx tv bw cells ans inp r rs f fs s vo vb gs fv cn sn b x st l) (ho:x.op.toNat=116):
  Calls Tryz.prog 88 #[.pointer (some ⟨mb,0,none⟩)] w (fun en w'=> ∃e,en= .returned (.int .i64 e)∧dr w0 im T mb tx tv bw cells ans inp cn (Sp.stepX im inp T cells x f fs s) e w'):=by
 obtain⟨st',l',he⟩:=h.eff;obtain⟨hf,_,_⟩:=bD (by omega) (by omega) he;simp[bC,arith,ho]at hf;have f1:1≤st.length:=by split at hf<;>exact(eF hf).1
 have hl:=h.top.stk.len;have a2:(ay (im.classes.map toX) im.sigs (aK x).op (aK x).cls (aK x).num (aN im.sigs r.b).ans).length=1:=by simp[ay,aK,ho]
 have a3:tkA 1 f.stk=cM f.stk:=rfl;refine g9 (fun e w'=>dr w0 im T mb tx tv bw cells ans inp cn (Sp.stepX im inp T cells x f fs s) e w') h.mc h.tx h.hcl h.nsg (by have:=h.sml.1;omega) h.h100 (aK x) h.hx (by omega) (by omega) (fun Y sv' hM=> .inr (.inr (.inl ⟨ho,?_⟩)));rw[a2]at hM⊢;have a0:=vF h.fit h.mt
 match fs,rs,hM,a0 with
 | [],[],hM,_=>
  refine(BU hM _).mono ?_;rintro en w1 ⟨rfl,a1⟩;refine⟨rfl,?_⟩;have e1:Sp.stepX im inp T cells x f [] s= .fin (cM f.stk) s.out:=by simp[Sp.stepX,ho]
  rw[e1];exact⟨rfl,s,_,_,_,_,_,_,rfl,a1⟩
 | [],q::rs2,hM,_=>exact hM.fr.2.1.elim
 |g::fs2,[],hM,_=>exact hM.fr.2.1.elim
 |g::fs2,q::rs2,hM,a0=>
  have hg:=a0.1 g (List.mem_cons_of_mem _ (List.mem_cons_self ..));have a4:=a0.2 g (List.mem_cons_of_mem _ (List.mem_cons_self ..));refine(BV hM (by omega) (by omega) _).mono ?_;rintro en w1 ⟨rfl,q',a1⟩;refine⟨rfl,?_⟩;have e1:Sp.stepX im inp T cells x f (g::fs2) s= .go ⟨g.on (g.stk++ [cM f.stk])::fs2,s⟩:=by simp[Sp.stepX,ho]
  rw[e1];exact⟨rfl,_,_,_,_,_,cn,_,by omega,a1⟩
theorem Cb (h:At w0 w im T mb tx tv bw cells ans inp r rs f fs s vo vb gs fv cn sn b x st l) (h4:s.heap.length≤4000) (hcn:cn≤100000) (ho:x.op.toNat=110):
  Calls Tryz.prog 88 #[.pointer (some ⟨mb,0,none⟩)] w (fun en w'=> ∃e,en= .returned (.int .i64 e)∧dr w0 im T mb tx tv bw cells ans inp cn (Sp.stepX im inp T cells x f fs s) e w'):=by
 have hcl:=h.wx.cls (by omega);have a2:=h.fit.wf.nc;have ec:(aK x).cls=UInt8.ofNat (65+x.a):=by simp[aK,ho]
 have a0:=jP a2 hcl;have b0:=jF h.fit.wf.cls a2 (UInt8.ofNat (65+x.a));have a3:=(vF h.fit h.mt).1;have a6:=xQ h.fit.wf h.mt.ht
 have a5:(aF (im.classes.map toX) im.sigs (aK x).op (aK x).cls (aK x).num (aN im.sigs r.b).locals).toNat≠0:=by
  have:=et (a:=x.a) (by omega)
  show(aF _ _ x.op _ x.b _).toNat≠0
  unfold aF;rw[if_neg (by omega),if_neg (by omega),if_pos (by omega),ec,this];omega
 have a8:(ay (im.classes.map toX) im.sigs (aK x).op (aK x).cls (aK x).num (aN im.sigs r.b).ans).length=0:=by simp[ay,aK,ho]
 refine g9 (fun e w'=>dr w0 im T mb tx tv bw cells ans inp cn (Sp.stepX im inp T cells x f fs s) e w') h.mc h.tx h.hcl h.nsg (by have:=h.sml.1;omega) h.h100 (aK x) h.hx (by omega) (by omega) (fun Y sv' hM=> .inl ⟨show x.op.toNat≠99∧x.op.toNat≠116∧x.op.toNat≠106∧x.op.toNat≠102 by omega,?_⟩);rw[a8]at hM⊢;have hM:McQ w0 Y im T mb tx tv bw cells ans inp ({r with sv:=sv'}::rs) (f::fs) s vo vb gs fv cn sn:=hM;have hH:=fun(Z:World) (hZ:But (fun _=>False) Y Z)=>tw (hM.new hZ) h4 hcn a3 h.mt.dep (im.classes.map toX) h.hcl h.tx.cls a6 (aK x).cls (by rw[ec];omega)
 have a7:(bI (im.classes.map toX) (aK x).cls).length=(cq im.classes x.a).length:=by rw[ec,a0];simp[cq,bj]
 rw[a7]at hH
 by_cases hr:dH s.heap (fX T (f::fs))+(1+(cq im.classes x.a).length)≤cells
 ·rw[decide_eq_true hr]at hH;refine(BQ hM h.tx h.hcl h.nsg (by have:=h.sml.1;omega) (by have:=h.sml.2;omega) (aK x) _ _ ho a5 (.ok (.o s.heap.length) [] {s with heap:=s.heap++ [⟨x.a,cq im.classes x.a⟩]}) hH (fun P' X sn' hX=> ?_)).mono ?_
  ·rw[dl ho];exact Bb hX h4 (im.classes.map toX) h.hcl h.tx.cls ⟨x.a,cq im.classes x.a⟩ (bj im.classes x.a) _ _ _ _ _ _ _ _ (by rw[ec];exact et (by omega)) (by rw[ec];exact a0) (by rw[←a0];omega) rfl
  ·rintro en w1 ⟨u,e,s',vo',vb',gs',fv',sn',r',h1,rfl,h3⟩;obtain⟨rfl,rfl,rfl⟩:=h1;refine⟨0,rfl,?_⟩
   have e1:Sp.stepX im inp T cells x f fs s= .go ⟨f.on (f.stk++ [.o s.heap.length])::fs,{s with heap:=s.heap++ [⟨x.a,cq im.classes x.a⟩]}⟩:=by
    have a1: ¬(dH s.heap (fX T (f::fs))+1+(cq im.classes x.a).length>cells):=by omega
    simp only[Sp.stepX,ho];simp[a1]
   rw[e1];exact⟨rfl,_,_,_,_,_,cn+1,_,by omega,h3⟩
 ·rw[decide_eq_false hr]at hH;refine(xP hM (aK x) _ _ ho hH).mono ?_;rintro en w1 ⟨rfl,sn',a4⟩;refine⟨5,rfl,?_⟩
  have e1:Sp.stepX im inp T cells x f fs s= .bad 9 s.out:=by
   have a1:dH s.heap (fX T (f::fs))+1+(cq im.classes x.a).length>cells:=by omega
   simp only[Sp.stepX,ho];simp[a1]
  rw[e1];exact⟨rfl,_,_,s,_,_,_,_,_,_,rfl,a4⟩
theorem Cc (h:At w0 w im T mb tx tv bw cells ans inp r rs f fs s vo vb gs fv cn sn b x st l) (h4:s.heap.length≤4000) (base:Nat) (L:List (Nat×List St)) (hXT:el w0 base tv L) (hLT:L.map (·.2)=T) (ho:x.op.toNat=99):
  Calls Tryz.prog 88 #[.pointer (some ⟨mb,0,none⟩)] w (fun en w'=> ∃e,en= .returned (.int .i64 e)∧dr w0 im T mb tx tv bw cells ans inp cn (Sp.stepX im inp T cells x f fs s) e w'):=by
 obtain⟨st',l',he⟩:=h.eff;obtain⟨hf,_,_⟩:=bD (by omega) (by omega) he;simp[bC,arith,ho]at hf;obtain⟨f1,f2,f3⟩:=fO hf;have hl:=h.top.stk.len;have hcl:=h.wx.cls (by omega);have a7:=h.wx.sig ho;have b5:=h.fit.wf.nc;have b3:b∈im.bodies:=List.mem_of_getElem? h.top.bd;have e2:x∈b.code:=List.mem_of_getElem? h.top.ins;obtain⟨a3,a8⟩:=dC (a:=x.a) (by omega);have hv:=((h.top.stk.t2 f1).sub h.fit.wf.cls h.fit.wf.nc h.mt.ht f2).toRef (bR a3);have b9:(ay (im.classes.map toX) im.sigs (aK x).op (aK x).cls (aK x).num (aN im.sigs r.b).ans).length=2:=by simp[ay,aK,ho]
 have b4:=h.mt.dep;refine g9 (fun e w'=>dr w0 im T mb tx tv bw cells ans inp cn (Sp.stepX im inp T cells x f fs s) e w') h.mc h.tx h.hcl h.nsg (by have:=h.sml.1;omega) h.h100 (aK x) h.hx (by omega) (by omega) (fun Y sv' hM=> .inr (.inl ⟨ho,?_⟩));rw[b9]at hM⊢;have eA:tkA 2 f.stk=jw f.stk:=rfl;have eB:tkB 2 f.stk=cM f.stk:=rfl;rw[eA,eB];rcases hv.ref (bR a3)with e| ⟨k,ob,e,hk,_,hu⟩
 ·rw[e];refine(tq hM (aK x).num .z (cM f.stk) (-1) 2 (by decide) (fun Z hZ=>pO (hM.new hZ).wd h4 _ _)).mono ?_;rintro en w1 ⟨rfl,hB⟩;refine⟨2,rfl,?_⟩;have e1:Sp.stepX im inp T cells x f fs s= .bad 6 s.out:=by simp[Sp.stepX,ho,e]
  rw[e1];exact⟨rfl,_,_,s,_,_,_,_,_,_,rfl,hM.new hB⟩
 ·rw[e];rw[a8]at hu;have a6:=h.mt.ht.cls k ob hk;have a0:=fun(Z:World) (hZ:But (fun _=>False) Y Z)=>pP (hM.new hZ).wd h4 hk (im.classes.map toX) (im.bodies.map (aN im.sigs)) h.hcl (by rw[List.length_map];have:=h.fit.wf.nb;omega) h.tx.cls h.tx.bod (UInt8.ofNat (65+ob.cls)) (et (by omega)) (aK x).num (fs.length+1)
  by_cases hd:12≤fs.length+1
  ·rw[if_pos hd]at a0;refine(tq hM (aK x).num (.o k) (cM f.stk) (-1) 6 (by decide) a0).mono ?_;rintro en w1 ⟨rfl,hB⟩;refine⟨6,rfl,?_⟩;have e1:Sp.stepX im inp T cells x f fs s= .bad 10 s.out:=by simp only[Sp.stepX,ho,e];simp[hd]
   rw[e1];exact⟨rfl,_,_,s,_,_,_,_,_,_,rfl,hM.new hB⟩
  ·rw[if_neg hd]at a0;have d6:=((h.top.stk.t1 (by omega)).sub h.fit.wf.cls h.fit.wf.nc h.mt.ht f3).not45 (gW (vv h.fit.wf a7).1);have a5:=h.fit.lk b b3 x e2 ho;obtain⟨c1,c2,c3,c4,c5⟩:=vu h.fit h.mt.ht hk hcl a7 hu a5 d6;have e3:=jK (bs:=im.bodies) (m:=x.b) h.fit.wf.cls 4 (x:=ob.cls) (y:=x.a) (by omega) (by omega) hu a5
   have b2:eM (im.classes.map toX) (im.bodies.map (aN im.sigs)) x.b (im.classes.map toX).length (UInt8.ofNat (65+ob.cls))=cE im.classes im.bodies x.b 5 ob.cls:=by
    rw[List.length_map]
    exact gV h.fit.wf.cls b5 (fun b' hb'=>by
     rcases(h.fit.wf.bod b' hb').cls with⟨q1,_⟩ | ⟨q1,q2,q3,_⟩
     ·exact Or.inl q1
     ·exact Or.inr ⟨q1,by omega,q3⟩) x.b im.classes.length 5 ob.cls a6 a6 (by omega)
   have a4:s.cls k=ob.cls:=(Ev.at hk).1;rw[a4]at c1;obtain⟨q,hq⟩: ∃q:Nat,cE im.classes im.bodies x.b 5 ob.cls=q:=⟨(cE im.classes im.bodies x.b 5 ob.cls).toNat,by omega⟩;have a1:(aK x).num=x.b:=rfl;rw[a1,b2,hq]at a0;have a2:im.bodies[q]?=some (ba im x k s):=by rw[hq]at c1;exact c1
   have e0:=h.fit.wf.bod _ c2;obtain⟨tl,c6⟩:=h.fit.lc _ c2 c4
   have b0:L.length=im.bodies.length:=by
    have:=congrArg List.length hLT;rw[List.length_map,h.fit.len]at this;exact this
   have b6:q<L.length:=by rw[b0];exact(List.getElem?_eq_some_iff.1 a2).1
   refine(AP hM x.b (.o k) (cM f.stk) q base (ba im x k s) L L[q] h.tx hXT hLT a2 (List.getElem?_eq_getElem b6) e0.loc.1 (by rw[c6];simp) (by have:=h.fit.wf.nb;omega) (by omega) a0).mono ?_;rintro en w1 ⟨rfl,r',b1⟩;refine⟨0,rfl,?_⟩
   have e1:Sp.stepX im inp T cells x f fs s= .go ⟨⟨q,0,[],aR (ba im x k s) [.o k,cM f.stk]⟩::{f with stk:=fY f.stk}::fs,s⟩:=by
    simp only[Sp.stepX,ho,e,a4,hq];simp;omega
   rw[e1];exact⟨rfl,_,_,_,_,_,cn,_,by omega,b1⟩
theorem zI (h:At w0 w im T mb tx tv bw cells ans inp r rs f fs s vo vb gs fv cn sn b x st l) (ht:dw w0) (h40:inp.size≤40) (h4:s.heap.length≤4000) (hol:s.out.length≤90000) (hcn:cn≤100000) (base:Nat) (L:List (Nat×List St)) (hXT:el w0 base tv L) (hLT:L.map (·.2)=T):
  Calls Tryz.prog 88 #[.pointer (some ⟨mb,0,none⟩)] w (fun en w'=> ∃e,en= .returned (.int .i64 e)∧dr w0 im T mb tx tv bw cells ans inp cn (Sp.stepX im inp T cells x f fs s) e w'):=by
 have a0:=h.wx.op;simp[da]at a0
 by_cases h107:x.op.toNat=107
 ·exact BW h h107
 by_cases h114:x.op.toNat=114
 ·exact BY h h40 h114
 by_cases h119:x.op.toNat=119
 ·exact BZ h ht hol h119
 by_cases h122:x.op.toNat=122
 ·exact BX h h122
 by_cases h100:x.op.toNat=100
 ·exact B0 h h100
 by_cases h108:x.op.toNat=108
 ·exact B4 h h108
 by_cases h115:x.op.toNat=115
 ·exact B5 h h115
 by_cases h106:x.op.toNat=106
 ·exact B1 h h106
 by_cases h102:x.op.toNat=102
 ·exact B3 h h102
 by_cases h101:x.op.toNat=101
 ·exact B6 h h101
 by_cases h110:x.op.toNat=110
 ·exact Cb h h4 hcn h110
 by_cases h120:x.op.toNat=120
 ·exact B9 h h4 h120
 by_cases h103:x.op.toNat=103
 ·exact B7 h h4 h103
 by_cases h112:x.op.toNat=112
 ·exact B8 h h4 h112
 by_cases h99:x.op.toNat=99
 ·exact Cc h h4 base L hXT hLT h99
 by_cases h116:x.op.toNat=116
 ·exact Ca h h116
 exact uR h (by omega)
theorem Cd (hM:McQ w0 w im T mb tx tv bw cells ans inp (r::rs) (f::fs) s vo vb gs fv cn sn) (hT:dk w0 tx im) (hF:Fit im T) {n:Nat} (hm:MTn im T f fs s (n+1)) (ht:dw w0) (h40:inp.size≤40) (hcn:cn≤100000) (base:Nat) (L:List (Nat×List St)) (hXT:el w0 base tv L) (hLT:L.map (·.2)=T):
  Calls Tryz.prog 88 #[.pointer (some ⟨mb,0,none⟩)] w (fun en w'=> ∃e,en= .returned (.int .i64 e)∧dr w0 im T mb tx tv bw cells ans inp cn (fZ im inp T cells ⟨f::fs,s⟩) e w')∧
  match fZ im inp T cells ⟨f::fs,s⟩with
  | .go m=> ∃f' r',m.fr=f'::r'∧MTn im T f' r' m.ev n
  | .bad e o=>6≤e∧e≤10∧o=s.out
  | .fin v o=>(∃k,v= .i k∧ -2147483648≤k∧k<2147483648)∧o=s.out:=by
 obtain⟨b,x,st,l,a0,hC,he,hR⟩:=vw inp cells hF hm;rw[he];exact⟨zI ⟨hM,hT,hF,hm.mt,a0⟩ ht h40 (by have:=hm.hn;omega) (by have:=hm.on;omega) hcn base L hXT hLT,hR⟩
end
theorem xR {w0 w2 w':World} {im:Img} {T:cw} {mb tx bw cells q fb bl:Nat} {tv lv vl vi:Value} {ans:Int} {inp:ByteArray} {b:Bod} {p:Nat×List St} (hB:But (fun _=>False) w0 w2) (hw:XwC w2 bw tx inp 0 (.slice none 0 0) (.slice none 0 0) 0) (hbw:w0.heap.size≤bw) (hmb:w0.heap.size≤mb) (hm2:mb<w2.heap.size) (hne:bw≠mb)
  (g:Be w0 w2 w' mb tx tv bw cells none ans 1 im.sigs b p fb bl lv vl vi) (hq:im.bodies[q]?=some b) (hTq:T[q]?=some p.2):
  McQ w0 w' im T mb tx tv bw cells ans inp [⟨fb,bl,p.1,vl,vi,lv,.slice none 0 0,b,p.2⟩] [⟨q,0,[],aR b []⟩] ⟨[],0,0,[]⟩ (.slice none 0 0) (.slice none 0 0) [] [] 0 (fun _=>0):=by
 have h0:=hB.size;have a0:But (fun _=>False) w0 w':=hB.next g.but (fun k hk e=>by have e:k=mb:=e;omega);have a3: ∀k,lv.ownBlock=some k→w2.heap.size≤k:=fun k hk=>aA g.lo k hk
 have a1:w'.ownsRow w0.heap.size 168 2 lv (aR b []).length (au (aR b [])):=by
  have e:aR b []=b.locals.map cC:=by simp[aR]
  rw[e,List.length_map];exact World.ownsRow.mono g.lo h0
 have a2:bw<w2.heap.size:=ae hw;have hF:FrM w0 w' im T none 1 ⟨fb,bl,p.1,vl,vi,lv,.slice none 0 0,b,p.2⟩ ⟨q,0,[],aR b []⟩:=⟨hq,hTq,g.fr,g.lb,a1,tr _ _,g.bt,g.it,g.tb,fun k _ e=>(by cases e),Nat.le_trans h0 g.gf,Nat.le_trans h0 g.gl⟩;refine⟨⟨a0,?_,⟨rfl,Or.inl ⟨rfl,rfl⟩⟩,⟨rfl,Or.inl ⟨rfl,rfl⟩⟩,rfl,rfl,fun k o g' v a=>(by simp at a),fun j k g' a=>(by simp at a),fun k hk=> ?_,fun k hk=> ?_,fun j k v v' g' a=>(by simp at a),by omega,fun k=>(by omega)⟩,g.mc,⟨hF,trivial,fun k _ q' hq'=>(by cases hq')⟩,hmb⟩
 ·have:((min 0 inp.size:Nat):Int)=0:=by simp
  show XwC w' bw tx inp ((min 0 inp.size:Nat):Int) _ _ _
  rw[this];exact hw.but g.but (fun e=>hne e)
 ·rcases hk with e0|hk|hk|hk| ⟨v,hv,_⟩
  ·rw[e0];refine⟨hbw,fun ho=> ?_⟩;rcases ho with e| ⟨r,hr,ho⟩
   ·exact hne e
   ·simp only[List.mem_singleton]at hr;subst hr;rcases ho with e|e|e|e
    ·have:=g.gf;have e:bw=fb:=e;omega
    ·have:=g.gl;have e:bw=bl:=e;omega
    ·have:=a3 bw e;omega
    ·cases e
  ·cases hk
  ·cases hk
  ·cases hk
  ·cases hv
 ·rcases hk with rfl| ⟨r,hr,ho⟩
  ·exact⟨g.mc.lt,fun c fz e=>bv g.mc e (by decide) rfl⟩
  ·simp only[List.mem_singleton]at hr;subst hr;exact⟨hF.lt ho,fun c fz e=>hF.nb ho c fz e⟩
end
section
open Go Go.RowKit Sp
attribute [local go_sem ↓] Go.wp_at_zero Go.wp_at_succ
def Ce (w0:World) (im:Img) (T:cw) (mb tx:Nat) (tv:Value) (bw cells:Nat) (inp:ByteArray) (RV:List UInt8×Int×Nat) (n k:Nat) (e:Int) (w:World):Prop:=
 (e=0∧ ∃r rs f fs s vo vb gs fv,∃cn:Int,∃sn ans,cn≤k∧McQ w0 w im T mb tx tv bw cells ans inp (r::rs) (f::fs) s vo vb gs fv cn sn∧MTn im T f fs s n∧d8 im inp T cells n ⟨f::fs,s⟩=RV)∨
 (∃m rs fs s vo vb gs fv cn sn ans,6≤m∧m≤10∧e=bK m∧McQ w0 w im T mb tx tv bw cells ans inp rs fs s vo vb gs fv cn sn∧RV=(s.out,0,m))∨
 (e=0∧ ∃v s vo vb gs fv cn sn,McQ w0 w im T mb tx tv bw cells v inp [] [] s vo vb gs fv cn sn∧ -2147483648≤v∧v<2147483648∧RV=(s.out,v,0))
section
variable {w0 w:World} {im:Img} {T:cw} {mb tx:Nat} {tv:Value} {bw cells:Nat} {inp:ByteArray} {RV:List UInt8×Int×Nat}
theorem zJ {r:Fr} {rs:List Fr} {f:Fm} {fs:List Fm} {s:Ev} {vo vb:Value} {gs:List Nat} {fv:List Value} {cn:Int} {sn:Nat→Int} {ans:Int} {n k:Nat} (hT:dk w0 tx im) (hF:Fit im T) (ht:dw w0) (h40:inp.size≤40) (base:Nat) (L:List (Nat×List St)) (hXT:el w0 base tv L) (hLT:L.map (·.2)=T)
  (hk:k≤90000) (hcn:cn≤k) (hM:McQ w0 w im T mb tx tv bw cells ans inp (r::rs) (f::fs) s vo vb gs fv cn sn) (hm:MTn im T f fs s (n+1)) (hR:d8 im inp T cells (n+1) ⟨f::fs,s⟩=RV):
  Calls Tryz.prog 88 #[.pointer (some ⟨mb,0,none⟩)] w (fun en w'=> ∃e,en= .returned (.int .i64 e)∧Ce w0 im T mb tx tv bw cells inp RV n (k+1) e w'):=by
 obtain⟨hC,hO⟩:=Cd hM hT hF hm ht h40 (by omega) base L hXT hLT;refine hC.mono ?_;rintro en w1 ⟨e,rfl,hQ⟩;refine⟨e,rfl,?_⟩;unfold d8 at hR
 cases hsr:fZ im inp T cells ⟨f::fs,s⟩with
 |go m=>
  rw[hsr]at hQ hO hR;obtain⟨rfl,rs',vo',vb',gs',fv',cn',sn',hc,a0⟩:=hQ;obtain⟨f',r',he,a1⟩:=hO;have em:m=⟨f'::r',m.ev⟩:=by cases m;simp only at he;subst he;rfl
  rw[he]at a0
  match rs',a0 with
  | [],a0=>exact a0.fr.elim
  |q::rs',a0=>exact Or.inl ⟨rfl,q,rs',f',r',m.ev,vo',vb',gs',fv',cn',sn',ans,by omega,a0,a1,by rw[←em];exact hR⟩
 |bad m o=>
  rw[hsr]at hQ hO hR;obtain⟨rfl,rs',fs',s',vo',vb',gs',fv',cn',sn',ho,a0⟩:=hQ;exact Or.inr (Or.inl ⟨m,rs',fs',s',vo',vb',gs',fv',cn',sn',ans,hO.1,hO.2.1,rfl,a0,by rw[ho];exact hR.symm⟩)
 |fin v o=>
  rw[hsr]at hQ hO hR;obtain⟨rfl,s',vo',vb',gs',fv',cn',sn',ho,a0⟩:=hQ;obtain⟨⟨j,rfl,j1,j2⟩,_⟩:=hO;exact Or.inr (Or.inr ⟨rfl,j,s',vo',vb',gs',fv',cn',sn',a0,j1,j2,by rw[ho];exact hR.symm⟩)
end
theorem xS {w:World} {im:Img} {T:cw} {tx:Nat} {tv:Value} {cells fuel base:Nat} {inp:ByteArray} {L:List (Nat×List St)} (hT:dk w tx im) (hF:Fit im T) (hXT:el w base tv L) (hLT:L.map (·.2)=T) (hfu:fuel≤4000) {nb:Nat} (hnb:nb=im.bodies.length) {w2:World} (hw2:w2=(w.alloc (.cells #[.pointer (some ⟨tx,0,none⟩),.string inp,.int .i64 0,.slice none 0 0,.slice none 0 0,.int .i64 0] 211)).alloc (.cells #[.pointer (some ⟨tx,0,none⟩),tv,.pointer (some ⟨w.heap.size,0,none⟩),.int .i64 cells,.pointer none,.int .i32 0] 157)):
  Calls Tryz.prog 87 #[.pointer (some ⟨w.heap.size+1,0,none⟩),.int .i64 ((nb:Int)-1)] w2 (fun en w'=>en= .returned (.tuple #[])∧Ce w im T (w.heap.size+1) tx tv w.heap.size cells inp (kC im inp T cells fuel) fuel 0 0 w'):=by
 obtain⟨bs,m,a1,a5⟩:=hF.main;have a0:im.bodies.length=bs.length+1:=by rw[a1];simp
 have hq:im.bodies[bs.length]?=some m:=by rw[a1];simp
 have a4:L.length=im.bodies.length:=by rw[←hF.len,←hLT,List.length_map]
 obtain⟨p,hp⟩: ∃p,L[bs.length]?=some p:=⟨_,List.getElem?_eq_getElem (by omega)⟩;have a2:T[bs.length]?=some p.2:=by rw[←hLT,List.getElem?_map,hp];rfl
 have hB:But (fun _=>False) w w2:=by rw[hw2];exact(But.alloc _ _ _).trans (But.alloc _ _ _)
 have hW:XwC w2 w.heap.size tx inp 0 (.slice none 0 0) (.slice none 0 0) 0:=by
  rw[hw2];exact((But.alloc (fun _=>False) _ _).block _ (by simp) nF).trans (heap_alloc_new w _)
 have hM:MbB w2 (w.heap.size+1) tx tv w.heap.size cells none 0:=by
  rw[hw2];exact aq (by simp) _
 have e:((nb:Int)-1)=((bs.length:Nat):Int):=by omega
 rw[e];have a3:=hF.wf.bod m (List.mem_of_getElem? hq);refine(pV w w2 (w.heap.size+1) tx w.heap.size cells 0 base tv 0 im L bs.length m p none (Or.inl ⟨rfl,rfl⟩) (by omega) hM hB hT hXT hq hp ?_ (by have:=hF.wf.nb;omega)).mono ?_
 ·exact a3.loc.1
 ·rintro en w' ⟨rfl,fb,bl,lv,vl,vi,g⟩;refine⟨rfl,Or.inl ⟨rfl,_,_,_,_,_,_,_,_,_,0,_,_,by omega,xR hB hW (Nat.le_refl _) (by omega) hM.lt (by omega) g hq a2,⟨sp hF a0 hq,by simp;omega,by simp;omega,by simp;omega⟩,?_⟩⟩;unfold kC;rw[a0];simp[hq]
def CR (w0:World) (im:Img) (T:cw) (mb tx:Nat) (tv:Value) (bw cells:Nat) (inp:ByteArray) (RV:List UInt8×Int×Nat) (fuel mm:Nat) (vf vs:Value) (w:World):Prop:=
 ∃(k:Nat) (e:Int),vf= .int .i64 e∧vs= .int .i64 k∧k+mm=fuel∧Ce w0 im T mb tx tv bw cells inp RV mm k e w
theorem xT {m:Nat} (h:6≤m) (h':m≤10):bK m≠0∧2≤bK m∧bK m≤6:=by
 have:m=6∨m=7∨m=8∨m=9∨m=10:=by omega
 rcases this with rfl|rfl|rfl|rfl|rfl<;>decide
section
variable {w:World} {im:Img} {T:cw} {tx base:Nat} {tv:Value} {cells fuel:Nat} {inp:ByteArray} {L:List (Nat×List St)}
theorem zK (hT:dk w tx im) (hF:Fit im T) (ht:dw w) (h40:inp.size≤40) (hXT:el w base tv L) (hLT:L.map (·.2)=T) (hfu:fuel≤4000):
  Calls Tryz.prog 58 #[.pointer (some ⟨tx,0,none⟩),tv,.string inp,.int .i64 cells,.int .i64 fuel] w (fun en w'=>en= .returned (.tuple #[.string ⟨(kC im inp T cells fuel).1.toArray⟩,.int .i64 (kC im inp T cells fuel).2.1,.int .i64 (bK (kC im inp T cells fuel).2.2)])∧But (fun _=>False) w w'):=by
 obtain⟨ax,capx,rfl⟩:=aw hXT.1;have HB:=hid (fun(nb:Nat) (a3:nb=im.bodies.length) w2 hw2=>xS (inp:=inp) (cells:=cells) (w2:=w2) hT hF hXT hLT hfu a3 hw2);have HS:=hid (fun w' mb bw RV r rs f fs s vo vb gs fv cn sn ans n k=> @zJ w w' im T mb tx (.slice ax L.length capx) bw cells inp RV r rs f fs s vo vb gs fv cn sn ans n k hT hF ht h40 base L hXT hLT);obtain⟨v2,t2,b9,lb,hO,hm,hf⟩:=hT.bod;have a0:lb.length=im.bodies.length:=by have:=congrArg List.length hm;simpa using this
 have a1:=hid a0;clear a0;have a4:lb.length≤7:=by rw[a1.out];exact hF.wf.nb
 obtain⟨ao,capo,rfl⟩:=aw hO;have a6:=hid (fun Y=>xB tx inp Y);generalize a7:kC im inp T cells fuel=RV at*;have c6:=hid a7;clear a7 hO hm hf hT hF ht hXT hLT;generalize L.length=nL at*;generalize a3:lb.length=nb at*;clear a3
 go_in
 go_wp2_with fail;refine(a6.out _).mono ?_;rintro en w1 ⟨rfl,rfl⟩;go_wp2_with fail;refine(HB.out nb a1.out _ rfl).mono ?_;rintro en w3 ⟨rfl,hJ⟩;have HJ:=hid hJ;clear hJ HB a6 t2 a1 a4 b9;generalize b4:w.heap.size=bw at*;generalize bw+1=mb at*;clear b4;go_wp2_with fail
 go_loopg [14,15] fuel (fun mm vf vs wr=>CR w im T mb tx (.slice ax nL capx) bw cells inp RV fuel mm vf vs wr)
 case atStart=>exact⟨0,0,rfl,rfl,by omega,HJ.out⟩
 case round=>
  clear HJ;obtain⟨k,e,rfl,rfl,hk,hJ⟩:=hrel;rcases hJ with⟨rfl,r,rs,f,fs,s,vo,vb,gs,fv,cn,sn,ans,b5,hM,hm,hR⟩ | ⟨m,rs,fs,s,vo,vb,gs,fv,cn,sn,ans,h6,b3,rfl,hM,hR⟩ | ⟨rfl,v,s,vo,vb,gs,fv,cn,sn,hM,v1,v2,hR⟩
  all_goals
   have c2:=hM.mc.c2;have c4:=hM.mc.c4;have c5:=hM.mc.c5;have d6:=hM.mc.lt;have HM:=hid hM;have HO:=hid (sV hM.wd.wd hM.wd.out);have HR:=hid hR;clear hM hR
  ·simp only[g8,iG,Option.map_some]at c4;rcases Nat.eq_zero_or_pos gk with h0|h0
   ·have a2: ¬(k:Int)<(fuel:Int):=by omega
    rw[h0]at HR;clear hm hk h0;go_wp2_with fail;refine HO.out.mono ?_;rintro en w4 ⟨rfl,rfl⟩;go_wp2_with fail;exact bodyPost_ret (v:= .tuple #[.string ⟨s.out.toArray⟩,.int .i64 0,.int .i64 1]) (by simp[results,Tryz.results58,go_sem]) rfl ⟨by rw[←HR.out];rfl,HM.out.wd.old⟩
   ·obtain⟨n,hn⟩: ∃n,gk=n+1:=⟨gk-1,by omega⟩;have a5:=hid hn;rw[hn]at HR hm;clear hn;have a2:(k:Int)<(fuel:Int):=by omega
    have b1:=hid hm;have b6:k≤90000:=by omega
    clear hm;go_wp2_with fail;refine(HS.out _ _ _ _ _ _ _ _ _ _ _ _ _ _ _ _ _ _ b6 b5 HM.out b1.out HR.out).mono ?_;rintro en w4 ⟨e,rfl,hJ⟩;have HJ:=hid hJ;clear hJ;go_wp2_with fail
    go_roundg n
    case measure=>have:=a5.out;omega
    case rel=>exact⟨k+1,e,rfl,by simp,by have:=a5.out;omega,HJ.out⟩
  ·obtain⟨e1,e2,e3⟩:=xT h6 b3;generalize hE:bK m=E at*;have HE:=hid hE;have b0:(E==0)=false:=by simp[e1]
   clear hE hk;obtain⟨cu,a8⟩: ∃cu,iG (g8 rs)= .pointer cu:=⟨_,rfl⟩;rw[a8]at c4;clear a8 e1
   by_cases a2:(k:Int)<(fuel:Int)<;>rcases cu with _|cu
   all_goals
    go_wp2_with fail;refine HO.out.mono ?_;rintro en w4 ⟨rfl,rfl⟩;go_wp2_with fail;exact bodyPost_ret (v:= .tuple #[.string ⟨s.out.toArray⟩,.int .i64 0,.int .i64 E]) (by simp[results,Tryz.results58,go_sem]) rfl ⟨by rw[HR.out,←HE.out],HM.out.wd.old⟩
  ·simp only[g8,iG,Option.map_none]at c4;have b2:=hid (fun n=>sV (HM.out.new (But.drewN _ wr n)).wd.wd (HM.out.new (But.drewN _ wr n)).wd.out);clear hk HO
   by_cases a2:(k:Int)<(fuel:Int)
   all_goals
    go_wp2_with fail
    go_quiet (exact Calls.quiet_of_same (b2.out _))
    go_wp2_with fail;exact bodyPost_ret (v:= .tuple #[.string ⟨s.out.toArray⟩,.int .i64 v,.int .i64 0]) (by simp[results,Tryz.results58,go_sem]) rfl ⟨by rw[HR.out];rfl,HM.out.wd.old.trans (But.drewN _ _ _)⟩
end
theorem tA (s inp:ByteArray) (cells fuel:Int) (w:World) (hmax:s.size≤maxLen) (htab:dw w):
  Calls Tryz.prog 32 #[.string s,.string inp,.int .i64 cells,.int .i64 fuel] w fun en w'=>en= .returned (.tuple #[.string ⟨(ii s inp cells fuel).1.toArray⟩,.int .i64 (ii s inp cells fuel).2.1,.int .i64 (ii s inp cells fuel).2.2])∧But (fun _=>False) w w':=by
 obtain⟨RR,a0⟩: ∃RR,ii s inp cells fuel=RR:=⟨_,rfl⟩;rw[a0]
 by_cases hg:40<inp.size∨cells<0∨100<cells∨fuel<0∨4000<fuel
 ·have a1:RR=([],0,1):=by rw[←a0];unfold ii;rw[if_pos hg]
  subst a1;clear a0;have a8:40<(inp.size:Int)∨(¬40<(inp.size:Int)∧cells<0)∨(¬40<(inp.size:Int)∧ ¬cells<0∧100<cells)∨(¬40<(inp.size:Int)∧ ¬cells<0∧ ¬100<cells∧fuel<0)∨(¬40<(inp.size:Int)∧ ¬cells<0∧ ¬100<cells∧ ¬fuel<0∧4000<fuel):=by omega
  clear hg;rcases a8 with g| ⟨g,g2⟩ | ⟨g,g2,g3⟩ | ⟨g,g2,g3,g4⟩ | ⟨g,g2,g3,g4,g5⟩
  all_goals
   go_in
   go_wp2_with fail;exact bodyPost_ret (v:= .tuple #[.string ⟨#[]⟩,.int .i64 0,.int .i64 1]) (by simp[results,Tryz.results32,go_sem]) rfl ⟨rfl,But.refl _ _⟩
 ·obtain⟨fu,rfl⟩: ∃fu:Nat,fuel=fu:=⟨fuel.toNat,by omega⟩;obtain⟨ce,rfl⟩: ∃ce:Nat,cells=ce:=⟨cells.toNat,by omega⟩;have g1: ¬40<(inp.size:Int):=by omega
  have g2: ¬(ce:Int)<0:=by omega
  have g3: ¬100<(ce:Int):=by omega
  have g4: ¬(fu:Int)<0:=by omega
  have g5: ¬4000<(fu:Int):=by omega
  have key:Calls Tryz.prog 36 #[.string s] w fun en w'=>But (fun _=>False) w w'∧((∃(e:Nat) (p:Int),en= .returned (.agg #[.int .i64 e,.int .i64 p,.pointer none,.slice none 0 0])∧0<e∧RR=([],0,e))∨ ∃im T g ao n cap,en= .returned (.agg #[.int .i64 0,.int .i64 0,.pointer (some ⟨g,0,none⟩),.slice ao n cap])∧Fit im T∧dk w' g im∧(∃l,l.length=n∧l.map (·.2)=T∧el w' w.heap.size (.slice ao n cap) l)∧RR=kC im inp T ce fu):=by
   refine(iX s w hmax).mono ?_;rintro en w' ⟨hB,hE⟩;refine⟨hB,?_⟩;unfold jn at hE;unfold ii at a0;rw[if_neg hg]at a0
   cases hl:ee s with
   |error e=>
    rw[hl]at hE a0;obtain⟨e,p⟩:=e;exact Or.inl ⟨e,p,hE,(wh hl).1,a0.symm⟩
   |ok im=>
    rw[hl]at hE a0;simp only at hE a0
    cases ht:eh im 0 im.bodies with
    |error k=>
     rw[ht]at hE a0;exact Or.inl ⟨4,k,hE,by omega,a0.symm⟩
    |ok T=>
     rw[ht]at hE a0;obtain⟨g,ao,cap,l,h1,h2,h3,h4⟩:=hE;exact Or.inr ⟨im,T,g,ao,l.length,cap,h1,Bu hl (yJ ht),h4,⟨l,rfl,h2,h3⟩,a0.symm⟩
  have HK:=hid key;clear key a0
  go_in
  go_wp2_with fail;refine HK.out.mono ?_;rintro en w1 ⟨a2,a7⟩;clear HK;rcases a7 with⟨e,p,rfl,he,rfl⟩ | ⟨im,T,g,ao,n,cap,rfl,hF,a4,a5,a1⟩
  ·have b1:((e:Int)!=0)=true:=by rw[bne_iff_ne];omega
   go_wp2_with fail
   go_quiet (fail)
   go_wp2_with fail;exact bodyPost_ret (v:= .tuple #[.string ⟨#[]⟩,.int .i64 0,.int .i64 e]) (by simp[results,Tryz.results32,go_sem]) rfl ⟨rfl,(a2.trans (But.alloc _ _ _)).trans (But.drewN _ _ _)⟩
  ·have HE:Hid (∀ob,Calls Tryz.prog 58 #[.pointer (some ⟨g,0,none⟩),.slice ao n cap,.string inp,.int .i64 ce,.int .i64 fu] (w1.alloc ob) fun en w'=>en= .returned (.tuple #[.string ⟨(kC im inp T ce fu).1.toArray⟩,.int .i64 (kC im inp T ce fu).2.1,.int .i64 (bK (kC im inp T ce fu).2.2)])∧But (fun _=>False) (w1.alloc ob) w'):=fun ob=>by
    obtain⟨l,hl,b0,hX⟩:=a5;have hA:But (fun _=>False) w1 (w1.alloc ob):=But.alloc _ _ _;exact zK (a4.but hA) hF ((htab.but a2).but hA) (by omega) (hX.but hA) b0 (by omega)
   have a3:=yK inp ce hF (fu:=fu) (by omega);rw[←a1]at HE a3;have HV:=hid a3;clear a4 a1 a3 a5 hF;obtain⟨o,v,e⟩:=RR;dsimp only at HE HV;go_wp2_with fail;refine(HE.out _).mono ?_;rintro en w2 ⟨rfl,a6⟩;clear HE;go_wp2_with fail;refine(qT e HV.out w2).mono ?_;rintro en w3 ⟨rfl,rfl⟩;go_wp2_with fail;exact bodyPost_ret (v:= .tuple #[.string ⟨o.toArray⟩,.int .i64 v,.int .i64 e]) (by simp[results,Tryz.results32,go_sem]) rfl ⟨rfl,(a2.trans (But.alloc _ _ _)).trans a6⟩
end
end Go.Proofs.YtpfkkmacakjmbaaGreatDoor
