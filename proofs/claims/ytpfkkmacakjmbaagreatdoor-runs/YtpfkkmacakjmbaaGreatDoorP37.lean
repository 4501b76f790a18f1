import Derived.Test.YtpfkkmacakjmbaaGreatDoorP36
set_option maxRecDepth 100000
set_option maxHeartbeats 6400000
set_option linter.unusedSimpArgs false
set_option linter.unusedVariables false
namespace Go.Proofs.YtpfkkmacakjmbaaGreatDoor
section
open Go Go.RowKit Sp
section
variable {w0 w w':World} {im:Img} {T:bU} {mb tx:Nat} {tv:Value} {bw cells:Nat} {ans:Int} {inp:ByteArray} {r q:Fr} {rs:List Fr} {f g:Fm} {fs:List Fm} {s:Ev} {vo vb:Value} {gs:List Nat} {fv:List Value} {cn:Int} {sn:Nat→Int}
theorem zC (h:McQ w0 w im T mb tx tv bw cells ans inp (r::rs) (f::fs) s vo vb gs fv cn sn) (hpc:f.pc≤1000) (n:Nat) (u:V):
  Calls Tryz.prog 144 #[.pointer (some ⟨r.fb,0,none⟩),.int .i64 n,aJ u] w fun en w'=>en= .returned (.tuple #[])∧McQ w0 w' im T mb tx tv bw cells ans inp (r::rs) ({f with pc:=if xN u=0 then n else f.pc+1}::fs) s vo vb gs fv cn sn:=by
 have a0: ∀w',But (· =r.fb) w w'→w'.ownsRow w0.heap.size 168 2 r.sv f.stk.length (aA f.stk):=fun w' hB=>ar h.fr.1.st hB (fun k hk e=>aF h.fr.1.st h.fr.1.fr (by decide) (by have e:k=r.fb:=e;rw[←e];exact hk))
 unfold aJ
 by_cases hu:xN u=0
 ·rw[if_pos hu,hu];refine(zu _ _ _ _ _ _ _ _ _ _ _ h.fr.1.fr n (xO u)).mono ?_;rintro en w1 ⟨rfl,hB,hF⟩;exact⟨rfl,h.pushed (sv':=r.sv) (stk':=f.stk) (hB.mono (fun _ _ h=>Or.inl h)) hF (a0 _ hB) (Or.inl rfl)⟩
 ·rw[if_neg hu];refine(zv _ _ _ _ _ _ _ _ _ _ _ h.fr.1.fr hpc n (xN u) (xO u) hu).mono ?_;rintro en w1 ⟨rfl,hB,hF⟩;exact⟨rfl,h.pushed (sv':=r.sv) (stk':=f.stk) (hB.mono (fun _ _ h=>Or.inl h)) hF (a0 _ hB) (Or.inl rfl)⟩
theorem zD (h:McQ w0 w im T mb tx tv bw cells ans inp [r] [f] s vo vb gs fv cn sn) (u:V):
  Calls Tryz.prog 143 #[.pointer (some ⟨mb,0,none⟩),aJ u] w fun en w'=>en= .returned (.tuple #[])∧McQ w0 w' im T mb tx tv bw cells (xN u) inp [] [] s vo vb gs fv cn sn:=by
 unfold aJ;refine(xu _ _ _ _ _ _ _ _ _ _ _ _ _ _ _ _ h.mc h.fr.1.fr (xN u) (xO u)).mono ?_;rintro en w1 ⟨rfl,hB,hM⟩;refine⟨rfl,h.step hB (fun k e=>Or.inl e) hM trivial (fun k hk=> ?_)⟩;rcases hk with e| ⟨q,hq,_⟩
 ·exact Or.inl (Or.inl e)
 ·cases hq
theorem zE (h:McQ w0 w im T mb tx tv bw cells ans inp (r::q::rs) (f::g::fs) s vo vb gs fv cn sn) (h4:g.stk.length≤4000) (hpc:g.pc≤1000) (u:V):
  Calls Tryz.prog 143 #[.pointer (some ⟨mb,0,none⟩),aJ u] w fun en w'=>en= .returned (.tuple #[])∧ ∃q',McQ w0 w' im T mb tx tv bw cells ans inp (q'::rs) ({g with pc:=g.pc+1,stk:=g.stk++ [u]}::fs) s vo vb gs fv cn sn:=by
 obtain⟨hR,⟨hF,a1,a3⟩,a8⟩:=h.fr;refine(zw _ _ _ _ _ _ _ _ _ _ _ _ _ _ _ _ _ _ _ _ _ _ _ _ _ _ _ _ h.mc hR.fr hF.fr hF.st h4 hpc h.wd.old.size u).mono ?_;rintro en w1 ⟨rfl,hB,hM,sv',hf,ho,hs⟩;refine⟨rfl,{q with sv:=sv'},?_⟩;have a2: ∀k,(k=q.fb∨q.sv.ownBlock=some k)→jl q k:=fun k hk=>hk.elim Or.inl (fun e=>Or.inr (Or.inr (Or.inr e)))
 have a0:q∈r::q::rs:=List.mem_cons_of_mem _ (List.mem_cons_self ..)
 have hO: ∀k,jl {q with sv:=sv'} k→jl q k∨w.heap.size≤k:=fun k hk=>by
  rcases hk with e|e|e|e
  ·exact Or.inl (Or.inl e)
  ·exact Or.inl (Or.inr (Or.inl e))
  ·exact Or.inl (Or.inr (Or.inr (Or.inl e)))
  ·rcases hs with h1| ⟨j,h1,h2⟩
   ·exact Or.inl (Or.inr (Or.inr (Or.inr (h1▸e))))
   ·have e:sv'.ownBlock=some k:=e;rw[h1]at e
    cases e
    exact Or.inr h2
 have a4: ¬jl q mb:=h.off a0
 have a7: ∀k,q.lv.ownBlock=some k→ ¬(k=mb∨k=q.fb∨q.sv.ownBlock=some k):=fun k hk e=>by
  rcases e with e|e|e
  ·exact a4 (Or.inr (Or.inr (Or.inl (e▸hk))))
  ·exact aF hF.lo hF.fr (by decide) (e▸hk)
  ·exact hF.ap k hk e
 have a6: ¬(q.bl=mb∨q.bl=q.fb∨q.sv.ownBlock=some q.bl):=fun e=>by
  rcases e with e|e|e
  ·exact a4 (Or.inr (Or.inl e.symm))
  ·exact cr hF.lb hF.fr (by decide) e
  ·exact aF hF.st hF.lb (by decide) e
 refine h.step hB (fun k hk=> ?_) hM ⟨⟨hF.hb,hF.ht,hf,(hB.block q.bl (ae hF.lb) a6).trans hF.lb,ar hF.lo hB a7,ho,hF.bt,hF.it,hF.tb,fun k hk e=> ?_,hF.g1,hF.g2⟩,a1.but hB (fun p hp k hk e=> ?_),fun k hk p hp hk'=> ?_⟩ (fun k hk=> ?_)
 ·rcases hk with e|e
  ·exact Or.inl e
  ·exact Or.inr ⟨q,a0,a2 k e⟩
 ·have hk:q.lv.ownBlock=some k:=hk;rcases hs with h1| ⟨j,h1,h2⟩
  ·exact hF.ap k hk (h1▸e)
  ·have e:sv'.ownBlock=some k:=e;rw[h1]at e
   cases e
   have:=aU hF.lo _ hk;omega
 ·rcases e with e|e
  ·exact h.off (List.mem_cons_of_mem _ (List.mem_cons_of_mem _ hp)) (e▸hk)
  ·exact a3 k (a2 k e) p hp hk
 ·rcases hO k hk with h1|h1
  ·exact a3 k h1 p hp hk'
  ·obtain⟨ca,d,f',a5⟩:=a1.mem p hp;have:=a5.lt hk';omega
 ·rcases hk with e| ⟨p,hp,hk⟩
  ·exact Or.inl (Or.inl e)
  ·rcases List.mem_cons.1 hp with rfl|hp
   ·rcases hO k hk with h1|h1
    ·exact Or.inl (Or.inr ⟨q,a0,h1⟩)
    ·exact Or.inr h1
   ·exact Or.inl (Or.inr ⟨p,List.mem_cons_of_mem _ (List.mem_cons_of_mem _ hp),hk⟩)
end
theorem gy {a:Nat} (h:a<100):(UInt8.ofNat (65+a)).toNat=65+a:=by simp;omega
theorem lh {cs:List Cls} (hn:cs.length≤4) {a:Nat} (ha:a<cs.length):bQ (cs.map toX) (UInt8.ofNat (65+a))=bz cs a:=by
 have h1:=gy (a:=a) (by omega);have h2:aH cs.length (UInt8.ofNat (65+a))=true:=by simp[aH];omega
 unfold bQ;rw[List.length_map,h2,if_pos rfl,h1,show 65+a-65=a from by omega];simp[bz,toX,Option.map_map,Function.comp_def]
theorem ve {cs:List Cls} (hw:WfC cs) (hn:cs.length≤4) {a c:Nat} (ha:a<cs.length) (hc:c<cs.length):dt (cs.map toX) (UInt8.ofNat (65+a)) (cs.map toX).length (UInt8.ofNat (65+c))=bk cs 5 c a:=by
 have h1:=gy (a:=a) (by omega);have h2:=gy (a:=c) (by omega);have k1:kl (UInt8.ofNat (65+a))=a:=by simp[kl];omega
 have k2:kl (UInt8.ofNat (65+c))=c:=by simp[kl];omega
 rw[List.length_map,lX hw hn (by simp[aH];omega) (by simp[aH];omega) (by rw[k2];omega) (by omega),k1,k2]
theorem yN {cs:List Cls} {hp:List Ob} {t:UInt8} {v:V} (h:VT cs hp t v):ie hp.length v:=by
 cases v with
 |i n=>exact Or.inl ⟨n,rfl⟩
 |z=>exact Or.inr (Or.inl rfl)
 |o k=>
  obtain⟨_,ob,hk,_⟩:=h;exact Or.inr (Or.inr ⟨k,rfl,(List.getElem?_eq_some_iff.1 hk).1⟩)
theorem pg {im:Img} (hw:WfI im) {hp:List Ob} (hh:HT im.classes hp):jG (im.classes.map toX) hp:=by
 intro o ho;obtain⟨k,hk,rfl⟩:=List.getElem_of_mem ho;have a0:hp[k]?=some hp[k]:=List.getElem?_eq_getElem hk;have hc:=hh.cls k _ a0;have hn:=hw.nc;have hl:=hh.len k _ a0;have hf:=lh hw.nc hc;have h2:=jz hw.cls hw.nc (UInt8.ofNat (65+hp[k].cls));rw[hf]at h2;refine⟨⟨UInt8.ofNat (65+hp[k].cls),gy (by omega),by rw[hf,hl]⟩,by omega,fun u hu=> ?_⟩;obtain⟨j,hj,e⟩:=List.getElem_of_mem hu;exact yN (hh.fs k _ j u a0 (by rw[List.getElem?_eq_getElem hj,e]))
theorem ph {cs:List Cls} {hp:List Ob} {ts us:List UInt8} {vs:List V} (h:STk cs hp ts vs) (hu: ∀j:Nat,j<vs.length→us[j]?=ts[j]?): ∀v∈bX vs us,ie hp.length v:=by
 intro v hv;unfold bX at hv;obtain⟨⟨a,t⟩,hm,rfl⟩:=List.mem_map.1 hv;obtain⟨hz,ht⟩:=List.mem_filter.1 hm;obtain⟨j,hj,e⟩:=List.getElem_of_mem hz;have a0:(vs.zip us)[j]?=some (a,t):=by rw[List.getElem?_eq_getElem hj,e]
 rw[List.getElem?_zip_eq_some]at a0;have a1:j<vs.length:=(List.getElem?_eq_some_iff.1 a0.1).1;have h1:=h.at' j a a0.1;have h2:ts.getD j 0=t:=by rw[List.getD_eq_getElem?_getD,←hu j a1,a0.2];rfl
 rw[h2]at h1;exact yN (h1.not45 (by simpa using ht))
theorem r7 {im:Img} {T:bU} (hF:Fit im T) {hp:List Ob} {g:Fm} {b:Bod} {x:Ins} {s l st:List UInt8} (hb:im.bodies[g.q]?=some b) (hx:b.code[g.pc]?=some x) (hs:fx T g.q g.pc=some (s,l)) (hst:STk im.classes hp st g.stk) (hp1: ∀j:Nat,j<g.stk.length→s[j]?=st[j]?) (hlen:st.length≤s.length) (hlo:STk im.classes hp l g.loc):
  ((∃st lo,fx T g.q g.pc=some (st,lo))∧g.stk.length≤1000∧g.loc.length≤1000∧(∀t,T[g.q]?=some t→t.length≤100)∧ ∀u∈cK T g,ie hp.length u)∧g.pc≤100:=by
 obtain⟨t,ht,hG⟩:=hF.tab hb;have hw:=hF.wf.bod b (List.mem_of_getElem? hb);have a0:=hF.wt g.q b t hb ht;have hk:=(cm ht).1 hs;obtain⟨hz,a4⟩:=a0.2 g.pc s l hk;have hn:=jP t;have a1:=a0.1;have a2:=hw.len.2;have a3:g.pc<b.code.length:=(List.getElem?_eq_some_iff.1 hx).1;refine⟨⟨⟨s,l,hs⟩,by rw[hst.len];omega,by rw[hlo.len,hz.2.2];have:=hw.loc.1;omega,fun t' ht'=>by rw[ht]at ht';cases ht';omega,fun u hu=> ?_⟩,by omega⟩;unfold cK at hu;rw[hs]at hu;rcases List.mem_append.1 hu with hu|hu
 ·exact ph hst hp1 u hu
 ·exact ph hlo (fun _ _=>rfl) u hu
theorem tu {s:List UInt8} {n j:Nat} (h:j<(s.take n).length):s[j]?=(s.take n)[j]?:=by
 rw[List.getElem?_take,if_pos (by rw[List.length_take]at h;omega)]
theorem xw {im:Img} {T:bU} (hF:Fit im T) {hp:List Ob} {b:Bod} {r:List Fm} (h:jh im T hp b r):va T hp.length r∧ ∀g∈r,g.pc≤100:=by
 induction h with
 |main b hb=>exact⟨fun f hf=>(by cases hf),fun f hf=>(by cases hf)⟩
 |call b g r bg x s l hb hg hx ho hm hs h2 hst hlo hr ih=>
  have hf:=r7 hF hg hx hs hst (fun j hj=>tu (by rw[←hst.len];exact hj)) (by rw[List.length_take];omega) hlo;refine⟨fun f' a0=> ?_,fun f' a0=> ?_⟩
  ·rcases List.mem_cons.1 a0 with rfl|a0
   ·exact hf.1
   ·exact ih.1 f' a0
  ·rcases List.mem_cons.1 a0 with rfl|a0
   ·exact hf.2
   ·exact ih.2 f' a0
theorem mo {im:Img} {T:bU} (hF:Fit im T) {f:Fm} {rest:List Fm} {s:Ev} (h:MT im T f rest s):va T s.heap.length (f::rest)∧ ∀g∈f::rest,g.pc≤100:=by
 obtain⟨b,x,st,l,hT,hC⟩:=h.top;have hf:=r7 hF hT.bd hT.ins hT.st hT.stk (fun _ _=>rfl) (Nat.le_refl _) hT.loc;have hc:=xw hF hC;refine⟨fun f' a0=> ?_,fun f' a0=> ?_⟩
 ·rcases List.mem_cons.1 a0 with rfl|a0
  ·exact hf.1
  ·exact hc.1 f' a0
 ·rcases List.mem_cons.1 a0 with rfl|a0
  ·exact hf.2
  ·exact hc.2 f' a0
theorem tT (n:Nat) (s:List V):(tkR n s).length≤s.length:=by
 unfold tkR ba cH
 split
 ·omega
 ·split<;>(rw[List.length_take];omega)
section
variable {w0 w w':World} {im:Img} {T:bU} {mb tx:Nat} {tv:Value} {bw cells:Nat} {ans:Int} {inp:ByteArray} {r:Fr} {rs:List Fr} {f:Fm} {fs:List Fm} {s:Ev} {vo vb:Value} {gs:List Nat} {fv:List Value} {cn:Int} {sn:Nat→Int}
theorem tU (psh:Bool) (h:McQ w0 w im T mb tx tv bw cells ans inp (r::rs) (f::fs) s vo vb gs fv cn sn) (hT:dk w0 tx im) (hcl:(im.classes.map toX).length≤100) (hsg:im.sigs.length≤100) (h4:f.stk.length≤4000) (hpc:f.pc≤1000) (h100:(aN im.sigs r.b).items.length≤100) (x:XIt) (hx:(aN im.sigs r.b).items[f.pc]?=some x) (nT:Nat) (hnT:(aE (im.classes.map toX) im.sigs x.op x.cls x.num (aN im.sigs r.b).ans).length=nT) (h2:nT≤2) (hl:nT≤f.stk.length) (hno:x.op.toNat≠99∧x.op.toNat≠116∧x.op.toNat≠106∧x.op.toNat≠102∧x.op.toNat≠108∧x.op.toNat≠115∧x.op.toNat≠110) (hly:match psh with|true=>(aI (im.classes.map toX) im.sigs x.op x.cls x.num (aN im.sigs r.b).locals).toNat≠0|false=>(aI (im.classes.map toX) im.sigs x.op x.cls x.num (aN im.sigs r.b).locals).toNat=0) (rr:R)
  (hD: ∀(P':Nat→Prop) X,WdQ P' w0 X bw tx inp s vo vb gs fv cn sn→Calls Tryz.prog 197 #[.pointer (some ⟨bw,0,none⟩),ek x,aJ (tkA nT f.stk),aJ (tkB nT f.stk)] X (ReW P' w0 X bw tx inp cn rr)):
  Calls Tryz.prog 88 #[.pointer (some ⟨mb,0,none⟩)] w (fun en w'=> ∃e,en= .returned (.int .i64 e)∧tS w0 im T mb tx tv bw cells ans inp rs {f with stk:=tkR nT f.stk} fs cn rr psh (.returned (.int .i64 e)) w'):=by
 subst hnT;obtain⟨n1,n2,n3,n4,n5,n6,n7⟩:=hno;refine il (fun e w'=>tS w0 im T mb tx tv bw cells ans inp rs {f with stk:=tkR _ f.stk} fs cn rr psh (.returned (.int .i64 e)) w') h hT hcl hsg h4 h100 x hx h2 hl (fun Y sv' hM=> .inl ⟨⟨n1,n2,n3,n4⟩,?_⟩);refine(zz psh hM hT hcl hsg (Nat.le_trans (tT _ _) h4) hpc x _ _ n5 n6 n7 hly rr (fun X hX=>hD _ _ (hM.wd.grown hX))).mono ?_;intro en w5 hp;have hp':=hp;obtain⟨u,e,s',vo',vb',gs',fv',sn',r',h1,h2,h3⟩:=hp;subst h2;exact⟨e,rfl,hp'⟩
end
end
section
open Go Go.RowKit Sp
attribute [local go_sem ↓] Go.wp_at_zero Go.wp_at_succ
section
variable {P:Nat→Prop} {w0 w w':World} {bw tx:Nat} {inp:ByteArray} {s:Ev} {vo vb:Value} {gs:List Nat} {fv:List Value} {cn:Int} {sn:Nat→Int} {l:List V}
theorem AM (h:WdQ P w0 w bw tx inp s vo vb gs fv cn sn) (u v:V) (pl n pn pc:Nat) (c:UInt8) (pa:Option Addr):
  Calls Tryz.prog 197 #[.pointer (some ⟨bw,0,none⟩),.agg #[.int .i64 pl,.int .u8 100,.int .u8 c.toNat,.int .i64 n,.slice pa pn pc],aJ u,aJ v] w (ReW P w0 w bw tx inp cn (.ok .z l s)):=by
 unfold aJ
 go_in
 go_wp2_with fail;exact eY Tryz.results197 rfl rfl rfl (aw (by simp) _) ⟨eE.but.mono (fun _ _ h=>h.elim),vo,vb,gs,fv,sn,rfl,h.new eE.but⟩
end
def dy (w0:World) (im:Img) (T:bU) (mb tx:Nat) (tv:Value) (bw cells:Nat) (ans:Int) (inp:ByteArray) (cn:Int) (sr:SR) (e:Int) (w':World):Prop:=match sr with
 | .go m=>e=0∧ ∃rs vo vb gs fv cn' sn,cn'≤cn+1∧McQ w0 w' im T mb tx tv bw cells ans inp rs m.fr m.ev vo vb gs fv cn' sn
 | .bad n o=>e=dF n∧ ∃rs fs s' vo vb gs fv cn' sn,s'.out=o∧McQ w0 w' im T mb tx tv bw cells ans inp rs fs s' vo vb gs fv cn' sn
 | .fin v o=>e=0∧ ∃s' vo vb gs fv cn' sn,s'.out=o∧McQ w0 w' im T mb tx tv bw cells (xN v) inp [] [] s' vo vb gs fv cn' sn
section
variable {w0 w w':World} {im:Img} {T:bU} {mb tx:Nat} {tv:Value} {bw cells:Nat} {ans:Int} {inp:ByteArray} {r:Fr} {rs:List Fr} {f:Fm} {fs:List Fm} {s:Ev} {vo vb:Value} {gs:List Nat} {fv:List Value} {cn:Int} {sn:Nat→Int} {b:Bod} {x:Ins} {st l:List UInt8}
structure At (w0 w:World) (im:Img) (T:bU) (mb tx:Nat) (tv:Value) (bw cells:Nat) (ans:Int) (inp:ByteArray) (r:Fr) (rs:List Fr) (f:Fm) (fs:List Fm) (s:Ev) (vo vb:Value) (gs:List Nat) (fv:List Value) (cn:Int) (sn:Nat→Int) (b:Bod) (x:Ins) (st l:List UInt8):Prop where
 mc:McQ w0 w im T mb tx tv bw cells ans inp (r::rs) (f::fs) s vo vb gs fv cn sn
 tx:dk w0 tx im
 fit:Fit im T
 mt:MT im T f fs s
 top:ox im T s.heap f b x st l
theorem At.rb (h:At w0 w im T mb tx tv bw cells ans inp r rs f fs s vo vb gs fv cn sn b x st l):r.b=b:=by
 have h1:=h.mc.fr.1.hb;rw[h.top.bd]at h1
 cases h1
 rfl
theorem At.hx (h:At w0 w im T mb tx tv bw cells ans inp r rs f fs s vo vb gs fv cn sn b x st l):(aN im.sigs r.b).items[f.pc]?=some (aK x):=by
 show(r.b.code.map aK)[f.pc]?=_
 rw[h.rb,List.getElem?_map,h.top.ins]
 rfl
theorem At.sml (h:At w0 w im T mb tx tv bw cells ans inp r rs f fs s vo vb gs fv cn sn b x st l):f.stk.length≤1000∧f.pc≤100:=
 ⟨((mo h.fit h.mt).1 f (List.mem_cons_self ..)).2.1,(mo h.fit h.mt).2 f (List.mem_cons_self ..)⟩
theorem At.hcl (h:At w0 w im T mb tx tv bw cells ans inp r rs f fs s vo vb gs fv cn sn b x st l):(im.classes.map toX).length≤100:=by rw[List.length_map];have:=h.fit.wf.nc;omega
theorem At.h100 (h:At w0 w im T mb tx tv bw cells ans inp r rs f fs s vo vb gs fv cn sn b x st l):(aN im.sigs r.b).items.length≤100:=by
 show(r.b.code.map aK).length≤100
 rw[h.rb,List.length_map];exact(h.fit.wf.bod b (List.mem_of_getElem? h.top.bd)).len.2
theorem dl {x:Ins} {n:Nat} (h:x.op.toNat=n):ek (aK x)= .agg #[.int .i64 x.pos,.int .u8 n,.int .u8 (aK x).cls.toNat,.int .i64 x.b,.slice none 0 0]:=by
 subst h
 rfl
def srP (f:Fm) (fs:List Fm) (stk:List V):R→SR
 | .ok v _ t=> .go ⟨f.on (stk++ [v])::fs,t⟩
 | .bad n o=> .bad n o
def srN (f:Fm) (fs:List Fm) (stk:List V):R→SR
 | .ok _ _ t=> .go ⟨f.on stk::fs,t⟩
 | .bad n o=> .bad n o
theorem At.doP (h:At w0 w im T mb tx tv bw cells ans inp r rs f fs s vo vb gs fv cn sn b x st l) (nT:Nat) (hnT:(aE (im.classes.map toX) im.sigs x.op (aK x).cls x.b (aN im.sigs r.b).ans).length=nT) (h2:nT≤2) (hl:nT≤f.stk.length) (hno:x.op.toNat≠99∧x.op.toNat≠116∧x.op.toNat≠106∧x.op.toNat≠102∧x.op.toNat≠108∧x.op.toNat≠115∧x.op.toNat≠110) (hly:(aI (im.classes.map toX) im.sigs x.op (aK x).cls x.b (aN im.sigs r.b).locals).toNat≠0) (rr:R)
  (hD: ∀(P':Nat→Prop) X,WdQ P' w0 X bw tx inp s vo vb gs fv cn sn→Calls Tryz.prog 197 #[.pointer (some ⟨bw,0,none⟩),ek (aK x),aJ (tkA nT f.stk),aJ (tkB nT f.stk)] X (ReW P' w0 X bw tx inp cn rr))
  (sr:SR) (hsr:srP f fs (tkR nT f.stk) rr=sr):
  Calls Tryz.prog 88 #[.pointer (some ⟨mb,0,none⟩)] w (fun en w'=> ∃e,en= .returned (.int .i64 e)∧dy w0 im T mb tx tv bw cells ans inp cn sr e w'):=by
 refine(tU true h.mc h.tx h.hcl (by have:=h.fit.wf.ns;omega) (by have:=h.sml.1;omega) (by have:=h.sml.2;omega) h.h100 (aK x) h.hx nT hnT h2 hl hno hly rr hD).mono ?_;rintro en w1 ⟨e,rfl,u,e',s',vo',vb',gs',fv',sn',r',h1,a0,h3⟩;refine⟨e,rfl,?_⟩;injection a0 with a0;injection a0 with _ a0;subst a0
 cases rr with
 |ok v _ t=>
  obtain⟨rfl,rfl,rfl⟩:=h1;rw[←hsr];exact⟨rfl,_,vo',vb',gs',fv',cn,sn',by omega,h3⟩
 |bad n o=>
  obtain⟨rfl,rfl,h5⟩:=h1;rw[←hsr];exact⟨rfl,_,_,s',vo',vb',gs',fv',cn,sn',h5,h3⟩
theorem zF (h:At w0 w im T mb tx tv bw cells ans inp r rs f fs s vo vb gs fv cn sn b x st l) (ho:x.op.toNat=107):
  Calls Tryz.prog 88 #[.pointer (some ⟨mb,0,none⟩)] w (fun en w'=> ∃e,en= .returned (.int .i64 e)∧dy w0 im T mb tx tv bw cells ans inp cn (Sp.stepX im inp T cells x f fs s) e w'):=by
 have a0:=(h.fit.wf.bod b (List.mem_of_getElem? h.top.bd)).code x (List.mem_of_getElem? h.top.ins);refine h.doP 0 (by simp[aE,ho]) (by omega) (by omega) (by omega) (by simp[aI,ho]) (.ok (.i x.b) [] s) (fun P' X hX=> ?_) _ (by simp[srP,Sp.stepX,ho,tkR]);rw[dl ho];exact AD hX _ _ _ _ _ _ _ _ a0.num
theorem zG (h:At w0 w im T mb tx tv bw cells ans inp r rs f fs s vo vb gs fv cn sn b x st l) (ho:x.op.toNat=122):
  Calls Tryz.prog 88 #[.pointer (some ⟨mb,0,none⟩)] w (fun en w'=> ∃e,en= .returned (.int .i64 e)∧dy w0 im T mb tx tv bw cells ans inp cn (Sp.stepX im inp T cells x f fs s) e w'):=by
 refine h.doP 0 (by simp[aE,ho]) (by omega) (by omega) (by omega) (by simp[aI,ho]) (.ok .z [] s) (fun P' X hX=> ?_) _ (by simp[srP,Sp.stepX,ho,tkR]);rw[dl ho];exact AE hX _ _ _ _ _ _ _ _
theorem zH (h:At w0 w im T mb tx tv bw cells ans inp r rs f fs s vo vb gs fv cn sn b x st l) (h40:inp.size≤40) (ho:x.op.toNat=114):
  Calls Tryz.prog 88 #[.pointer (some ⟨mb,0,none⟩)] w (fun en w'=> ∃e,en= .returned (.int .i64 e)∧dy w0 im T mb tx tv bw cells ans inp cn (Sp.stepX im inp T cells x f fs s) e w'):=by
 refine h.doP 0 (by simp[aE,ho]) (by omega) (by omega) (by omega) (by simp[aI,ho]) (.ok (.i (eR inp s.read)) [] {s with read:=s.read+1}) (fun P' X hX=> ?_) _ (by simp[srP,Sp.stepX,ho,tkR]);rw[dl ho];exact AF hX h40 _ _ _ _ _ _ _ _
end
end
section
open Go Go.RowKit Sp
section
variable {w0 w w':World} {im:Img} {T:bU} {mb tx:Nat} {tv:Value} {bw cells:Nat} {ans:Int} {inp:ByteArray} {r:Fr} {rs:List Fr} {f:Fm} {fs:List Fm} {s:Ev} {vo vb:Value} {gs:List Nat} {fv:List Value} {cn:Int} {sn:Nat→Int} {b:Bod} {x:Ins} {st l:List UInt8}
theorem At.doN (h:At w0 w im T mb tx tv bw cells ans inp r rs f fs s vo vb gs fv cn sn b x st l) (nT:Nat) (hnT:(aE (im.classes.map toX) im.sigs x.op (aK x).cls x.b (aN im.sigs r.b).ans).length=nT) (h2:nT≤2) (hl:nT≤f.stk.length) (hno:x.op.toNat≠99∧x.op.toNat≠116∧x.op.toNat≠106∧x.op.toNat≠102∧x.op.toNat≠108∧x.op.toNat≠115∧x.op.toNat≠110) (hly:(aI (im.classes.map toX) im.sigs x.op (aK x).cls x.b (aN im.sigs r.b).locals).toNat=0) (rr:R)
  (hD: ∀(P':Nat→Prop) X,WdQ P' w0 X bw tx inp s vo vb gs fv cn sn→Calls Tryz.prog 197 #[.pointer (some ⟨bw,0,none⟩),ek (aK x),aJ (tkA nT f.stk),aJ (tkB nT f.stk)] X (ReW P' w0 X bw tx inp cn rr))
  (sr:SR) (hsr:srN f fs (tkR nT f.stk) rr=sr):
  Calls Tryz.prog 88 #[.pointer (some ⟨mb,0,none⟩)] w (fun en w'=> ∃e,en= .returned (.int .i64 e)∧dy w0 im T mb tx tv bw cells ans inp cn sr e w'):=by
 refine(tU false h.mc h.tx h.hcl (by have:=h.fit.wf.ns;omega) (by have:=h.sml.1;omega) (by have:=h.sml.2;omega) h.h100 (aK x) h.hx nT hnT h2 hl hno hly rr hD).mono ?_;rintro en w1 ⟨e,rfl,u,e',s',vo',vb',gs',fv',sn',r',h1,a0,h3⟩;refine⟨e,rfl,?_⟩;injection a0 with a0;injection a0 with _ a0;subst a0
 cases rr with
 |ok v _ t=>
  obtain⟨rfl,rfl,rfl⟩:=h1;rw[←hsr];exact⟨rfl,_,vo',vb',gs',fv',cn,sn',by omega,h3⟩
 |bad n o=>
  obtain⟨rfl,rfl,h5⟩:=h1;rw[←hsr];exact⟨rfl,_,_,s',vo',vb',gs',fv',cn,sn',h5,h3⟩
theorem At.eff (h:At w0 w im T mb tx tv bw cells ans inp r rs f fs s vo vb gs fv cn sn b x st l): ∃st' l',cy im.classes im.sigs b x st l=some (st',l'):=by
 obtain⟨t,ht,hG⟩:=h.fit.tab h.top.bd;obtain⟨st',l',he,_,_⟩:=hG.go f.pc x st l h.top.ins ((cm ht).1 h.top.st);exact⟨st',l',he⟩
theorem zI (h:At w0 w im T mb tx tv bw cells ans inp r rs f fs s vo vb gs fv cn sn b x st l) (ht:gv w0) (hol:s.out.length≤90000) (ho:x.op.toNat=119):
  Calls Tryz.prog 88 #[.pointer (some ⟨mb,0,none⟩)] w (fun en w'=> ∃e,en= .returned (.int .i64 e)∧dy w0 im T mb tx tv bw cells ans inp cn (Sp.stepX im inp T cells x f fs s) e w'):=by
 obtain⟨st',l',he⟩:=h.eff;obtain⟨hf,_,_⟩:=aW (by omega) (by omega) he;simp[aP,aL,ho]at hf;obtain⟨f1,f2⟩:=de hf;obtain⟨n,hn,n1,n2⟩:=(h.top.stk.t1 f1).toInt h.fit.wf.cls h.fit.wf.nc h.mt.ht f2;have hl:=h.top.stk.len;refine h.doN 1 (by simp[aE,ho]) (by omega) (by omega) (by omega) (by simp[aI,ho]) (.ok (.i 0) [] (s.say n)) (fun P' X hX=> ?_) _ (by simp[srN,Sp.stepX,ho,tkR,hn,V.N]);rw[dl ho];simp only[tkA,tkB,hn];exact AG hX ht n n1 n2 hol _ _ _ _ _ _ _
theorem zJ (h:At w0 w im T mb tx tv bw cells ans inp r rs f fs s vo vb gs fv cn sn b x st l) (ho:x.op.toNat=100):
  Calls Tryz.prog 88 #[.pointer (some ⟨mb,0,none⟩)] w (fun en w'=> ∃e,en= .returned (.int .i64 e)∧dy w0 im T mb tx tv bw cells ans inp cn (Sp.stepX im inp T cells x f fs s) e w'):=by
 obtain⟨st',l',he⟩:=h.eff;obtain⟨k,hk,_,_⟩:=dH (by omega) (by omega) he;obtain⟨_,q1,_⟩:=dK (by omega) hk;have hl:=h.top.stk.len;refine h.doN 1 (by simp[aE,ho]) (by omega) (by omega) (by omega) (by simp[aI,ho]) (.ok .z [] s) (fun P' X hX=> ?_) _ (by simp[srN,Sp.stepX,ho,tkR]);rw[dl ho];exact AM hX _ _ _ _ _ _ _ _
theorem tw (h:At w0 w im T mb tx tv bw cells ans inp r rs f fs s vo vb gs fv cn sn b x st l) (ho:x.op.toNat=43∨x.op.toNat=45∨x.op.toNat=42∨x.op.toNat=60∨x.op.toNat=61∨x.op.toNat=47):
  Calls Tryz.prog 88 #[.pointer (some ⟨mb,0,none⟩)] w (fun en w'=> ∃e,en= .returned (.int .i64 e)∧dy w0 im T mb tx tv bw cells ans inp cn (Sp.stepX im inp T cells x f fs s) e w'):=by
 obtain⟨st',l',he⟩:=h.eff;obtain⟨hf,_,_⟩:=aW (by omega) (by omega) he
 have hp:aP im.classes im.sigs b x=[105,105]:=by
  rcases ho with h'|h'|h'|h'|h'|h'<;>simp[aP,aL,h']
 rw[hp]at hf;obtain⟨f1,f2,f3⟩:=eh hf;obtain⟨n,hn,n1,n2⟩:=(h.top.stk.t2 f1).toInt h.fit.wf.cls h.fit.wf.nc h.mt.ht f2;obtain⟨m,hm,m1,m2⟩:=(h.top.stk.t1 (by omega)).toInt h.fit.wf.cls h.fit.wf.nc h.mt.ht f3;have hl:=h.top.stk.len
 have a1:aE (im.classes.map toX) im.sigs x.op (aK x).cls x.b (aN im.sigs r.b).ans=[105,105]:=by
  unfold aE;rw[if_neg (by omega),if_neg (by omega),if_pos (by omega)]
 have a0:aI (im.classes.map toX) im.sigs x.op (aK x).cls x.b (aN im.sigs r.b).locals=105:=by
  unfold aI;rw[if_pos (by omega)]
 refine h.doP 2 (by rw[a1];rfl) (by omega) (by omega) (by omega) (by rw[a0];decide) (eS x.op.toNat n m [] s) (fun P' X hX=> ?_) _ ?_
 ·rw[dl rfl];simp only[tkA,tkB,hn,hm];exact AJ hX x.op.toNat ho n m n1 n2 m1 m2 _ _ _ _ _ _
 ·have e1:Sp.stepX im inp T cells x f fs s=match eS x.op.toNat (dP f.stk).N (aX f.stk).N [] s with
   | .bad e o=> .bad e o
   | .ok v _ s=> .go ⟨f.on (cH f.stk++ [v])::fs,s⟩:=by
   rcases ho with h'|h'|h'|h'|h'|h'<;>simp[Sp.stepX,h']<;>rfl
  rw[e1,hn,hm];simp only[V.N,tkR]
  cases eS x.op.toNat n m [] s<;>rfl
theorem At.nsg (h:At w0 w im T mb tx tv bw cells ans inp r rs f fs s vo vb gs fv cn sn b x st l):im.sigs.length≤100:=by have:=h.fit.wf.ns;omega
theorem zK (h:At w0 w im T mb tx tv bw cells ans inp r rs f fs s vo vb gs fv cn sn b x st l) (ho:x.op.toNat=106):
  Calls Tryz.prog 88 #[.pointer (some ⟨mb,0,none⟩)] w (fun en w'=> ∃e,en= .returned (.int .i64 e)∧dy w0 im T mb tx tv bw cells ans inp cn (Sp.stepX im inp T cells x f fs s) e w'):=by
 have a0:(aE (im.classes.map toX) im.sigs (aK x).op (aK x).cls (aK x).num (aN im.sigs r.b).ans).length=0:=by simp[aE,aK,ho]
 refine il (fun e w'=>dy w0 im T mb tx tv bw cells ans inp cn (Sp.stepX im inp T cells x f fs s) e w') h.mc h.tx h.hcl h.nsg (by have:=h.sml.1;omega) h.h100 (aK x) h.hx (by omega) (by omega) (fun _ _ _=> .inr (.inr (.inr (.inr ⟨ho,fun Y sv' hM=> ?_⟩))));have e1:Sp.stepX im inp T cells x f fs s= .go ⟨{f with pc:=x.b}::fs,s⟩:=by simp[Sp.stepX,ho]
 rw[a0]at hM;rw[e1];exact⟨rfl,_,_,_,_,_,cn,_,by omega,hM⟩
theorem zL (h:At w0 w im T mb tx tv bw cells ans inp r rs f fs s vo vb gs fv cn sn b x st l) (ho:x.op.toNat=102):
  Calls Tryz.prog 88 #[.pointer (some ⟨mb,0,none⟩)] w (fun en w'=> ∃e,en= .returned (.int .i64 e)∧dy w0 im T mb tx tv bw cells ans inp cn (Sp.stepX im inp T cells x f fs s) e w'):=by
 obtain⟨st',l',he⟩:=h.eff;obtain⟨hf,_,_⟩:=aW (by omega) (by omega) he;simp[aP,aL,ho]at hf;obtain⟨f1,f2⟩:=de hf;obtain⟨n,hn,n1,n2⟩:=(h.top.stk.t1 f1).toInt h.fit.wf.cls h.fit.wf.nc h.mt.ht f2;have hl:=h.top.stk.len;have a2:(aE (im.classes.map toX) im.sigs (aK x).op (aK x).cls (aK x).num (aN im.sigs r.b).ans).length=1:=by simp[aE,aK,ho]
 refine il (fun e w'=>dy w0 im T mb tx tv bw cells ans inp cn (Sp.stepX im inp T cells x f fs s) e w') h.mc h.tx h.hcl h.nsg (by have:=h.sml.1;omega) h.h100 (aK x) h.hx (by omega) (by omega) (fun Y sv' hM=> .inr (.inr (.inr (.inl ⟨ho,?_⟩))));rw[a2]at hM⊢;refine(zC hM (by have:=h.sml.2;simp;omega) (aK x).num _).mono ?_;rintro en w1 ⟨rfl,a0⟩;refine⟨rfl,?_⟩;have e1:Sp.stepX im inp T cells x f fs s= .go ⟨{f with stk:=ba f.stk,pc:=if(aX f.stk).N=0 then x.b else f.pc+1}::fs,s⟩:=by simp[Sp.stepX,ho]
 have a1:tkA 1 f.stk= .i n:=hn;rw[a1]at a0;rw[e1,hn];exact⟨rfl,_,_,_,_,_,cn,_,by omega,a0⟩
theorem zM (h:At w0 w im T mb tx tv bw cells ans inp r rs f fs s vo vb gs fv cn sn b x st l) (ho:x.op.toNat=108):
  Calls Tryz.prog 88 #[.pointer (some ⟨mb,0,none⟩)] w (fun en w'=> ∃e,en= .returned (.int .i64 e)∧dy w0 im T mb tx tv bw cells ans inp cn (Sp.stepX im inp T cells x f fs s) e w'):=by
 have a0:=h.fit.wf.bod b (List.mem_of_getElem? h.top.bd);have a4:=a0.code x (List.mem_of_getElem? h.top.ins);have hb:=a4.loc (Or.inl ho)
 have a5:f.loc.length=b.locals.length:=by
  obtain⟨t,ht,_⟩:=h.fit.tab h.top.bd;have hk:=(cm ht).1 h.top.st;rw[h.top.loc.len,((h.fit.wt f.q b t h.top.bd ht).2 f.pc st l hk).1.2.2]
 have a3:(aE (im.classes.map toX) im.sigs (aK x).op (aK x).cls (aK x).num (aN im.sigs r.b).ans).length=0:=by simp[aE,aK,ho]
 have hu:f.loc[x.b]?=some (f.loc.getD x.b .z):=by
  rw[List.getD_eq_getElem?_getD,List.getElem?_eq_getElem (show x.b<f.loc.length by omega)]
  rfl
 have a2:(aI (im.classes.map toX) im.sigs (aK x).op (aK x).cls (aK x).num (aN im.sigs r.b).locals).toNat≠0:=by
  have e:aI (im.classes.map toX) im.sigs (aK x).op (aK x).cls (aK x).num (aN im.sigs r.b).locals=eP r.b.locals x.b:=by
   show aI _ _ x.op _ x.b _=_
   unfold aI;rw[if_neg (by omega),if_pos ho]
   rfl
  rw[e,h.rb]
  have hm:b.locals.getD x.b 0∈b.locals:=by
   rw[List.getD_eq_getElem?_getD,List.getElem?_eq_getElem hb];exact List.getElem_mem hb
  have ht:=a0.loc.2 _ hm;unfold eP;rw[if_pos hb];clear hm;generalize b.locals.getD x.b 0=c at ht⊢;simp[cA,aH]at ht;omega
 refine il (fun e w'=>dy w0 im T mb tx tv bw cells ans inp cn (Sp.stepX im inp T cells x f fs s) e w') h.mc h.tx h.hcl h.nsg (by have:=h.sml.1;omega) h.h100 (aK x) h.hx (by omega) (by omega) (fun Y sv' hM=> .inl ⟨show x.op.toNat≠99∧x.op.toNat≠116∧x.op.toNat≠106∧x.op.toNat≠102 by omega,?_⟩);rw[a3]at hM⊢;refine(zx hM h.tx h.hcl h.nsg (by have:=h.sml.1;simp[tkR];omega) (by have:=h.sml.2;simp;omega) (aK x) _ _ _ ho hu a2).mono ?_;rintro en w1 ⟨rfl,r',a1⟩;refine⟨0,rfl,?_⟩;have e1:Sp.stepX im inp T cells x f fs s= .go ⟨f.on (f.stk++ [f.loc.getD x.b .z])::fs,s⟩:=by simp[Sp.stepX,ho]
 rw[e1];exact⟨rfl,_,_,_,_,_,cn,_,by omega,a1⟩
theorem At.ll (h:At w0 w im T mb tx tv bw cells ans inp r rs f fs s vo vb gs fv cn sn b x st l):f.loc.length=b.locals.length:=by rw[h.top.loc.len,p9 h.fit h.top]
theorem At.wx (h:At w0 w im T mb tx tv bw cells ans inp r rs f fs s vo vb gs fv cn sn b x st l):WfX im.classes im.sigs.length b.locals.length x:=(h.fit.wf.bod b (List.mem_of_getElem? h.top.bd)).code x (List.mem_of_getElem? h.top.ins)
theorem zN (h:At w0 w im T mb tx tv bw cells ans inp r rs f fs s vo vb gs fv cn sn b x st l) (ho:x.op.toNat=115):
  Calls Tryz.prog 88 #[.pointer (some ⟨mb,0,none⟩)] w (fun en w'=> ∃e,en= .returned (.int .i64 e)∧dy w0 im T mb tx tv bw cells ans inp cn (Sp.stepX im inp T cells x f fs s) e w'):=by
 obtain⟨st',l',he⟩:=h.eff;obtain⟨k,hk,_,_⟩:=gP (by omega) he;obtain⟨_,q1,_⟩:=dK (by omega) hk;have hl:=h.top.stk.len;have hb:=h.wx.loc (Or.inr ho);have a3:=h.ll;have a2:(aE (im.classes.map toX) im.sigs (aK x).op (aK x).cls (aK x).num (aN im.sigs r.b).ans).length=1:=by simp[aE,aK,ho]
 have a1:(aI (im.classes.map toX) im.sigs (aK x).op (aK x).cls (aK x).num (aN im.sigs r.b).locals).toNat=0:=by
  show(aI _ _ x.op _ x.b _).toNat=0
  simp[aI,ho]
 refine il (fun e w'=>dy w0 im T mb tx tv bw cells ans inp cn (Sp.stepX im inp T cells x f fs s) e w') h.mc h.tx h.hcl h.nsg (by have:=h.sml.1;omega) h.h100 (aK x) h.hx (by omega) (by omega) (fun Y sv' hM=> .inl ⟨show x.op.toNat≠99∧x.op.toNat≠116∧x.op.toNat≠106∧x.op.toNat≠102 by omega,?_⟩);rw[a2]at hM⊢;refine(zy hM h.tx h.hcl h.nsg (Nat.le_trans (tT 1 f.stk) (by have:=h.sml.1;omega)) (by have:=h.sml.2;simp;omega) (aK x) _ _ ho (by show x.b<f.loc.length;omega) a1).mono ?_;rintro en w1 ⟨rfl,r',a0⟩;refine⟨0,rfl,?_⟩;have e1:Sp.stepX im inp T cells x f fs s= .go ⟨{f.on (ba f.stk)with loc:=f.loc.set x.b (aX f.stk)}::fs,s⟩:=by simp[Sp.stepX,ho]
 rw[e1];exact⟨rfl,_,_,_,_,_,cn,_,by omega,a0⟩
theorem zO (h:At w0 w im T mb tx tv bw cells ans inp r rs f fs s vo vb gs fv cn sn b x st l) (ho:x.op.toNat=101):
  Calls Tryz.prog 88 #[.pointer (some ⟨mb,0,none⟩)] w (fun en w'=> ∃e,en= .returned (.int .i64 e)∧dy w0 im T mb tx tv bw cells ans inp cn (Sp.stepX im inp T cells x f fs s) e w'):=by
 obtain⟨st',l',he⟩:=h.eff;obtain⟨k,hk,_,_⟩:=dH (by omega) (by omega) he;obtain⟨_,q1,q3,q2⟩:=kv (by rw[ho]at hk;exact hk);have hl:=h.top.stk.len;have hu:=((h.top.stk.t2 q1).toRef q2).ref q2;have hv:=((h.top.stk.t1 (by omega)).toRef q3).ref q3
 have a0:xO (dP f.stk)=xO (aX f.stk)↔dP f.stk=aX f.stk:=by
  refine⟨fun e=> ?_,fun e=>by rw[e]⟩;rcases hu with hu| ⟨j,_,hu,_⟩<;>rcases hv with hv| ⟨j',_,hv,_⟩<;>rw[hu,hv]at e⊢ <;>simp only[xO]at e
  ·omega
  ·omega
  ·have:j=j':=by omega
   rw[this]
 refine h.doP 2 (by simp[aE,ho]) (by omega) (by omega) (by omega) (by simp[aI,ho]) (.ok (if dP f.stk=aX f.stk then .i 1 else .i 0) [] s) (fun P' X hX=> ?_) _ (by simp[srP,Sp.stepX,ho,tkR]);rw[dl ho];exact AH hX _ _ a0 _ _ _ _ _ _
theorem zP (h:At w0 w im T mb tx tv bw cells ans inp r rs f fs s vo vb gs fv cn sn b x st l) (h4:s.heap.length≤4000) (ho:x.op.toNat=103):
  Calls Tryz.prog 88 #[.pointer (some ⟨mb,0,none⟩)] w (fun en w'=> ∃e,en= .returned (.int .i64 e)∧dy w0 im T mb tx tv bw cells ans inp cn (Sp.stepX im inp T cells x f fs s) e w'):=by
 obtain⟨st',l',he⟩:=h.eff;obtain⟨hf,_,_⟩:=aW (by omega) (by omega) he;simp[aP,aL,ho]at hf;obtain⟨f1,f2⟩:=de hf;have hl:=h.top.stk.len;have hcl:=h.wx.cls (by omega);have a6:=h.fit.wf.nc;obtain⟨a1,a5⟩:=fP (a:=x.a) (by omega);have hv:=((h.top.stk.t1 f1).sub h.fit.wf.cls h.fit.wf.nc h.mt.ht f2).toRef (bE a1)
 have a3:(aI (im.classes.map toX) im.sigs x.op (aK x).cls x.b (aN im.sigs r.b).locals).toNat≠0:=by
  have a2:=h.wx.fld (by omega);have a0:=jV h.fit.wf hcl a2;have ec:(aK x).cls=UInt8.ofNat (65+x.a):=by simp[aK,ho]
  unfold aI;rw[if_neg (by omega),if_neg (by omega),if_neg (by omega),if_neg (by omega),if_pos ho,ec,lh a6 hcl];unfold eP;rw[if_pos (show x.b<(bz im.classes x.a).length from a2)];have a0:cA im.classes.length ((bz im.classes x.a).getD x.b 0)=true:=a0;generalize (bz im.classes x.a).getD x.b 0=c at a0⊢;simp[cA,aH]at a0;omega
 have a4:(aE (im.classes.map toX) im.sigs x.op (aK x).cls x.b (aN im.sigs r.b).ans).length=1:=by simp[aE,ho]
 rcases hv.ref (bE a1)with e| ⟨k,ob,e,hk,_,hu⟩
 ·refine h.doP 1 a4 (by omega) (by omega) (by omega) a3 (.bad 6 s.out) (fun P' X hX=> ?_) _ (by simp[srP,Sp.stepX,ho,e]);rw[dl ho];simp only[tkA,e];exact zj hX h4 _ _ _ _ _ _ _
 ·rw[a5]at hu;obtain⟨g1,g2⟩:=gE h.fit h.mt.ht hcl (h.wx.fld (by omega)) hk hu;refine h.doP 1 a4 (by omega) (by omega) (by omega) a3 (.ok (ob.fs.getD x.b .z) [] s) (fun P' X hX=> ?_) _ (by simp[srP,Sp.stepX,ho,e,tkR,(Ev.at hk).2]);rw[dl ho];simp only[tkA,e];exact zk hX h4 hk _ _ _ _ _ _ _ _ (by rw[List.getD_eq_getElem?_getD,List.getElem?_eq_getElem g1];rfl)
theorem zQ (h:At w0 w im T mb tx tv bw cells ans inp r rs f fs s vo vb gs fv cn sn b x st l) (h4:s.heap.length≤4000) (ho:x.op.toNat=112):
  Calls Tryz.prog 88 #[.pointer (some ⟨mb,0,none⟩)] w (fun en w'=> ∃e,en= .returned (.int .i64 e)∧dy w0 im T mb tx tv bw cells ans inp cn (Sp.stepX im inp T cells x f fs s) e w'):=by
 obtain⟨st',l',he⟩:=h.eff;obtain⟨hf,_,_⟩:=aW (by omega) (by omega) he;simp[aP,aL,ho]at hf;obtain⟨f1,f2,f3⟩:=eh hf;have hl:=h.top.stk.len;have hcl:=h.wx.cls (by omega);have a4:=h.fit.wf.nc;obtain⟨a0,a3⟩:=fP (a:=x.a) (by omega);have hv:=((h.top.stk.t2 f1).sub h.fit.wf.cls h.fit.wf.nc h.mt.ht f2).toRef (bE a0);have a1:(aI (im.classes.map toX) im.sigs x.op (aK x).cls x.b (aN im.sigs r.b).locals).toNat=0:=by simp[aI,ho]
 have a2:(aE (im.classes.map toX) im.sigs x.op (aK x).cls x.b (aN im.sigs r.b).ans).length=2:=by simp[aE,ho]
 rcases hv.ref (bE a0)with e| ⟨k,ob,e,hk,_,hu⟩
 ·refine h.doN 2 a2 (by omega) (by omega) (by omega) a1 (.bad 6 s.out) (fun P' X hX=> ?_) _ (by simp[srN,Sp.stepX,ho,e]);rw[dl ho];simp only[tkA,e];exact zl hX h4 _ _ _ _ _ _ _
 ·rw[a3]at hu;obtain⟨g1,g2⟩:=gE h.fit h.mt.ht hcl (h.wx.fld (by omega)) hk hu;refine h.doN 2 a2 (by omega) (by omega) (by omega) a1 (.ok (.i 0) [] (s.put k x.b (aX f.stk))) (fun P' X hX=> ?_) _ (by simp[srN,Sp.stepX,ho,e,tkR]);rw[dl ho];simp only[tkA,tkB,e];exact zm hX h4 hk _ _ _ _ _ _ _ g1
theorem zR (h:At w0 w im T mb tx tv bw cells ans inp r rs f fs s vo vb gs fv cn sn b x st l) (h4:s.heap.length≤4000) (ho:x.op.toNat=120):
  Calls Tryz.prog 88 #[.pointer (some ⟨mb,0,none⟩)] w (fun en w'=> ∃e,en= .returned (.int .i64 e)∧dy w0 im T mb tx tv bw cells ans inp cn (Sp.stepX im inp T cells x f fs s) e w'):=by
 obtain⟨st',l',he⟩:=h.eff;obtain⟨k,hk,_,_⟩:=dH (by omega) (by omega) he;obtain⟨_,q1,q2⟩:=dK (by omega) hk;have q2:=q2 ho;have hl:=h.top.stk.len;have hcl:=h.wx.cls (by omega);have a4:=h.fit.wf.nc;have hv:=(h.top.stk.t1 q1).toRef q2;have ec:(aK x).cls=UInt8.ofNat (65+x.a):=by simp[aK,ho]
 have a1:(aI (im.classes.map toX) im.sigs x.op (aK x).cls x.b (aN im.sigs r.b).locals).toNat≠0:=by
  have:=gy (a:=x.a) (by omega);unfold aI;rw[if_neg (by omega),if_neg (by omega),if_pos (by omega),ec,this];omega
 have a2:(aE (im.classes.map toX) im.sigs x.op (aK x).cls x.b (aN im.sigs r.b).ans).length=1:=by simp[aE,ho]
 have a0:ba f.stk++ [aX f.stk]=f.stk:=lM (by omega);rcases hv.ref q2 with e| ⟨k,ob,e,hk,_,hu⟩
 ·refine h.doP 1 a2 (by omega) (by omega) (by omega) a1 (.ok .z [] s) (fun P' X hX=> ?_) _ ?_
  ·rw[dl ho];simp only[tkA,e];exact zn hX h4 _ _ _ _ _ _ _
  ·rw[e]at a0;simp[srP,Sp.stepX,ho,e,tkR,a0]
 ·have a5:=h.mt.ht.cls k ob hk;have a3:=ve h.fit.wf.cls a4 hcl a5;refine h.doP 1 a2 (by omega) (by omega) (by omega) a1 (if dt (im.classes.map toX) (UInt8.ofNat (65+x.a)) (im.classes.map toX).length (UInt8.ofNat (65+ob.cls))=true then .ok (.o k) [] s else .bad 8 s.out) (fun P' X hX=> ?_) _ ?_
  ·rw[dl ho,ec];simp only[tkA,e];exact zo hX h4 hk (im.classes.map toX) h.hcl h.tx.cls _ (gy (by omega)) _ _ _ _ _ _ _
  ·rw[e]at a0;rw[a3]
   by_cases hb:bk im.classes 5 ob.cls x.a=true
   ·simp[srP,Sp.stepX,ho,e,tkR,a0,(Ev.at hk).1,hb]
   ·simp[srP,Sp.stepX,ho,e,tkR,a0,(Ev.at hk).1,hb]
theorem zS (h:At w0 w im T mb tx tv bw cells ans inp r rs f fs s vo vb gs fv cn sn b x st l) (ho:x.op.toNat=116):
  Calls Tryz.prog 88 #[.pointer (some ⟨mb,0,none⟩)] w (fun en w'=> ∃e,en= .returned (.int .i64 e)∧dy w0 im T mb tx tv bw cells ans inp cn (Sp.stepX im inp T cells x f fs s) e w'):=by
 obtain⟨st',l',he⟩:=h.eff;obtain⟨hf,_,_⟩:=aW (by omega) (by omega) he;simp[aP,aL,ho]at hf;have f1:1≤st.length:=by split at hf<;>exact(de hf).1
 have hl:=h.top.stk.len;have a2:(aE (im.classes.map toX) im.sigs (aK x).op (aK x).cls (aK x).num (aN im.sigs r.b).ans).length=1:=by simp[aE,aK,ho]
 have a3:tkA 1 f.stk=aX f.stk:=rfl;refine il (fun e w'=>dy w0 im T mb tx tv bw cells ans inp cn (Sp.stepX im inp T cells x f fs s) e w') h.mc h.tx h.hcl h.nsg (by have:=h.sml.1;omega) h.h100 (aK x) h.hx (by omega) (by omega) (fun Y sv' hM=> .inr (.inr (.inl ⟨ho,?_⟩)));rw[a2]at hM⊢;have a0:=mo h.fit h.mt
 match fs,rs,hM,a0 with
 | [],[],hM,_=>
  refine(zD hM _).mono ?_;rintro en w1 ⟨rfl,a1⟩;refine⟨rfl,?_⟩;have e1:Sp.stepX im inp T cells x f [] s= .fin (aX f.stk) s.out:=by simp[Sp.stepX,ho]
  rw[e1];exact⟨rfl,s,_,_,_,_,_,_,rfl,a1⟩
 | [],q::rs2,hM,_=>exact hM.fr.2.1.elim
 |g::fs2,[],hM,_=>exact hM.fr.2.1.elim
 |g::fs2,q::rs2,hM,a0=>
  have hg:=a0.1 g (List.mem_cons_of_mem _ (List.mem_cons_self ..));have a4:=a0.2 g (List.mem_cons_of_mem _ (List.mem_cons_self ..));refine(zE hM (by omega) (by omega) _).mono ?_;rintro en w1 ⟨rfl,q',a1⟩;refine⟨rfl,?_⟩;have e1:Sp.stepX im inp T cells x f (g::fs2) s= .go ⟨g.on (g.stk++ [aX f.stk])::fs2,s⟩:=by simp[Sp.stepX,ho]
  rw[e1];exact⟨rfl,_,_,_,_,_,cn,_,by omega,a1⟩
end
end
end Go.Proofs.YtpfkkmacakjmbaaGreatDoor
