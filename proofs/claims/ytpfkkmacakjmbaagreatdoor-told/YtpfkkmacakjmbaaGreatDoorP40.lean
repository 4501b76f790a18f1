import Derived.Test.YtpfkkmacakjmbaaGreatDoorP39
import Derived.Test.YtpfkkmacakjmbaaGreatDoorP33
set_option maxRecDepth 100000
set_option maxHeartbeats 6400000
set_option linter.unusedSimpArgs false
set_option linter.unusedVariables false
namespace Go.Proofs.YtpfkkmacakjmbaaGreatDoor
section
open Go Go.RowKit Sp
section
variable {w0 w w':World} {im:Img} {T:cw} {mb tx:Nat} {tv:Value} {bw cells:Nat} {ans:Int} {inp:ByteArray} {r q:Fr} {rs:List Fr} {f g:Fm} {fs:List Fm} {s:Ev} {vo vb:Value} {gs:List Nat} {fv:List Value} {cn:Int} {sn:Nat→Int}
theorem Bj (h:McQ w0 w im T mb tx tv bw cells ans inp (r::rs) (f::fs) s vo vb gs fv cn sn) (hpc:f.pc≤1000) (n:Nat) (u:V):
  Calls Tryz.prog 144 #[.pointer (some ⟨r.fb,0,none⟩),.int .i64 n,aG u] w fun en w'=>en= .returned (.tuple #[])∧McQ w0 w' im T mb tx tv bw cells ans inp (r::rs) ({f with pc:=if xN u=0 then n else f.pc+1}::fs) s vo vb gs fv cn sn:=by
 have a0: ∀w',But (· =r.fb) w w'→w'.ownsRow w0.heap.size 168 2 r.sv f.stk.length (au f.stk):=fun w' hB=>ah h.fr.1.st hB (fun k hk e=>aC h.fr.1.st h.fr.1.fr (by decide) (by have e:k=r.fb:=e;rw[←e];exact hk))
 unfold aG
 by_cases hu:xN u=0
 ·rw[if_pos hu,hu];refine(Ba _ _ _ _ _ _ _ _ _ _ _ h.fr.1.fr n (xO u)).mono ?_;rintro en w1 ⟨rfl,hB,hF⟩;exact⟨rfl,h.pushed (sv':=r.sv) (stk':=f.stk) (hB.mono (fun _ _ h=>Or.inl h)) hF (a0 _ hB) (Or.inl rfl)⟩
 ·rw[if_neg hu];refine(Bb _ _ _ _ _ _ _ _ _ _ _ h.fr.1.fr hpc n (xN u) (xO u) hu).mono ?_;rintro en w1 ⟨rfl,hB,hF⟩;exact⟨rfl,h.pushed (sv':=r.sv) (stk':=f.stk) (hB.mono (fun _ _ h=>Or.inl h)) hF (a0 _ hB) (Or.inl rfl)⟩
theorem Bk (h:McQ w0 w im T mb tx tv bw cells ans inp [r] [f] s vo vb gs fv cn sn) (u:V):
  Calls Tryz.prog 143 #[.pointer (some ⟨mb,0,none⟩),aG u] w fun en w'=>en= .returned (.tuple #[])∧McQ w0 w' im T mb tx tv bw cells (xN u) inp [] [] s vo vb gs fv cn sn:=by
 unfold aG;refine(yU _ _ _ _ _ _ _ _ _ _ _ _ _ _ _ _ h.mc h.fr.1.fr (xN u) (xO u)).mono ?_;rintro en w1 ⟨rfl,hB,hM⟩;refine⟨rfl,h.step hB (fun k e=>Or.inl e) hM trivial (fun k hk=> ?_)⟩;rcases hk with e| ⟨q,hq,_⟩
 ·exact Or.inl (Or.inl e)
 ·cases hq
theorem Bl (h:McQ w0 w im T mb tx tv bw cells ans inp (r::q::rs) (f::g::fs) s vo vb gs fv cn sn) (h4:g.stk.length≤4000) (hpc:g.pc≤1000) (u:V):
  Calls Tryz.prog 143 #[.pointer (some ⟨mb,0,none⟩),aG u] w fun en w'=>en= .returned (.tuple #[])∧ ∃q',McQ w0 w' im T mb tx tv bw cells ans inp (q'::rs) ({g with pc:=g.pc+1,stk:=g.stk++ [u]}::fs) s vo vb gs fv cn sn:=by
 obtain⟨hR,⟨hF,a1,a3⟩,a8⟩:=h.fr;refine(Bc _ _ _ _ _ _ _ _ _ _ _ _ _ _ _ _ _ _ _ _ _ _ _ _ _ _ _ _ h.mc hR.fr hF.fr hF.st h4 hpc h.wd.old.size u).mono ?_;rintro en w1 ⟨rfl,hB,hM,sv',hf,ho,hs⟩;refine⟨rfl,{q with sv:=sv'},?_⟩;have a2: ∀k,(k=q.fb∨q.sv.ownBlock=some k)→je q k:=fun k hk=>hk.elim Or.inl (fun e=>Or.inr (Or.inr (Or.inr e)))
 have a0:q∈r::q::rs:=List.mem_cons_of_mem _ (List.mem_cons_self ..)
 have hO: ∀k,je {q with sv:=sv'} k→je q k∨w.heap.size≤k:=fun k hk=>by
  rcases hk with e|e|e|e
  ·exact Or.inl (Or.inl e)
  ·exact Or.inl (Or.inr (Or.inl e))
  ·exact Or.inl (Or.inr (Or.inr (Or.inl e)))
  ·rcases hs with h1| ⟨j,h1,h2⟩
   ·exact Or.inl (Or.inr (Or.inr (Or.inr (h1▸e))))
   ·have e:sv'.ownBlock=some k:=e;rw[h1]at e
    cases e
    exact Or.inr h2
 have a4: ¬je q mb:=h.off a0
 have a7: ∀k,q.lv.ownBlock=some k→ ¬(k=mb∨k=q.fb∨q.sv.ownBlock=some k):=fun k hk e=>by
  rcases e with e|e|e
  ·exact a4 (Or.inr (Or.inr (Or.inl (e▸hk))))
  ·exact aC hF.lo hF.fr (by decide) (e▸hk)
  ·exact hF.ap k hk e
 have a6: ¬(q.bl=mb∨q.bl=q.fb∨q.sv.ownBlock=some q.bl):=fun e=>by
  rcases e with e|e|e
  ·exact a4 (Or.inr (Or.inl e.symm))
  ·exact br hF.lb hF.fr (by decide) e
  ·exact aC hF.st hF.lb (by decide) e
 refine h.step hB (fun k hk=> ?_) hM ⟨⟨hF.hb,hF.ht,hf,(hB.block q.bl (ae hF.lb) a6).trans hF.lb,ah hF.lo hB a7,ho,hF.bt,hF.it,hF.tb,fun k hk e=> ?_,hF.g1,hF.g2⟩,a1.but hB (fun p hp k hk e=> ?_),fun k hk p hp hk'=> ?_⟩ (fun k hk=> ?_)
 ·rcases hk with e|e
  ·exact Or.inl e
  ·exact Or.inr ⟨q,a0,a2 k e⟩
 ·have hk:q.lv.ownBlock=some k:=hk;rcases hs with h1| ⟨j,h1,h2⟩
  ·exact hF.ap k hk (h1▸e)
  ·have e:sv'.ownBlock=some k:=e;rw[h1]at e
   cases e
   have:=aW hF.lo _ hk;omega
 ·rcases e with e|e
  ·exact h.off (List.mem_cons_of_mem _ (List.mem_cons_of_mem _ hp)) (e▸hk)
  ·exact a3 k (a2 k e) p hp hk
 ·rcases hO k hk with h1|h1
  ·exact a3 k h1 p hp hk'
  ·obtain⟨ca,d,f',a5⟩:=a1.mem p hp;have:=a5.lt hk';omega
 ·rcases hk with e| ⟨p,hp,hk⟩
  ·exact Or.inl (Or.inl e)
  ·rcases List.mem_cons.1 hp with rfl|hp
   ·rcases hO k hk with h1|h1
    ·exact Or.inl (Or.inr ⟨q,a0,h1⟩)
    ·exact Or.inr h1
   ·exact Or.inl (Or.inr ⟨p,List.mem_cons_of_mem _ (List.mem_cons_of_mem _ hp),hk⟩)
end
theorem AE {cs:List Cls} {hp:List Ob} {t:UInt8} {v:V} (h:VT cs hp t v):ir hp.length v:=by
 cases v with
 |i n=>exact Or.inl ⟨n,rfl⟩
 |z=>exact Or.inr (Or.inl rfl)
 |o k=>
  obtain⟨_,ob,hk,_⟩:=h;exact Or.inr (Or.inr ⟨k,rfl,(List.getElem?_eq_some_iff.1 hk).1⟩)
theorem wW {im:Img} (hw:WfI im) {hp:List Ob} (hh:HT im.classes hp):lT (im.classes.map toX) hp:=by
 intro o ho;obtain⟨k,hk,rfl⟩:=List.getElem_of_mem ho;have a0:hp[k]?=some hp[k]:=List.getElem?_eq_getElem hk;have hc:=hh.cls k _ a0;have hn:=hw.nc;have hl:=hh.len k _ a0;have hf:=jE hw.nc hc;have h2:=ju hw.cls hw.nc (UInt8.ofNat (65+hp[k].cls));rw[hf]at h2;refine⟨⟨UInt8.ofNat (65+hp[k].cls),ep (by omega),by rw[hf,hl]⟩,by omega,fun u hu=> ?_⟩;obtain⟨j,hj,e⟩:=List.getElem_of_mem hu;exact AE (hh.fs k _ j u a0 (by rw[List.getElem?_eq_getElem hj,e]))
theorem pH {cs:List Cls} {hp:List Ob} {ts us:List UInt8} {vs:List V} (h:STk cs hp ts vs) (hu: ∀j:Nat,j<vs.length→us[j]?=ts[j]?): ∀v∈dj vs us,ir hp.length v:=by
 intro v hv;unfold dj at hv;obtain⟨⟨a,t⟩,hm,rfl⟩:=List.mem_map.1 hv;obtain⟨hz,ht⟩:=List.mem_filter.1 hm;obtain⟨j,hj,e⟩:=List.getElem_of_mem hz;have a0:(vs.zip us)[j]?=some (a,t):=by rw[List.getElem?_eq_getElem hj,e]
 rw[List.getElem?_zip_eq_some]at a0;have a1:j<vs.length:=(List.getElem?_eq_some_iff.1 a0.1).1;have h1:=h.at' j a a0.1;have h2:ts.getD j 0=t:=by rw[List.getD_eq_getElem?_getD,←hu j a1,a0.2];rfl
 rw[h2]at h1;exact AE (h1.not45 (by simpa using ht))
theorem sW {im:Img} {T:cw} (hF:Fit im T) {hp:List Ob} {g:Fm} {b:Bod} {x:Ins} {s l st:List UInt8} (hb:im.bodies[g.q]?=some b) (hx:b.code[g.pc]?=some x) (hs:gz T g.q g.pc=some (s,l)) (hst:STk im.classes hp st g.stk) (hp1: ∀j:Nat,j<g.stk.length→s[j]?=st[j]?) (hlen:st.length≤s.length) (hlo:STk im.classes hp l g.loc):
  ((∃st lo,gz T g.q g.pc=some (st,lo))∧g.stk.length≤1000∧g.loc.length≤1000∧(∀t,T[g.q]?=some t→t.length≤100)∧ ∀u∈fS T g,ir hp.length u)∧g.pc≤100:=by
 obtain⟨t,ht,hG⟩:=hF.tab hb;have hw:=hF.wf.bod b (List.mem_of_getElem? hb);have a0:=hF.wt g.q b t hb ht;have hk:=(cP ht).1 hs;obtain⟨hz,a4⟩:=a0.2 g.pc s l hk;have hn:=mF t;have a1:=a0.1;have a2:=hw.len.2;have a3:g.pc<b.code.length:=(List.getElem?_eq_some_iff.1 hx).1;refine⟨⟨⟨s,l,hs⟩,by rw[hst.len];omega,by rw[hlo.len,hz.2.2];have:=hw.loc.1;omega,fun t' ht'=>by rw[ht]at ht';cases ht';omega,fun u hu=> ?_⟩,by omega⟩;unfold fS at hu;rw[hs]at hu;rcases List.mem_append.1 hu with hu|hu
 ·exact pH hst hp1 u hu
 ·exact pH hlo (fun _ _=>rfl) u hu
theorem uq {s:List UInt8} {n j:Nat} (h:j<(s.take n).length):s[j]?=(s.take n)[j]?:=by
 rw[List.getElem?_take,if_pos (by rw[List.length_take]at h;omega)]
theorem yW {im:Img} {T:cw} (hF:Fit im T) {hp:List Ob} {b:Bod} {r:List Fm} (h:iY im T hp b r):Bd T hp.length r∧ ∀g∈r,g.pc≤100:=by
 induction h with
 |main b hb=>exact⟨fun f hf=>(by cases hf),fun f hf=>(by cases hf)⟩
 |call b g r bg x s l hb hg hx ho hm hs h2 hst hlo hr ih=>
  have hf:=sW hF hg hx hs hst (fun j hj=>uq (by rw[←hst.len];exact hj)) (by rw[List.length_take];omega) hlo;refine⟨fun f' a0=> ?_,fun f' a0=> ?_⟩
  ·rcases List.mem_cons.1 a0 with rfl|a0
   ·exact hf.1
   ·exact ih.1 f' a0
  ·rcases List.mem_cons.1 a0 with rfl|a0
   ·exact hf.2
   ·exact ih.2 f' a0
theorem uX {im:Img} {T:cw} (hF:Fit im T) {f:Fm} {rest:List Fm} {s:Ev} (h:MT im T f rest s):Bd T s.heap.length (f::rest)∧ ∀g∈f::rest,g.pc≤100:=by
 obtain⟨b,x,st,l,hT,hC⟩:=h.top;have hf:=sW hF hT.bd hT.ins hT.st hT.stk (fun _ _=>rfl) (Nat.le_refl _) hT.loc;have hc:=yW hF hC;refine⟨fun f' a0=> ?_,fun f' a0=> ?_⟩
 ·rcases List.mem_cons.1 a0 with rfl|a0
  ·exact hf.1
  ·exact hc.1 f' a0
 ·rcases List.mem_cons.1 a0 with rfl|a0
  ·exact hf.2
  ·exact hc.2 f' a0
theorem uY (n:Nat) (s:List V):(tkR n s).length≤s.length:=by
 unfold tkR cI gC
 split
 ·omega
 ·split<;>(rw[List.length_take];omega)
section
variable {w0 w w':World} {im:Img} {T:cw} {mb tx:Nat} {tv:Value} {bw cells:Nat} {ans:Int} {inp:ByteArray} {r:Fr} {rs:List Fr} {f:Fm} {fs:List Fm} {s:Ev} {vo vb:Value} {gs:List Nat} {fv:List Value} {cn:Int} {sn:Nat→Int}
theorem uZ (psh:Bool) (h:McQ w0 w im T mb tx tv bw cells ans inp (r::rs) (f::fs) s vo vb gs fv cn sn) (hT:dn w0 tx im) (hcl:(im.classes.map toX).length≤100) (hsg:im.sigs.length≤100) (h4:f.stk.length≤4000) (hpc:f.pc≤1000) (h100:(aN im.sigs r.b).items.length≤100) (x:XIt) (hx:(aN im.sigs r.b).items[f.pc]?=some x) (nT:Nat) (hnT:(ay (im.classes.map toX) im.sigs x.op x.cls x.num (aN im.sigs r.b).ans).length=nT) (h2:nT≤2) (hl:nT≤f.stk.length) (hno:x.op.toNat≠99∧x.op.toNat≠116∧x.op.toNat≠106∧x.op.toNat≠102∧x.op.toNat≠108∧x.op.toNat≠115∧x.op.toNat≠110) (hly:match psh with|true=>(aF (im.classes.map toX) im.sigs x.op x.cls x.num (aN im.sigs r.b).locals).toNat≠0|false=>(aF (im.classes.map toX) im.sigs x.op x.cls x.num (aN im.sigs r.b).locals).toNat=0) (rr:R)
  (hD: ∀(P':Nat→Prop) X,WdQ P' w0 X bw tx inp s vo vb gs fv cn sn→Calls Tryz.prog 197 #[.pointer (some ⟨bw,0,none⟩),bU x,aG (tkA nT f.stk),aG (tkB nT f.stk)] X (ReW P' w0 X bw tx inp cn rr)):
  Calls Tryz.prog 88 #[.pointer (some ⟨mb,0,none⟩)] w (fun en w'=> ∃e,en= .returned (.int .i64 e)∧uW w0 im T mb tx tv bw cells ans inp rs {f with stk:=tkR nT f.stk} fs cn rr psh (.returned (.int .i64 e)) w'):=by
 subst hnT;obtain⟨n1,n2,n3,n4,n5,n6,n7⟩:=hno;refine gS (fun e w'=>uW w0 im T mb tx tv bw cells ans inp rs {f with stk:=tkR _ f.stk} fs cn rr psh (.returned (.int .i64 e)) w') h hT hcl hsg h4 h100 x hx h2 hl (fun Y sv' hM=> .inl ⟨⟨n1,n2,n3,n4⟩,?_⟩);refine(Bg psh hM hT hcl hsg (Nat.le_trans (uY _ _) h4) hpc x _ _ n5 n6 n7 hly rr (fun X hX=>hD _ _ (hM.wd.grown hX))).mono ?_;intro en w5 hp;have hp':=hp;obtain⟨u,e,s',vo',vb',gs',fv',sn',r',h1,h2,h3⟩:=hp;subst h2;exact⟨e,rfl,hp'⟩
end
end
section
open Go Go.RowKit Sp
attribute [local go_sem ↓] Go.wp_at_zero Go.wp_at_succ
section
variable {P:Nat→Prop} {w0 w w':World} {bw tx:Nat} {inp:ByteArray} {s:Ev} {vo vb:Value} {gs:List Nat} {fv:List Value} {cn:Int} {sn:Nat→Int} {l:List V}
theorem B6 (h:WdQ P w0 w bw tx inp s vo vb gs fv cn sn) (u v:V) (pl n pn pc:Nat) (c:UInt8) (pa:Option Addr):
  Calls Tryz.prog 197 #[.pointer (some ⟨bw,0,none⟩),.agg #[.int .i64 pl,.int .u8 100,.int .u8 c.toNat,.int .i64 n,.slice pa pn pc],aG u,aG v] w (ReW P w0 w bw tx inp cn (.ok .z l s)):=by
 unfold aG
 go_in
 go_wp2_with fail;exact cV Tryz.results197 rfl rfl rfl (aq (by simp) _) ⟨dY.but.mono (fun _ _ h=>h.elim),vo,vb,gs,fv,sn,rfl,h.new dY.but⟩
end
def dv (w0:World) (im:Img) (T:cw) (mb tx:Nat) (tv:Value) (bw cells:Nat) (ans:Int) (inp:ByteArray) (cn:Int) (sr:SR) (e:Int) (w':World):Prop:=match sr with
 | .go m=>e=0∧ ∃rs vo vb gs fv cn' sn,cn'≤cn+1∧McQ w0 w' im T mb tx tv bw cells ans inp rs m.fr m.ev vo vb gs fv cn' sn
 | .bad n o=>e=bK n∧ ∃rs fs s' vo vb gs fv cn' sn,s'.out=o∧McQ w0 w' im T mb tx tv bw cells ans inp rs fs s' vo vb gs fv cn' sn
 | .fin v o=>e=0∧ ∃s' vo vb gs fv cn' sn,s'.out=o∧McQ w0 w' im T mb tx tv bw cells (xN v) inp [] [] s' vo vb gs fv cn' sn
section
variable {w0 w w':World} {im:Img} {T:cw} {mb tx:Nat} {tv:Value} {bw cells:Nat} {ans:Int} {inp:ByteArray} {r:Fr} {rs:List Fr} {f:Fm} {fs:List Fm} {s:Ev} {vo vb:Value} {gs:List Nat} {fv:List Value} {cn:Int} {sn:Nat→Int} {b:Bod} {x:Ins} {st l:List UInt8}
structure At (w0 w:World) (im:Img) (T:cw) (mb tx:Nat) (tv:Value) (bw cells:Nat) (ans:Int) (inp:ByteArray) (r:Fr) (rs:List Fr) (f:Fm) (fs:List Fm) (s:Ev) (vo vb:Value) (gs:List Nat) (fv:List Value) (cn:Int) (sn:Nat→Int) (b:Bod) (x:Ins) (st l:List UInt8):Prop where
 mc:McQ w0 w im T mb tx tv bw cells ans inp (r::rs) (f::fs) s vo vb gs fv cn sn
 tx:dn w0 tx im
 fit:Fit im T
 mt:MT im T f fs s
 top:qo im T s.heap f b x st l
theorem At.rb (h:At w0 w im T mb tx tv bw cells ans inp r rs f fs s vo vb gs fv cn sn b x st l):r.b=b:=by
 have h1:=h.mc.fr.1.hb;rw[h.top.bd]at h1
 cases h1
 rfl
theorem At.hx (h:At w0 w im T mb tx tv bw cells ans inp r rs f fs s vo vb gs fv cn sn b x st l):(aN im.sigs r.b).items[f.pc]?=some (aL x):=by
 show(r.b.code.map aL)[f.pc]?=_
 rw[h.rb,List.getElem?_map,h.top.ins]
 rfl
theorem At.sml (h:At w0 w im T mb tx tv bw cells ans inp r rs f fs s vo vb gs fv cn sn b x st l):f.stk.length≤1000∧f.pc≤100:=
 ⟨((uX h.fit h.mt).1 f (List.mem_cons_self ..)).2.1,(uX h.fit h.mt).2 f (List.mem_cons_self ..)⟩
theorem At.hcl (h:At w0 w im T mb tx tv bw cells ans inp r rs f fs s vo vb gs fv cn sn b x st l):(im.classes.map toX).length≤100:=by rw[List.length_map];have:=h.fit.wf.nc;omega
theorem At.h100 (h:At w0 w im T mb tx tv bw cells ans inp r rs f fs s vo vb gs fv cn sn b x st l):(aN im.sigs r.b).items.length≤100:=by
 show(r.b.code.map aL).length≤100
 rw[h.rb,List.length_map];exact(h.fit.wf.bod b (List.mem_of_getElem? h.top.bd)).len.2
theorem dp {x:Ins} {n:Nat} (h:x.op.toNat=n):bU (aL x)= .agg #[.int .i64 x.pos,.int .u8 n,.int .u8 (aL x).cls.toNat,.int .i64 x.b,.slice none 0 0]:=by
 subst h
 rfl
def srP (f:Fm) (fs:List Fm) (stk:List V):R→SR
 | .ok v _ t=> .go ⟨f.on (stk++ [v])::fs,t⟩
 | .bad n o=> .bad n o
def srN (f:Fm) (fs:List Fm) (stk:List V):R→SR
 | .ok _ _ t=> .go ⟨f.on stk::fs,t⟩
 | .bad n o=> .bad n o
theorem At.doP (h:At w0 w im T mb tx tv bw cells ans inp r rs f fs s vo vb gs fv cn sn b x st l) (nT:Nat) (hnT:(ay (im.classes.map toX) im.sigs x.op (aL x).cls x.b (aN im.sigs r.b).ans).length=nT) (h2:nT≤2) (hl:nT≤f.stk.length) (hno:x.op.toNat≠99∧x.op.toNat≠116∧x.op.toNat≠106∧x.op.toNat≠102∧x.op.toNat≠108∧x.op.toNat≠115∧x.op.toNat≠110) (hly:(aF (im.classes.map toX) im.sigs x.op (aL x).cls x.b (aN im.sigs r.b).locals).toNat≠0) (rr:R)
  (hD: ∀(P':Nat→Prop) X,WdQ P' w0 X bw tx inp s vo vb gs fv cn sn→Calls Tryz.prog 197 #[.pointer (some ⟨bw,0,none⟩),bU (aL x),aG (tkA nT f.stk),aG (tkB nT f.stk)] X (ReW P' w0 X bw tx inp cn rr))
  (sr:SR) (hsr:srP f fs (tkR nT f.stk) rr=sr):
  Calls Tryz.prog 88 #[.pointer (some ⟨mb,0,none⟩)] w (fun en w'=> ∃e,en= .returned (.int .i64 e)∧dv w0 im T mb tx tv bw cells ans inp cn sr e w'):=by
 refine(uZ true h.mc h.tx h.hcl (by have:=h.fit.wf.ns;omega) (by have:=h.sml.1;omega) (by have:=h.sml.2;omega) h.h100 (aL x) h.hx nT hnT h2 hl hno hly rr hD).mono ?_;rintro en w1 ⟨e,rfl,u,e',s',vo',vb',gs',fv',sn',r',h1,a0,h3⟩;refine⟨e,rfl,?_⟩;injection a0 with a0;injection a0 with _ a0;subst a0
 cases rr with
 |ok v _ t=>
  obtain⟨rfl,rfl,rfl⟩:=h1;rw[←hsr];exact⟨rfl,_,vo',vb',gs',fv',cn,sn',by omega,h3⟩
 |bad n o=>
  obtain⟨rfl,rfl,h5⟩:=h1;rw[←hsr];exact⟨rfl,_,_,s',vo',vb',gs',fv',cn,sn',h5,h3⟩
theorem Bm (h:At w0 w im T mb tx tv bw cells ans inp r rs f fs s vo vb gs fv cn sn b x st l) (ho:x.op.toNat=107):
  Calls Tryz.prog 88 #[.pointer (some ⟨mb,0,none⟩)] w (fun en w'=> ∃e,en= .returned (.int .i64 e)∧dv w0 im T mb tx tv bw cells ans inp cn (Sp.stepX im inp T cells x f fs s) e w'):=by
 have a0:=(h.fit.wf.bod b (List.mem_of_getElem? h.top.bd)).code x (List.mem_of_getElem? h.top.ins);refine h.doP 0 (by simp[ay,ho]) (by omega) (by omega) (by omega) (by simp[aF,ho]) (.ok (.i x.b) [] s) (fun P' X hX=> ?_) _ (by simp[srP,Sp.stepX,ho,tkR]);rw[dp ho];exact Av hX _ _ _ _ _ _ _ _ a0.num
theorem Bn (h:At w0 w im T mb tx tv bw cells ans inp r rs f fs s vo vb gs fv cn sn b x st l) (ho:x.op.toNat=122):
  Calls Tryz.prog 88 #[.pointer (some ⟨mb,0,none⟩)] w (fun en w'=> ∃e,en= .returned (.int .i64 e)∧dv w0 im T mb tx tv bw cells ans inp cn (Sp.stepX im inp T cells x f fs s) e w'):=by
 refine h.doP 0 (by simp[ay,ho]) (by omega) (by omega) (by omega) (by simp[aF,ho]) (.ok .z [] s) (fun P' X hX=> ?_) _ (by simp[srP,Sp.stepX,ho,tkR]);rw[dp ho];exact Aw hX _ _ _ _ _ _ _ _
theorem Bo (h:At w0 w im T mb tx tv bw cells ans inp r rs f fs s vo vb gs fv cn sn b x st l) (h40:inp.size≤40) (ho:x.op.toNat=114):
  Calls Tryz.prog 88 #[.pointer (some ⟨mb,0,none⟩)] w (fun en w'=> ∃e,en= .returned (.int .i64 e)∧dv w0 im T mb tx tv bw cells ans inp cn (Sp.stepX im inp T cells x f fs s) e w'):=by
 refine h.doP 0 (by simp[ay,ho]) (by omega) (by omega) (by omega) (by simp[aF,ho]) (.ok (.i (iS inp s.read)) [] {s with read:=s.read+1}) (fun P' X hX=> ?_) _ (by simp[srP,Sp.stepX,ho,tkR]);rw[dp ho];exact Ax hX h40 _ _ _ _ _ _ _ _
end
end
section
open Go Go.RowKit Sp
section
variable {w0 w w':World} {im:Img} {T:cw} {mb tx:Nat} {tv:Value} {bw cells:Nat} {ans:Int} {inp:ByteArray} {r:Fr} {rs:List Fr} {f:Fm} {fs:List Fm} {s:Ev} {vo vb:Value} {gs:List Nat} {fv:List Value} {cn:Int} {sn:Nat→Int} {b:Bod} {x:Ins} {st l:List UInt8}
theorem At.doN (h:At w0 w im T mb tx tv bw cells ans inp r rs f fs s vo vb gs fv cn sn b x st l) (nT:Nat) (hnT:(ay (im.classes.map toX) im.sigs x.op (aL x).cls x.b (aN im.sigs r.b).ans).length=nT) (h2:nT≤2) (hl:nT≤f.stk.length) (hno:x.op.toNat≠99∧x.op.toNat≠116∧x.op.toNat≠106∧x.op.toNat≠102∧x.op.toNat≠108∧x.op.toNat≠115∧x.op.toNat≠110) (hly:(aF (im.classes.map toX) im.sigs x.op (aL x).cls x.b (aN im.sigs r.b).locals).toNat=0) (rr:R)
  (hD: ∀(P':Nat→Prop) X,WdQ P' w0 X bw tx inp s vo vb gs fv cn sn→Calls Tryz.prog 197 #[.pointer (some ⟨bw,0,none⟩),bU (aL x),aG (tkA nT f.stk),aG (tkB nT f.stk)] X (ReW P' w0 X bw tx inp cn rr))
  (sr:SR) (hsr:srN f fs (tkR nT f.stk) rr=sr):
  Calls Tryz.prog 88 #[.pointer (some ⟨mb,0,none⟩)] w (fun en w'=> ∃e,en= .returned (.int .i64 e)∧dv w0 im T mb tx tv bw cells ans inp cn sr e w'):=by
 refine(uZ false h.mc h.tx h.hcl (by have:=h.fit.wf.ns;omega) (by have:=h.sml.1;omega) (by have:=h.sml.2;omega) h.h100 (aL x) h.hx nT hnT h2 hl hno hly rr hD).mono ?_;rintro en w1 ⟨e,rfl,u,e',s',vo',vb',gs',fv',sn',r',h1,a0,h3⟩;refine⟨e,rfl,?_⟩;injection a0 with a0;injection a0 with _ a0;subst a0
 cases rr with
 |ok v _ t=>
  obtain⟨rfl,rfl,rfl⟩:=h1;rw[←hsr];exact⟨rfl,_,vo',vb',gs',fv',cn,sn',by omega,h3⟩
 |bad n o=>
  obtain⟨rfl,rfl,h5⟩:=h1;rw[←hsr];exact⟨rfl,_,_,s',vo',vb',gs',fv',cn,sn',h5,h3⟩
theorem At.eff (h:At w0 w im T mb tx tv bw cells ans inp r rs f fs s vo vb gs fv cn sn b x st l): ∃st' l',dP im.classes im.sigs b x st l=some (st',l'):=by
 obtain⟨t,ht,hG⟩:=h.fit.tab h.top.bd;obtain⟨st',l',he,_,_⟩:=hG.go f.pc x st l h.top.ins ((cP ht).1 h.top.st);exact⟨st',l',he⟩
theorem Bp (h:At w0 w im T mb tx tv bw cells ans inp r rs f fs s vo vb gs fv cn sn b x st l) (ht:dc w0) (hol:s.out.length≤90000) (ho:x.op.toNat=119):
  Calls Tryz.prog 88 #[.pointer (some ⟨mb,0,none⟩)] w (fun en w'=> ∃e,en= .returned (.int .i64 e)∧dv w0 im T mb tx tv bw cells ans inp cn (Sp.stepX im inp T cells x f fs s) e w'):=by
 obtain⟨st',l',he⟩:=h.eff;obtain⟨hf,_,_⟩:=bC (by omega) (by omega) he;simp[bB,arith,ho]at hf;obtain⟨f1,f2⟩:=eC hf;obtain⟨n,hn,n1,n2⟩:=(h.top.stk.t1 f1).toInt h.fit.wf.cls h.fit.wf.nc h.mt.ht f2;have hl:=h.top.stk.len;refine h.doN 1 (by simp[ay,ho]) (by omega) (by omega) (by omega) (by simp[aF,ho]) (.ok (.i 0) [] (s.say n)) (fun P' X hX=> ?_) _ (by simp[srN,Sp.stepX,ho,tkR,hn,V.N]);rw[dp ho];simp only[tkA,tkB,hn];exact Ay hX ht n n1 n2 hol _ _ _ _ _ _ _
theorem Bq (h:At w0 w im T mb tx tv bw cells ans inp r rs f fs s vo vb gs fv cn sn b x st l) (ho:x.op.toNat=100):
  Calls Tryz.prog 88 #[.pointer (some ⟨mb,0,none⟩)] w (fun en w'=> ∃e,en= .returned (.int .i64 e)∧dv w0 im T mb tx tv bw cells ans inp cn (Sp.stepX im inp T cells x f fs s) e w'):=by
 obtain⟨st',l',he⟩:=h.eff;obtain⟨k,hk,_,_⟩:=eD (by omega) (by omega) he;obtain⟨_,q1,_⟩:=fa (by omega) hk;have hl:=h.top.stk.len;refine h.doN 1 (by simp[ay,ho]) (by omega) (by omega) (by omega) (by simp[aF,ho]) (.ok .z [] s) (fun P' X hX=> ?_) _ (by simp[srN,Sp.stepX,ho,tkR]);rw[dp ho];exact B6 hX _ _ _ _ _ _ _ _
theorem ur (h:At w0 w im T mb tx tv bw cells ans inp r rs f fs s vo vb gs fv cn sn b x st l) (ho:x.op.toNat=43∨x.op.toNat=45∨x.op.toNat=42∨x.op.toNat=60∨x.op.toNat=61∨x.op.toNat=47):
  Calls Tryz.prog 88 #[.pointer (some ⟨mb,0,none⟩)] w (fun en w'=> ∃e,en= .returned (.int .i64 e)∧dv w0 im T mb tx tv bw cells ans inp cn (Sp.stepX im inp T cells x f fs s) e w'):=by
 obtain⟨st',l',he⟩:=h.eff;obtain⟨hf,_,_⟩:=bC (by omega) (by omega) he
 have hp:bB im.classes im.sigs b x=[105,105]:=by
  rcases ho with h'|h'|h'|h'|h'|h'<;>simp[bB,arith,h']
 rw[hp]at hf;obtain⟨f1,f2,f3⟩:=fI hf;obtain⟨n,hn,n1,n2⟩:=(h.top.stk.t2 f1).toInt h.fit.wf.cls h.fit.wf.nc h.mt.ht f2;obtain⟨m,hm,m1,m2⟩:=(h.top.stk.t1 (by omega)).toInt h.fit.wf.cls h.fit.wf.nc h.mt.ht f3;have hl:=h.top.stk.len
 have a1:ay (im.classes.map toX) im.sigs x.op (aL x).cls x.b (aN im.sigs r.b).ans=[105,105]:=by
  unfold ay;rw[if_neg (by omega),if_neg (by omega),if_pos (by omega)]
 have a0:aF (im.classes.map toX) im.sigs x.op (aL x).cls x.b (aN im.sigs r.b).locals=105:=by
  unfold aF;rw[if_pos (by omega)]
 refine h.doP 2 (by rw[a1];rfl) (by omega) (by omega) (by omega) (by rw[a0];decide) (d8 x.op.toNat n m [] s) (fun P' X hX=> ?_) _ ?_
 ·rw[dp rfl];simp only[tkA,tkB,hn,hm];exact AB hX x.op.toNat ho n m n1 n2 m1 m2 _ _ _ _ _ _
 ·have e1:Sp.stepX im inp T cells x f fs s=match d8 x.op.toNat (jW f.stk).N (cO f.stk).N [] s with
   | .bad e o=> .bad e o
   | .ok v _ s=> .go ⟨f.on (gC f.stk++ [v])::fs,s⟩:=by
   rcases ho with h'|h'|h'|h'|h'|h'<;>simp[Sp.stepX,h']<;>rfl
  rw[e1,hn,hm];simp only[V.N,tkR]
  cases d8 x.op.toNat n m [] s<;>rfl
theorem At.nsg (h:At w0 w im T mb tx tv bw cells ans inp r rs f fs s vo vb gs fv cn sn b x st l):im.sigs.length≤100:=by have:=h.fit.wf.ns;omega
theorem Br (h:At w0 w im T mb tx tv bw cells ans inp r rs f fs s vo vb gs fv cn sn b x st l) (ho:x.op.toNat=106):
  Calls Tryz.prog 88 #[.pointer (some ⟨mb,0,none⟩)] w (fun en w'=> ∃e,en= .returned (.int .i64 e)∧dv w0 im T mb tx tv bw cells ans inp cn (Sp.stepX im inp T cells x f fs s) e w'):=by
 have a0:(ay (im.classes.map toX) im.sigs (aL x).op (aL x).cls (aL x).num (aN im.sigs r.b).ans).length=0:=by simp[ay,aL,ho]
 refine gS (fun e w'=>dv w0 im T mb tx tv bw cells ans inp cn (Sp.stepX im inp T cells x f fs s) e w') h.mc h.tx h.hcl h.nsg (by have:=h.sml.1;omega) h.h100 (aL x) h.hx (by omega) (by omega) (fun _ _ _=> .inr (.inr (.inr (.inr ⟨ho,fun Y sv' hM=> ?_⟩))));have e1:Sp.stepX im inp T cells x f fs s= .go ⟨{f with pc:=x.b}::fs,s⟩:=by simp[Sp.stepX,ho]
 rw[a0]at hM;rw[e1];exact⟨rfl,_,_,_,_,_,cn,_,by omega,hM⟩
theorem Bs (h:At w0 w im T mb tx tv bw cells ans inp r rs f fs s vo vb gs fv cn sn b x st l) (ho:x.op.toNat=102):
  Calls Tryz.prog 88 #[.pointer (some ⟨mb,0,none⟩)] w (fun en w'=> ∃e,en= .returned (.int .i64 e)∧dv w0 im T mb tx tv bw cells ans inp cn (Sp.stepX im inp T cells x f fs s) e w'):=by
 obtain⟨st',l',he⟩:=h.eff;obtain⟨hf,_,_⟩:=bC (by omega) (by omega) he;simp[bB,arith,ho]at hf;obtain⟨f1,f2⟩:=eC hf;obtain⟨n,hn,n1,n2⟩:=(h.top.stk.t1 f1).toInt h.fit.wf.cls h.fit.wf.nc h.mt.ht f2;have hl:=h.top.stk.len;have a2:(ay (im.classes.map toX) im.sigs (aL x).op (aL x).cls (aL x).num (aN im.sigs r.b).ans).length=1:=by simp[ay,aL,ho]
 refine gS (fun e w'=>dv w0 im T mb tx tv bw cells ans inp cn (Sp.stepX im inp T cells x f fs s) e w') h.mc h.tx h.hcl h.nsg (by have:=h.sml.1;omega) h.h100 (aL x) h.hx (by omega) (by omega) (fun Y sv' hM=> .inr (.inr (.inr (.inl ⟨ho,?_⟩))));rw[a2]at hM⊢;refine(Bj hM (by have:=h.sml.2;simp;omega) (aL x).num _).mono ?_;rintro en w1 ⟨rfl,a0⟩;refine⟨rfl,?_⟩;have e1:Sp.stepX im inp T cells x f fs s= .go ⟨{f with stk:=cI f.stk,pc:=if(cO f.stk).N=0 then x.b else f.pc+1}::fs,s⟩:=by simp[Sp.stepX,ho]
 have a1:tkA 1 f.stk= .i n:=hn;rw[a1]at a0;rw[e1,hn];exact⟨rfl,_,_,_,_,_,cn,_,by omega,a0⟩
theorem Bt (h:At w0 w im T mb tx tv bw cells ans inp r rs f fs s vo vb gs fv cn sn b x st l) (ho:x.op.toNat=108):
  Calls Tryz.prog 88 #[.pointer (some ⟨mb,0,none⟩)] w (fun en w'=> ∃e,en= .returned (.int .i64 e)∧dv w0 im T mb tx tv bw cells ans inp cn (Sp.stepX im inp T cells x f fs s) e w'):=by
 have a0:=h.fit.wf.bod b (List.mem_of_getElem? h.top.bd);have a4:=a0.code x (List.mem_of_getElem? h.top.ins);have hb:=a4.loc (Or.inl ho)
 have a5:f.loc.length=b.locals.length:=by
  obtain⟨t,ht,_⟩:=h.fit.tab h.top.bd;have hk:=(cP ht).1 h.top.st;rw[h.top.loc.len,((h.fit.wt f.q b t h.top.bd ht).2 f.pc st l hk).1.2.2]
 have a3:(ay (im.classes.map toX) im.sigs (aL x).op (aL x).cls (aL x).num (aN im.sigs r.b).ans).length=0:=by simp[ay,aL,ho]
 have hu:f.loc[x.b]?=some (f.loc.getD x.b .z):=by
  rw[List.getD_eq_getElem?_getD,List.getElem?_eq_getElem (show x.b<f.loc.length by omega)]
  rfl
 have a2:(aF (im.classes.map toX) im.sigs (aL x).op (aL x).cls (aL x).num (aN im.sigs r.b).locals).toNat≠0:=by
  have e:aF (im.classes.map toX) im.sigs (aL x).op (aL x).cls (aL x).num (aN im.sigs r.b).locals=bM r.b.locals x.b:=by
   show aF _ _ x.op _ x.b _=_
   unfold aF;rw[if_neg (by omega),if_pos ho]
   rfl
  rw[e,h.rb]
  have hm:b.locals.getD x.b 0∈b.locals:=by
   rw[List.getD_eq_getElem?_getD,List.getElem?_eq_getElem hb];exact List.getElem_mem hb
  have ht:=a0.loc.2 _ hm;unfold bM;rw[if_pos hb];clear hm;generalize b.locals.getD x.b 0=c at ht⊢;simp[cG,aO]at ht;omega
 refine gS (fun e w'=>dv w0 im T mb tx tv bw cells ans inp cn (Sp.stepX im inp T cells x f fs s) e w') h.mc h.tx h.hcl h.nsg (by have:=h.sml.1;omega) h.h100 (aL x) h.hx (by omega) (by omega) (fun Y sv' hM=> .inl ⟨show x.op.toNat≠99∧x.op.toNat≠116∧x.op.toNat≠106∧x.op.toNat≠102 by omega,?_⟩);rw[a3]at hM⊢;refine(Be hM h.tx h.hcl h.nsg (by have:=h.sml.1;simp[tkR];omega) (by have:=h.sml.2;simp;omega) (aL x) _ _ _ ho hu a2).mono ?_;rintro en w1 ⟨rfl,r',a1⟩;refine⟨0,rfl,?_⟩;have e1:Sp.stepX im inp T cells x f fs s= .go ⟨f.on (f.stk++ [f.loc.getD x.b .z])::fs,s⟩:=by simp[Sp.stepX,ho]
 rw[e1];exact⟨rfl,_,_,_,_,_,cn,_,by omega,a1⟩
theorem At.ll (h:At w0 w im T mb tx tv bw cells ans inp r rs f fs s vo vb gs fv cn sn b x st l):f.loc.length=b.locals.length:=by rw[h.top.loc.len,xW h.fit h.top]
theorem At.wx (h:At w0 w im T mb tx tv bw cells ans inp r rs f fs s vo vb gs fv cn sn b x st l):WfX im.classes im.sigs.length b.locals.length x:=(h.fit.wf.bod b (List.mem_of_getElem? h.top.bd)).code x (List.mem_of_getElem? h.top.ins)
theorem Bu (h:At w0 w im T mb tx tv bw cells ans inp r rs f fs s vo vb gs fv cn sn b x st l) (ho:x.op.toNat=115):
  Calls Tryz.prog 88 #[.pointer (some ⟨mb,0,none⟩)] w (fun en w'=> ∃e,en= .returned (.int .i64 e)∧dv w0 im T mb tx tv bw cells ans inp cn (Sp.stepX im inp T cells x f fs s) e w'):=by
 obtain⟨st',l',he⟩:=h.eff;obtain⟨k,hk,_,_⟩:=kB (by omega) he;obtain⟨_,q1,_⟩:=fa (by omega) hk;have hl:=h.top.stk.len;have hb:=h.wx.loc (Or.inr ho);have a3:=h.ll;have a2:(ay (im.classes.map toX) im.sigs (aL x).op (aL x).cls (aL x).num (aN im.sigs r.b).ans).length=1:=by simp[ay,aL,ho]
 have a1:(aF (im.classes.map toX) im.sigs (aL x).op (aL x).cls (aL x).num (aN im.sigs r.b).locals).toNat=0:=by
  show(aF _ _ x.op _ x.b _).toNat=0
  simp[aF,ho]
 refine gS (fun e w'=>dv w0 im T mb tx tv bw cells ans inp cn (Sp.stepX im inp T cells x f fs s) e w') h.mc h.tx h.hcl h.nsg (by have:=h.sml.1;omega) h.h100 (aL x) h.hx (by omega) (by omega) (fun Y sv' hM=> .inl ⟨show x.op.toNat≠99∧x.op.toNat≠116∧x.op.toNat≠106∧x.op.toNat≠102 by omega,?_⟩);rw[a2]at hM⊢;refine(Bf hM h.tx h.hcl h.nsg (Nat.le_trans (uY 1 f.stk) (by have:=h.sml.1;omega)) (by have:=h.sml.2;simp;omega) (aL x) _ _ ho (by show x.b<f.loc.length;omega) a1).mono ?_;rintro en w1 ⟨rfl,r',a0⟩;refine⟨0,rfl,?_⟩;have e1:Sp.stepX im inp T cells x f fs s= .go ⟨{f.on (cI f.stk)with loc:=f.loc.set x.b (cO f.stk)}::fs,s⟩:=by simp[Sp.stepX,ho]
 rw[e1];exact⟨rfl,_,_,_,_,_,cn,_,by omega,a0⟩
theorem Bv (h:At w0 w im T mb tx tv bw cells ans inp r rs f fs s vo vb gs fv cn sn b x st l) (ho:x.op.toNat=101):
  Calls Tryz.prog 88 #[.pointer (some ⟨mb,0,none⟩)] w (fun en w'=> ∃e,en= .returned (.int .i64 e)∧dv w0 im T mb tx tv bw cells ans inp cn (Sp.stepX im inp T cells x f fs s) e w'):=by
 obtain⟨st',l',he⟩:=h.eff;obtain⟨k,hk,_,_⟩:=eD (by omega) (by omega) he;obtain⟨_,q1,q3,q2⟩:=nK (by rw[ho]at hk;exact hk);have hl:=h.top.stk.len;have hu:=((h.top.stk.t2 q1).toRef q2).ref q2;have hv:=((h.top.stk.t1 (by omega)).toRef q3).ref q3
 have a0:xO (jW f.stk)=xO (cO f.stk)↔jW f.stk=cO f.stk:=by
  refine⟨fun e=> ?_,fun e=>by rw[e]⟩;rcases hu with hu| ⟨j,_,hu,_⟩<;>rcases hv with hv| ⟨j',_,hv,_⟩<;>rw[hu,hv]at e⊢ <;>simp only[xO]at e
  ·omega
  ·omega
  ·have:j=j':=by omega
   rw[this]
 refine h.doP 2 (by simp[ay,ho]) (by omega) (by omega) (by omega) (by simp[aF,ho]) (.ok (if jW f.stk=cO f.stk then .i 1 else .i 0) [] s) (fun P' X hX=> ?_) _ (by simp[srP,Sp.stepX,ho,tkR]);rw[dp ho];exact Az hX _ _ a0 _ _ _ _ _ _
theorem Bw (h:At w0 w im T mb tx tv bw cells ans inp r rs f fs s vo vb gs fv cn sn b x st l) (h4:s.heap.length≤4000) (ho:x.op.toNat=103):
  Calls Tryz.prog 88 #[.pointer (some ⟨mb,0,none⟩)] w (fun en w'=> ∃e,en= .returned (.int .i64 e)∧dv w0 im T mb tx tv bw cells ans inp cn (Sp.stepX im inp T cells x f fs s) e w'):=by
 obtain⟨st',l',he⟩:=h.eff;obtain⟨hf,_,_⟩:=bC (by omega) (by omega) he;simp[bB,arith,ho]at hf;obtain⟨f1,f2⟩:=eC hf;have hl:=h.top.stk.len;have hcl:=h.wx.cls (by omega);have a6:=h.fit.wf.nc;obtain⟨a1,a5⟩:=dD (a:=x.a) (by omega);have hv:=((h.top.stk.t1 f1).sub h.fit.wf.cls h.fit.wf.nc h.mt.ht f2).toRef (bR a1)
 have a3:(aF (im.classes.map toX) im.sigs x.op (aL x).cls x.b (aN im.sigs r.b).locals).toNat≠0:=by
  have a2:=h.wx.fld (by omega);have a0:=lO h.fit.wf hcl a2;have ec:(aL x).cls=UInt8.ofNat (65+x.a):=by simp[aL,ho]
  unfold aF;rw[if_neg (by omega),if_neg (by omega),if_neg (by omega),if_neg (by omega),if_pos ho,ec,jE a6 hcl];unfold bM;rw[if_pos (show x.b<(bc im.classes x.a).length from a2)];have a0:cG im.classes.length ((bc im.classes x.a).getD x.b 0)=true:=a0;generalize (bc im.classes x.a).getD x.b 0=c at a0⊢;simp[cG,aO]at a0;omega
 have a4:(ay (im.classes.map toX) im.sigs x.op (aL x).cls x.b (aN im.sigs r.b).ans).length=1:=by simp[ay,ho]
 rcases hv.ref (bR a1)with e| ⟨k,ob,e,hk,_,hu⟩
 ·refine h.doP 1 a4 (by omega) (by omega) (by omega) a3 (.bad 6 s.out) (fun P' X hX=> ?_) _ (by simp[srP,Sp.stepX,ho,e]);rw[dp ho];simp only[tkA,e];exact yF hX h4 _ _ _ _ _ _ _
 ·rw[a5]at hu;obtain⟨g1,g2⟩:=jS h.fit h.mt.ht hcl (h.wx.fld (by omega)) hk hu;refine h.doP 1 a4 (by omega) (by omega) (by omega) a3 (.ok (ob.fs.getD x.b .z) [] s) (fun P' X hX=> ?_) _ (by simp[srP,Sp.stepX,ho,e,tkR,(Ev.at hk).2]);rw[dp ho];simp only[tkA,e];exact yG hX h4 hk _ _ _ _ _ _ _ _ (by rw[List.getD_eq_getElem?_getD,List.getElem?_eq_getElem g1];rfl)
theorem Bx (h:At w0 w im T mb tx tv bw cells ans inp r rs f fs s vo vb gs fv cn sn b x st l) (h4:s.heap.length≤4000) (ho:x.op.toNat=112):
  Calls Tryz.prog 88 #[.pointer (some ⟨mb,0,none⟩)] w (fun en w'=> ∃e,en= .returned (.int .i64 e)∧dv w0 im T mb tx tv bw cells ans inp cn (Sp.stepX im inp T cells x f fs s) e w'):=by
 obtain⟨st',l',he⟩:=h.eff;obtain⟨hf,_,_⟩:=bC (by omega) (by omega) he;simp[bB,arith,ho]at hf;obtain⟨f1,f2,f3⟩:=fI hf;have hl:=h.top.stk.len;have hcl:=h.wx.cls (by omega);have a4:=h.fit.wf.nc;obtain⟨a0,a3⟩:=dD (a:=x.a) (by omega);have hv:=((h.top.stk.t2 f1).sub h.fit.wf.cls h.fit.wf.nc h.mt.ht f2).toRef (bR a0);have a1:(aF (im.classes.map toX) im.sigs x.op (aL x).cls x.b (aN im.sigs r.b).locals).toNat=0:=by simp[aF,ho]
 have a2:(ay (im.classes.map toX) im.sigs x.op (aL x).cls x.b (aN im.sigs r.b).ans).length=2:=by simp[ay,ho]
 rcases hv.ref (bR a0)with e| ⟨k,ob,e,hk,_,hu⟩
 ·refine h.doN 2 a2 (by omega) (by omega) (by omega) a1 (.bad 6 s.out) (fun P' X hX=> ?_) _ (by simp[srN,Sp.stepX,ho,e]);rw[dp ho];simp only[tkA,e];exact yH hX h4 _ _ _ _ _ _ _
 ·rw[a3]at hu;obtain⟨g1,g2⟩:=jS h.fit h.mt.ht hcl (h.wx.fld (by omega)) hk hu;refine h.doN 2 a2 (by omega) (by omega) (by omega) a1 (.ok (.i 0) [] (s.put k x.b (cO f.stk))) (fun P' X hX=> ?_) _ (by simp[srN,Sp.stepX,ho,e,tkR]);rw[dp ho];simp only[tkA,tkB,e];exact yI hX h4 hk _ _ _ _ _ _ _ g1
theorem By (h:At w0 w im T mb tx tv bw cells ans inp r rs f fs s vo vb gs fv cn sn b x st l) (h4:s.heap.length≤4000) (ho:x.op.toNat=120):
  Calls Tryz.prog 88 #[.pointer (some ⟨mb,0,none⟩)] w (fun en w'=> ∃e,en= .returned (.int .i64 e)∧dv w0 im T mb tx tv bw cells ans inp cn (Sp.stepX im inp T cells x f fs s) e w'):=by
 obtain⟨st',l',he⟩:=h.eff;obtain⟨k,hk,_,_⟩:=eD (by omega) (by omega) he;obtain⟨_,q1,q2⟩:=fa (by omega) hk;have q2:=q2 ho;have hl:=h.top.stk.len;have hcl:=h.wx.cls (by omega);have a4:=h.fit.wf.nc;have hv:=(h.top.stk.t1 q1).toRef q2;have ec:(aL x).cls=UInt8.ofNat (65+x.a):=by simp[aL,ho]
 have a1:(aF (im.classes.map toX) im.sigs x.op (aL x).cls x.b (aN im.sigs r.b).locals).toNat≠0:=by
  have:=ep (a:=x.a) (by omega);unfold aF;rw[if_neg (by omega),if_neg (by omega),if_pos (by omega),ec,this];omega
 have a2:(ay (im.classes.map toX) im.sigs x.op (aL x).cls x.b (aN im.sigs r.b).ans).length=1:=by simp[ay,ho]
 have a0:cI f.stk++ [cO f.stk]=f.stk:=lP (by omega);rcases hv.ref q2 with e| ⟨k,ob,e,hk,_,hu⟩
 ·refine h.doP 1 a2 (by omega) (by omega) (by omega) a1 (.ok .z [] s) (fun P' X hX=> ?_) _ ?_
  ·rw[dp ho];simp only[tkA,e];exact yJ hX h4 _ _ _ _ _ _ _
  ·rw[e]at a0;simp[srP,Sp.stepX,ho,e,tkR,a0]
 ·have a5:=h.mt.ht.cls k ob hk;have a3:=pC h.fit.wf.cls a4 hcl a5;refine h.doP 1 a2 (by omega) (by omega) (by omega) a1 (if df (im.classes.map toX) (UInt8.ofNat (65+x.a)) (im.classes.map toX).length (UInt8.ofNat (65+ob.cls))=true then .ok (.o k) [] s else .bad 8 s.out) (fun P' X hX=> ?_) _ ?_
  ·rw[dp ho,ec];simp only[tkA,e];exact yK hX h4 hk (im.classes.map toX) h.hcl h.tx.cls _ (ep (by omega)) _ _ _ _ _ _ _
  ·rw[e]at a0;rw[a3]
   by_cases hb:bO im.classes 5 ob.cls x.a=true
   ·simp[srP,Sp.stepX,ho,e,tkR,a0,(Ev.at hk).1,hb]
   ·simp[srP,Sp.stepX,ho,e,tkR,a0,(Ev.at hk).1,hb]
theorem Bz (h:At w0 w im T mb tx tv bw cells ans inp r rs f fs s vo vb gs fv cn sn b x st l) (ho:x.op.toNat=116):
  Calls Tryz.prog 88 #[.pointer (some ⟨mb,0,none⟩)] w (fun en w'=> ∃e,en= .returned (.int .i64 e)∧dv w0 im T mb tx tv bw cells ans inp cn (Sp.stepX im inp T cells x f fs s) e w'):=by
 obtain⟨st',l',he⟩:=h.eff;obtain⟨hf,_,_⟩:=bC (by omega) (by omega) he;simp[bB,arith,ho]at hf;have f1:1≤st.length:=by split at hf<;>exact(eC hf).1
 have hl:=h.top.stk.len;have a2:(ay (im.classes.map toX) im.sigs (aL x).op (aL x).cls (aL x).num (aN im.sigs r.b).ans).length=1:=by simp[ay,aL,ho]
 have a3:tkA 1 f.stk=cO f.stk:=rfl;refine gS (fun e w'=>dv w0 im T mb tx tv bw cells ans inp cn (Sp.stepX im inp T cells x f fs s) e w') h.mc h.tx h.hcl h.nsg (by have:=h.sml.1;omega) h.h100 (aL x) h.hx (by omega) (by omega) (fun Y sv' hM=> .inr (.inr (.inl ⟨ho,?_⟩)));rw[a2]at hM⊢;have a0:=uX h.fit h.mt
 match fs,rs,hM,a0 with
 | [],[],hM,_=>
  refine(Bk hM _).mono ?_;rintro en w1 ⟨rfl,a1⟩;refine⟨rfl,?_⟩;have e1:Sp.stepX im inp T cells x f [] s= .fin (cO f.stk) s.out:=by simp[Sp.stepX,ho]
  rw[e1];exact⟨rfl,s,_,_,_,_,_,_,rfl,a1⟩
 | [],q::rs2,hM,_=>exact hM.fr.2.1.elim
 |g::fs2,[],hM,_=>exact hM.fr.2.1.elim
 |g::fs2,q::rs2,hM,a0=>
  have hg:=a0.1 g (List.mem_cons_of_mem _ (List.mem_cons_self ..));have a4:=a0.2 g (List.mem_cons_of_mem _ (List.mem_cons_self ..));refine(Bl hM (by omega) (by omega) _).mono ?_;rintro en w1 ⟨rfl,q',a1⟩;refine⟨rfl,?_⟩;have e1:Sp.stepX im inp T cells x f (g::fs2) s= .go ⟨g.on (g.stk++ [cO f.stk])::fs2,s⟩:=by simp[Sp.stepX,ho]
  rw[e1];exact⟨rfl,_,_,_,_,_,cn,_,by omega,a1⟩
theorem BA (h:At w0 w im T mb tx tv bw cells ans inp r rs f fs s vo vb gs fv cn sn b x st l) (h4:s.heap.length≤4000) (hcn:cn≤100000) (ho:x.op.toNat=110):
  Calls Tryz.prog 88 #[.pointer (some ⟨mb,0,none⟩)] w (fun en w'=> ∃e,en= .returned (.int .i64 e)∧dv w0 im T mb tx tv bw cells ans inp cn (Sp.stepX im inp T cells x f fs s) e w'):=by
 have hcl:=h.wx.cls (by omega);have a2:=h.fit.wf.nc;have ec:(aL x).cls=UInt8.ofNat (65+x.a):=by simp[aL,ho]
 have a0:=jE a2 hcl;have a9:=ju h.fit.wf.cls a2 (UInt8.ofNat (65+x.a));have a3:=(uX h.fit h.mt).1;have a6:=wW h.fit.wf h.mt.ht
 have a5:(aF (im.classes.map toX) im.sigs (aL x).op (aL x).cls (aL x).num (aN im.sigs r.b).locals).toNat≠0:=by
  have:=ep (a:=x.a) (by omega)
  show(aF _ _ x.op _ x.b _).toNat≠0
  unfold aF;rw[if_neg (by omega),if_neg (by omega),if_pos (by omega),ec,this];omega
 have a8:(ay (im.classes.map toX) im.sigs (aL x).op (aL x).cls (aL x).num (aN im.sigs r.b).ans).length=0:=by simp[ay,aL,ho]
 refine gS (fun e w'=>dv w0 im T mb tx tv bw cells ans inp cn (Sp.stepX im inp T cells x f fs s) e w') h.mc h.tx h.hcl h.nsg (by have:=h.sml.1;omega) h.h100 (aL x) h.hx (by omega) (by omega) (fun Y sv' hM=> .inl ⟨show x.op.toNat≠99∧x.op.toNat≠116∧x.op.toNat≠106∧x.op.toNat≠102 by omega,?_⟩);rw[a8]at hM⊢;have hM:McQ w0 Y im T mb tx tv bw cells ans inp ({r with sv:=sv'}::rs) (f::fs) s vo vb gs fv cn sn:=hM;have hH:=fun(Z:World) (hZ:But (fun _=>False) Y Z)=>sV (hM.new hZ) h4 hcn a3 h.mt.dep (im.classes.map toX) h.hcl h.tx.cls a6 (aL x).cls (by rw[ec];omega)
 have a7:(bH (im.classes.map toX) (aL x).cls).length=(cC im.classes x.a).length:=by rw[ec,a0];simp[cC,bc]
 rw[a7]at hH
 by_cases hr:d9 s.heap (iD T (f::fs))+(1+(cC im.classes x.a).length)≤cells
 ·rw[decide_eq_true hr]at hH;refine(Bh hM h.tx h.hcl h.nsg (by have:=h.sml.1;omega) (by have:=h.sml.2;omega) (aL x) _ _ ho a5 (.ok (.o s.heap.length) [] {s with heap:=s.heap++ [⟨x.a,cC im.classes x.a⟩]}) hH (fun P' X sn' hX=> ?_)).mono ?_
  ·rw[dp ho];exact AA hX h4 (im.classes.map toX) h.hcl h.tx.cls ⟨x.a,cC im.classes x.a⟩ (bc im.classes x.a) _ _ _ _ _ _ _ _ (by rw[ec];exact ep (by omega)) (by rw[ec];exact a0) (by rw[←a0];omega) rfl
  ·rintro en w1 ⟨u,e,s',vo',vb',gs',fv',sn',r',h1,rfl,h3⟩;obtain⟨rfl,rfl,rfl⟩:=h1;refine⟨0,rfl,?_⟩
   have e1:Sp.stepX im inp T cells x f fs s= .go ⟨f.on (f.stk++ [.o s.heap.length])::fs,{s with heap:=s.heap++ [⟨x.a,cC im.classes x.a⟩]}⟩:=by
    have a1: ¬(d9 s.heap (iD T (f::fs))+1+(cC im.classes x.a).length>cells):=by omega
    simp only[Sp.stepX,ho];simp[a1]
   rw[e1];exact⟨rfl,_,_,_,_,_,cn+1,_,by omega,h3⟩
 ·rw[decide_eq_false hr]at hH;refine(wV hM (aL x) _ _ ho hH).mono ?_;rintro en w1 ⟨rfl,sn',a4⟩;refine⟨5,rfl,?_⟩
  have e1:Sp.stepX im inp T cells x f fs s= .bad 9 s.out:=by
   have a1:d9 s.heap (iD T (f::fs))+1+(cC im.classes x.a).length>cells:=by omega
   simp only[Sp.stepX,ho];simp[a1]
  rw[e1];exact⟨rfl,_,_,s,_,_,_,_,_,_,rfl,a4⟩
end
end
end Go.Proofs.YtpfkkmacakjmbaaGreatDoor
