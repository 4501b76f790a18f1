import Derived.Test.YtpfkkmacakjmbaaGreatDoorP38
import Derived.Test.YtpfkkmacakjmbaaGreatDoorP36
set_option maxRecDepth 100000
set_option maxHeartbeats 6400000
set_option linter.unusedSimpArgs false
set_option linter.unusedVariables false
namespace Go.Proofs.YtpfkkmacakjmbaaGreatDoor
section
open Go Go.RowKit Sp
attribute [local go_sem ↓] Go.wp_at_zero Go.wp_at_succ
structure Fr where
 fb:Nat
 bl:Nat
 sg:Nat
 vl:Value
 vi:Value
 lv:Value
 sv:Value
 b:Bod
 tab:List St
def lW (r:Fr) (k:Nat):Prop:=k=r.fb∨k=r.bl∨r.lv.ownBlock=some k∨r.sv.ownBlock=some k
structure FrM (w0 w:World) (im:Img) (T:eJ) (ca:Option Nat) (d:Nat) (r:Fr) (f:Fm):Prop where
 hb:im.bodies[f.q]?=some r.b
 ht:T[f.q]?=some r.tab
 fr:FbB w r.fb ca d (aW im.sigs r.b) r.vl r.vi (.slice (some ⟨r.sg,0,none⟩) r.tab.length r.tab.length) f.pc r.bl r.sv
 lb:w.heap[r.bl]?=some (.cells #[r.lv] 280)
 lo:w.ownsRow w0.heap.size 168 2 r.lv f.loc.length (aE f.loc)
 st:w.ownsRow w0.heap.size 168 2 r.sv f.stk.length (aE f.stk)
 bt:BtB w0 0 r.vl (aW im.sigs r.b).locals
 it:ItB w0 0 r.vi (aW im.sigs r.b).items
 tb:StB w0 r.sg r.tab
 ap: ∀k,r.lv.ownBlock=some k→r.sv.ownBlock≠some k
 g1:w0.heap.size≤r.fb
 g2:w0.heap.size≤r.bl
def nr:List Fr→Option Nat
 | []=>none
 |r::_=>some r.fb
def nU (w0 w:World) (im:Img) (T:eJ):List Fr→List Fm→Prop
 | [],[]=>True
 |r::rs,f::fs=>FrM w0 w im T (nr rs) (fs.length+1) r f∧nU w0 w im T rs fs∧ ∀k,lW r k→ ∀q∈rs,¬lW q k
 |_,_=>False
section
variable {w0 w w':World} {im:Img} {T:eJ} {ca:Option Nat} {d:Nat} {r:Fr} {f:Fm}
theorem FrM.ge (h:FrM w0 w im T ca d r f) {k:Nat} (hk:lW r k):w0.heap.size≤k:=by
 rcases hk with rfl|rfl|hk|hk
 ·exact h.g1
 ·exact h.g2
 ·exact aj h.lo k hk
 ·exact aj h.st k hk
theorem FrM.lt (h:FrM w0 w im T ca d r f) {k:Nat} (hk:lW r k):k<w.heap.size:=by
 rcases hk with rfl|rfl|hk|hk
 ·exact h.fr.lt
 ·exact ae h.lb
 ·exact aS h.lo k hk
 ·exact aS h.st k hk
theorem FrM.nb (h:FrM w0 w im T ca d r f) {k:Nat} (hk:lW r k) (c:Array Value) (fz:Nat×Nat):w.heap[k]?≠some (.cells c 5 fz):=fun e=>by
 rcases hk with rfl|rfl|hk|hk
 ·exact bO h.fr e (by decide) rfl
 ·exact bO h.lb e (by decide) rfl
 ·exact aN h.lo e (by decide) hk
 ·exact aN h.st e (by decide) hk
theorem FrM.but {F:Nat→Prop} (h:FrM w0 w im T ca d r f) (hb:But F w w') (hf: ∀k,lW r k→ ¬F k):FrM w0 w' im T ca d r f:=
 ⟨h.hb,h.ht,h.fr.but hb (hf _ (Or.inl rfl)),(hb.block r.bl (ae h.lb) (hf _ (Or.inr (Or.inl rfl)))).trans h.lb,ah h.lo hb (fun k hk=>hf k (Or.inr (Or.inr (Or.inl hk)))),ah h.st hb (fun k hk=>hf k (Or.inr (Or.inr (Or.inr hk)))),h.bt,h.it,h.tb,h.ap,h.g1,h.g2⟩
theorem nU.but {F:Nat→Prop}: ∀{rs:List Fr} {fs:List Fm},nU w0 w im T rs fs→But F w w'→(∀r∈rs,∀k,lW r k→ ¬F k)→nU w0 w' im T rs fs
 | [],[],_,_,_=>trivial
 |r::rs,f::fs,h,hb,hf=>⟨h.1.but hb (hf r (List.mem_cons_self ..)),nU.but h.2.1 hb (fun q hq=>hf q (List.mem_cons_of_mem _ hq)),h.2.2⟩
 | [],_::_,h,_,_=>h.elim
 |_::_,[],h,_,_=>h.elim
theorem nU.mem: ∀{rs:List Fr} {fs:List Fm},nU w0 w im T rs fs→ ∀r∈rs,∃ca d f,FrM w0 w im T ca d r f
 | [],[],_,r,hr=>by cases hr
 |q::rs,f::fs,h,r,hr=>by
  rcases List.mem_cons.1 hr with rfl|hr
  ·exact⟨_,_,_,h.1⟩
  ·exact nU.mem h.2.1 r hr
 | [],_::_,h,_,_=>h.elim
 |_::_,[],h,_,_=>h.elim
end
abbrev kN (mb:Nat) (rs:List Fr) (k:Nat):Prop:=k=mb∨ ∃r∈rs,lW r k
structure McQ (w0 w:World) (im:Img) (T:eJ) (mb tx:Nat) (tv:Value) (bw cells:Nat) (ans:Int) (inp:ByteArray) (rs:List Fr) (fs:List Fm) (s:Ev) (vo vb:Value) (gs:List Nat) (fv:List Value) (cn:Int) (sn:Nat→Int):Prop where
 wd:WdQ (kN mb rs) w0 w bw tx inp s vo vb gs fv cn sn
 mc:MbB w mb tx tv bw cells (nr rs) ans
 fr:nU w0 w im T rs fs
 gm:w0.heap.size≤mb
section
variable {w0 w w':World} {im:Img} {T:eJ} {mb tx:Nat} {tv:Value} {bw cells:Nat} {ans:Int} {inp:ByteArray} {rs:List Fr} {fs:List Fm} {s:Ev} {vo vb:Value} {gs:List Nat} {fv:List Value} {cn:Int} {sn:Nat→Int}
theorem McQ.off (h:McQ w0 w im T mb tx tv bw cells ans inp rs fs s vo vb gs fv cn sn) {r:Fr} (hr:r∈rs): ¬lW r mb:=fun hk=>by
 obtain⟨ca,d,f,hf⟩:=h.fr.mem r hr;rcases hk with e|e|e|e
 ·exact bO hf.fr h.mc (by decide) e.symm
 ·exact bO hf.lb h.mc (by decide) e.symm
 ·exact aN hf.lo h.mc (by decide) e
 ·exact aN hf.st h.mc (by decide) e
theorem McQ.new (h:McQ w0 w im T mb tx tv bw cells ans inp rs fs s vo vb gs fv cn sn) (hB:But (fun _=>False) w w'):McQ w0 w' im T mb tx tv bw cells ans inp rs fs s vo vb gs fv cn sn:=
 ⟨h.wd.new hB,h.mc.but hB nF,h.fr.but hB (fun _ _ _ _ h=>h),h.gm⟩
theorem McQ.turn {F:Nat→Prop} {s':Ev} {vo' vb':Value} {gs':List Nat} {fv':List Value} {cn':Int} {sn':Nat→Int} (h:McQ w0 w im T mb tx tv bw cells ans inp rs fs s vo vb gs fv cn sn) (hB:But F w w') (hF: ∀k,F k→ ¬kN mb rs k) (hw:WdQ (kN mb rs) w0 w' bw tx inp s' vo' vb' gs' fv' cn' sn'):McQ w0 w' im T mb tx tv bw cells ans inp rs fs s' vo' vb' gs' fv' cn' sn':=
 ⟨hw,h.mc.but hB (fun hf=>hF _ hf (Or.inl rfl)),h.fr.but hB (fun r hr k hk hf=>hF k hf (Or.inr ⟨r,hr,hk⟩)),h.gm⟩
theorem McQ.step {F:Nat→Prop} {rs':List Fr} {fs':List Fm} {ans':Int} (h:McQ w0 w im T mb tx tv bw cells ans inp rs fs s vo vb gs fv cn sn) (hB:But F w w') (hF: ∀k,F k→kN mb rs k) (hm:MbB w' mb tx tv bw cells (nr rs') ans') (hr:nU w0 w' im T rs' fs') (hn: ∀k,kN mb rs' k→kN mb rs k∨w.heap.size≤k):McQ w0 w' im T mb tx tv bw cells ans' inp rs' fs' s vo vb gs fv cn sn:=by
 have a0: ∀k,kN mb rs k→w0.heap.size≤k:=fun k hk=>by
  rcases hk with rfl| ⟨r,hr,hk⟩
  ·exact h.gm
  ·obtain⟨ca,d,f,hf⟩:=h.fr.mem r hr;exact hf.ge hk
 have a:=(h.wd.less (Q:=fun _=>False) (fun _ h=>h.elim)).but hB (fun k hk=>a0 k (hF k hk)) (fun k hk hf=>(h.wd.own k hk).2 (hF k hf)) (fun _ h=>h.elim);refine⟨⟨a.old,a.wd,a.out,a.ob,a.lg,a.lf,a.obs,a.nd,fun k hk=>⟨(h.wd.own k hk).1,fun hp=> ?_⟩,fun k hk=> ?_,a.sf,a.se⟩,hm,hr,h.gm⟩
 ·rcases hn k hp with hp|hp
  ·exact(h.wd.own k hk).2 hp
  ·have:=h.wd.lt hk;omega
 ·rcases hk with rfl| ⟨r,a1,hk⟩
  ·exact⟨hm.lt,fun c fz e=>bO hm e (by decide) rfl⟩
  ·obtain⟨ca,d,f,hf⟩:=hr.mem r a1;exact⟨hf.lt hk,fun c fz e=>hf.nb hk c fz e⟩
end
section
variable {w0 w w':World} {im:Img} {T:eJ} {mb tx:Nat} {tv:Value} {bw cells:Nat} {ans:Int} {inp:ByteArray} {r:Fr} {rs:List Fr} {f:Fm} {fs:List Fm} {s:Ev} {vo vb:Value} {gs:List Nat} {fv:List Value} {cn:Int} {sn:Nat→Int}
theorem yx (w:World) (base:Nat):w.ownsRow base 168 2 (.slice none 0 0) 0 (aE []):=⟨rfl,Or.inl ⟨rfl,rfl⟩⟩
end
structure PsW (w W:World) (x:XIt) (u1 u2:V):Prop where
 but:But (fun _=>False) w W
 nb:NB w W
 b0:W.heap[w.heap.size]?=some (.cells #[.int .i64 x.place,.int .u8 x.op.toNat,.int .u8 x.cls.toNat,.int .i64 x.num,.slice x.pa x.pn x.pc] 219)
 b1:cY W (w.heap.size+1) u1
 b2:cY W (w.heap.size+1+1) u2
 sz:W.heap.size=w.heap.size+1+1+1
theorem psW (w:World) (x:XIt) (u1 u2:V):PsW w (((w.alloc (.cells #[.int .i64 x.place,.int .u8 x.op.toNat,.int .u8 x.cls.toNat,.int .i64 x.num,.slice x.pa x.pn x.pc] 219)).alloc (.cells #[.int .i32 (xN u1),.int .i64 (xO u1)] 168)).alloc (.cells #[.int .i32 (xN u2),.int .i64 (xO u2)] 168)) x u1 u2:=by
 refine⟨((But.alloc _ _ _).trans (But.alloc _ _ _)).trans (But.alloc _ _ _),(((NB.refl w).alloc (by decide)).alloc (by decide)).alloc (by decide),?_,?_,CB (by simp) _,by simp⟩
 ·exact(((But.alloc (fun _=>False) _ _).trans (But.alloc _ _ _)).block _ (by simp) nF).trans (heap_alloc_new w _)
 ·exact((But.alloc (fun _=>False) _ _).block _ (by simp) nF).trans (CB (by simp) _)
section
variable {w0 w w':World} {im:Img} {T:eJ} {mb tx:Nat} {tv:Value} {bw cells:Nat} {ans:Int} {inp:ByteArray} {r:Fr} {rs:List Fr} {f:Fm} {fs:List Fm} {s:Ev} {vo vb:Value} {gs:List Nat} {fv:List Value} {cn:Int} {sn:Nat→Int}
theorem McQ.pushed (h:McQ w0 w im T mb tx tv bw cells ans inp (r::rs) (f::fs) s vo vb gs fv cn sn) {sv':Value} {pc':Nat} {stk':List V} (hB:But (fun k=>k=r.fb∨r.sv.ownBlock=some k) w w')
  (hf:FbB w' r.fb (nr rs) (fs.length+1) (aW im.sigs r.b) r.vl r.vi (.slice (some ⟨r.sg,0,none⟩) r.tab.length r.tab.length) pc' r.bl sv') (ho:w'.ownsRow w0.heap.size 168 2 sv' stk'.length (aE stk')) (hs:sv'.ownBlock=r.sv.ownBlock∨ ∃k,sv'.ownBlock=some k∧w.heap.size≤k):
  McQ w0 w' im T mb tx tv bw cells ans inp ({r with sv:=sv'}::rs) ({f with pc:=pc',stk:=stk'}::fs) s vo vb gs fv cn sn:=by
 obtain⟨hF,a0,a1⟩:=h.fr
 have hO: ∀k,lW {r with sv:=sv'} k→lW r k∨w.heap.size≤k:=fun k hk=>by
  rcases hk with e|e|e|e
  ·exact Or.inl (Or.inl e)
  ·exact Or.inl (Or.inr (Or.inl e))
  ·exact Or.inl (Or.inr (Or.inr (Or.inl e)))
  ·rcases hs with h1| ⟨j,h1,h2⟩
   ·exact Or.inl (Or.inr (Or.inr (Or.inr (h1▸e))))
   ·have e:sv'.ownBlock=some k:=e;rw[h1]at e
    cases e
    exact Or.inr h2
 have hR: ∀k,(k=r.fb∨r.sv.ownBlock=some k)→lW r k:=fun k hk=>hk.elim Or.inl (fun e=>Or.inr (Or.inr (Or.inr e)))
 have a3: ¬(mb=r.fb∨r.sv.ownBlock=some mb):=fun e=>h.off (List.mem_cons_self ..) (hR mb e)
 have a5: ∀k,r.lv.ownBlock=some k→ ¬(k=r.fb∨r.sv.ownBlock=some k):=fun k hk e=>by
  rcases e with e|e
  ·exact aN hF.lo hF.fr (by decide) (e▸hk)
  ·exact hF.ap k hk e
 have a4: ¬(r.bl=r.fb∨r.sv.ownBlock=some r.bl):=fun e=>by
  rcases e with e|e
  ·exact bO hF.lb hF.fr (by decide) e
  ·exact aN hF.st hF.lb (by decide) e
 refine h.step hB (fun k hk=>Or.inr ⟨r,List.mem_cons_self ..,hR k hk⟩) (h.mc.but hB a3) ⟨⟨hF.hb,hF.ht,hf,(hB.block r.bl (ae hF.lb) a4).trans hF.lb,ah hF.lo hB a5,ho,hF.bt,hF.it,hF.tb,fun k hk e=> ?_,hF.g1,hF.g2⟩,a0.but hB (fun q hq k hk e=>a1 k (hR k e) q hq hk),fun k hk q hq hk'=> ?_⟩ (fun k hk=> ?_)
 ·have hk:r.lv.ownBlock=some k:=hk;rcases hs with h1| ⟨j,h1,h2⟩
  ·exact hF.ap k hk (h1▸e)
  ·have e:sv'.ownBlock=some k:=e;rw[h1]at e
   cases e
   have:=aS hF.lo _ hk;omega
 ·rcases hO k hk with h1|h1
  ·exact a1 k h1 q hq hk'
  ·obtain⟨ca,d,f',a2⟩:=a0.mem q hq;have:=a2.lt hk';omega
 ·rcases hk with e| ⟨q,hq,hk⟩
  ·exact Or.inl (Or.inl e)
  ·rcases List.mem_cons.1 hq with rfl|hq
   ·rcases hO k hk with h1|h1
    ·exact Or.inl (Or.inr ⟨r,List.mem_cons_self ..,h1⟩)
    ·exact Or.inr h1
   ·exact Or.inl (Or.inr ⟨q,List.mem_cons_of_mem _ hq,hk⟩)
end
theorem tK {x k:Nat} (h:x≠k):((x:Int)==(k:Int))=false:=by rw[beq_eq_false_iff_ne];omega
theorem NB.drewM {w X:World} (h:NB w X):NB w X.drew:=⟨h.but.trans (But.drew _ _),fun k a b=>h.nb k a b⟩
def Bh (rr:R) (u:V) (e:Int) (s':Ev):Prop:=match rr with
 | .ok v _ t=>u=v∧e=0∧s'=t
 | .bad n o=>u= .z∧e=bI n∧s'.out=o
theorem ReW.outs {P:Nat→Prop} {w0 w w':World} {bw tx:Nat} {inp:ByteArray} {cn:Int} {rr:R} {en:Ending} (h:ReW P w0 w bw tx inp cn rr en w'): ∃u e s' vo vb gs fv sn,en= .returned (.tuple #[bn u,.int .i64 e])∧But (FrQ P w0) w w'∧WdQ P w0 w' bw tx inp s' vo vb gs fv cn sn∧Bh rr u e s':=by
 obtain⟨hB,vo,vb,gs,fv,sn,h⟩:=h
 cases rr with
 |ok u l t=>exact⟨u,0,t,vo,vb,gs,fv,sn,h.1,hB,h.2,rfl,rfl,rfl⟩
 |bad n o=>
  obtain⟨h1,s',h2,h3⟩:=h;exact⟨.z,bI n,s',vo,vb,gs,fv,sn,h1,hB,h3,rfl,rfl,h2⟩
def yy (w0:World) (im:Img) (T:eJ) (mb tx:Nat) (tv:Value) (bw cells:Nat) (ans:Int) (inp:ByteArray) (rs:List Fr) (f:Fm) (fs:List Fm) (cn:Int) (rr:R) (psh:Bool) (en:Ending) (w':World):Prop:=
 ∃u e s' vo vb gs fv sn r',Bh rr u e s'∧en= .returned (.int .i64 e)∧McQ w0 w' im T mb tx tv bw cells ans inp (r'::rs) ({f with pc:=f.pc+1,stk:=if psh then f.stk++ [u]else f.stk}::fs) s' vo vb gs fv cn sn
section
variable {w0 w w':World} {im:Img} {T:eJ} {mb tx:Nat} {tv:Value} {bw cells:Nat} {ans:Int} {inp:ByteArray} {r:Fr} {rs:List Fr} {f:Fm} {fs:List Fm} {s:Ev} {vo vb:Value} {gs:List Nat} {fv:List Value} {cn:Int} {sn:Nat→Int}
theorem McQ.did {X w1 W2:World} {rb:Nat} {s':Ev} {vo' vb':Value} {gs':List Nat} {fv':List Value} {sn':Nat→Int} (h:McQ w0 w im T mb tx tv bw cells ans inp rs fs s vo vb gs fv cn sn) (hN:But (fun _=>False) w X) (hB:But (FrQ (PQ (kN mb rs) w X) w0) X w1) (hW:WdQ (PQ (kN mb rs) w X) w0 w1 bw tx inp s' vo' vb' gs' fv' cn sn') (hr:w.heap.size≤rb) (hr2:rb<X.heap.size) (hB3:But (· =rb) w1 W2) (ht: ∀c fz,W2.heap[rb]?≠some (.cells c 5 fz)):McQ w0 W2 im T mb tx tv bw cells ans inp rs fs s' vo' vb' gs' fv' cn sn':=by
 have h0:=h.wd.old.size;have a0: ∀k,kN mb rs k→k<w.heap.size:=fun k hk=>(h.wd.pl k hk).1
 have hT:But (fun k=>FrQ (PQ (kN mb rs) w X) w0 k∨k=rb) X W2:=(hB.mono (fun _ _ h=>Or.inl h)).trans (hB3.mono (fun _ _ h=>Or.inr h));have a1:=hW.tmp hB3 (fun k e=>⟨Or.inr ⟨by have e:k=rb:=e;omega,by have e:k=rb:=e;omega⟩,by have e:k=rb:=e;omega⟩) (fun k e c fz=>by have e:k=rb:=e;rw[e];exact ht c fz);refine(h.new hN).turn hT (fun k hk ho=> ?_) (a1.less (fun k hk=>Or.inl hk));rcases hk with hk|hk
 ·exact hk.2 (Or.inl ho)
 ·have:=a0 k ho;omega
theorem AK (psh:Bool) (h:McQ w0 w im T mb tx tv bw cells ans inp (r::rs) (f::fs) s vo vb gs fv cn sn) (hT:dE w0 tx im) (hcl:(im.classes.map toX).length≤100) (hsg:im.sigs.length≤100) (h4:f.stk.length≤4000) (hpc:f.pc≤1000) (x:XIt) (u1 u2:V) (hx1:x.op.toNat≠108) (hx2:x.op.toNat≠115) (hx3:x.op.toNat≠110) (hly:match psh with|true=>(aH (im.classes.map toX) im.sigs x.op x.cls x.num (aW im.sigs r.b).locals).toNat≠0|false=>(aH (im.classes.map toX) im.sigs x.op x.cls x.num (aW im.sigs r.b).locals).toNat=0) (rr:R)
  (hD: ∀X,NB w X→Calls Tryz.prog 197 #[.pointer (some ⟨bw,0,none⟩),cI x,bn u1,bn u2] X (ReW (PQ (kN mb (r::rs)) w X) w0 X bw tx inp cn rr)):
  Calls Tryz.prog 145 #[.pointer (some ⟨mb,0,none⟩),.pointer (some ⟨r.fb,0,none⟩),cI x,bn u1,bn u2] w (yy w0 im T mb tx tv bw cells ans inp rs f fs cn rr psh):=by
 obtain⟨al,capl,f5⟩:=aq h.fr.1.bt;have i5:BtB w0 0 (.slice al (aW im.sigs r.b).locals.length capl) (aW im.sigs r.b).locals:=f5▸h.fr.1.bt;have g4:=hid (fun(Y:World) (hY:But (fun _=>False) w0 Y)=>ju tx (im.classes.map toX) im.sigs x.place x.num x.op x.cls al capl (aW im.sigs r.b).locals Y (ap:=x.pa) (np:=x.pn) (cp:=x.pc) hcl hsg (hT.cls.but hY) (hT.met.but hY) (i5.but hY (fun _ _ h=>h)));obtain⟨LY,i6⟩: ∃LY,aH (im.classes.map toX) im.sigs x.op x.cls x.num (aW im.sigs r.b).locals=LY:=⟨_,rfl⟩;rw[i6]at g4 hly;have k0:=hid f5;clear i5 i6 f5;have HP:=hid (psW w x u1 u2);have t1:((x.op.toNat:Int)==108)=false:=tK (k:=108) hx1
 have t2:((x.op.toNat:Int)==115)=false:=tK (k:=115) hx2;have t3:((x.op.toNat:Int)==110)=false:=tK (k:=110) hx3;have HD:=hid hD;unfold cI bn at HD;have k2:=h.mc.c2;have f1:=h.mc.lt;have HM:=hid h;clear h hD hx1 hx2 hx3;simp only[cI,bn]
 go_in
 go_wp2_with fail;revert HP;generalize (((w.alloc (.cells #[.int .i64 x.place,.int .u8 x.op.toNat,.int .u8 x.cls.toNat,.int .i64 x.num,.slice x.pa x.pn x.pc] 219)).alloc (.cells #[.int .i32 (xN u1),.int .i64 (xO u1)] 168)).alloc (.cells #[.int .i32 (xN u2),.int .i64 (xO u2)] 168))=W0;intro HP;obtain⟨rb,e3⟩: ∃rb,rb=w.heap.size+1+1+1:=⟨_,rfl⟩;have hP:=HP.out;have hA:=But.alloc (fun _=>False) W0 (.cells #[.int .i32 0,.int .i64 0] 168);have e2:NB w (W0.alloc (.cells #[.int .i32 0,.int .i64 0] 168)):=hP.nb.alloc (by decide);have e5:=(hA.block w.heap.size (ae hP.b0) nF).trans hP.b0;have g2:=hP.b1.but hA nF
 have g3:=hP.b2.but hA nF;have e9:cY (W0.alloc (.cells #[.int .i32 0,.int .i64 0] 168)) rb .z:=CB (by rw[hP.sz,e3]) _;rw[←e3];clear hA;revert e2 e5 g2 g3 e9;generalize (W0.alloc (.cells #[.int .i32 0,.int .i64 0] 168))=W1;intro e2 e5 g2 g3 e9;clear hP HP;have l3:w.heap.size+1≤rb:=by omega
 have j7:Hid (r.sv.ownBlock≠some rb):=fun e=>by have:=aS HM.out.fr.1.st _ e;omega
 clear e3;replace k2:=(e2.but.cell (p:=⟨mb,2,none⟩) f1 nF).trans k2;replace f1:=Nat.lt_of_lt_of_le f1 e2.but.size;obtain⟨i0,i1,i2,i3,i4⟩:=bc e5;obtain⟨a0,a1,_,_,h2⟩:=g2.parts;obtain⟨b0,b1,_,_,h3⟩:=g3.parts;have c7:=ae e5;have a7:But (fun _=>False) W1 W1.drew:=But.drew _ _;refine aB (But (fun _=>False) W1) 7 (by kernel_rfl) ?_
 iterate 7 (refine dt (v:=?_) rfl (by kernel_rfl) (fun _ _ _ h=>h) rfl a7 ?_ ?_;rotate_left;(focus (intro wS h;have q0:=((h.cell (p:=⟨mb,2,none⟩) f1 nF).trans k2);have q1:=((h.cell (p:=⟨w.heap.size,0,none⟩) c7 nF).trans i0);have q2:=((h.cell (p:=⟨w.heap.size,1,none⟩) c7 nF).trans i1);have q3:=((h.cell (p:=⟨w.heap.size,2,none⟩) c7 nF).trans i2);have q4:=((h.cell (p:=⟨w.heap.size,3,none⟩) c7 nF).trans i3);have q5:=((h.cell (p:=⟨w.heap.size,4,none⟩) c7 nF).trans i4);have q6:=((h.cell (p:=⟨w.heap.size+1,0,none⟩) h2 nF).trans a0);have q7:=((h.cell (p:=⟨w.heap.size+1,1,none⟩) h2 nF).trans a1);have q8:=((h.cell (p:=⟨w.heap.size+1+1,0,none⟩) h3 nF).trans b0);have q9:=((h.cell (p:=⟨w.heap.size+1+1,1,none⟩) h3 nF).trans b1);clear h;go_simp;try rfl));dsimp only[Act.put];try simp only[aK])
 clear k2 i0 i1 i2 i3 i4 a0 a1 b0 b1 h2 h3 g2 g3;refine ag rfl (by kernel_rfl) ?_;intro KS hKS;go_simp;refine(HD.out _ e2.drewM).mono ?_;intro en w1 j0;obtain⟨u,e,s',vo',vb',gs',fv',sn',rfl,g0,i7,hR⟩:=j0.outs;clear j0;simp only[bn];refine hKS.out _ _ nofun ?_;clear hKS KS
 iterate 3 (refine mj (v:=?_) rfl (by kernel_rfl) (fun _ _ _ h=>h) rfl ?_ ?_;rotate_left;(focus (intro wS;go_simp;try rfl));dsimp only[Act.put];try simp only[aK])
 have e4:=ae e9;have f4: ¬FrQ (PQ (kN mb (r::rs)) w W1.drew) w0 rb:=fun hh=>hh.2 (Or.inr ⟨by omega,e4⟩)
 have f3: ¬FrQ (PQ (kN mb (r::rs)) w W1.drew) w0 w.heap.size:=fun hh=>hh.2 (Or.inr ⟨by omega,c7⟩)
 have h0:=(e9.but a7 nF).but g0 f4;have g6:=(g0.block w.heap.size c7 f3).trans e5;obtain⟨v0,v1,z0,z1,f5⟩:=h0.parts;simp only[xN,xO]at v0 v1;refine ag rfl (by kernel_rfl) ?_;intro KS hKS;go_simp;refine hKS.out _ _ nofun ?_;clear hKS KS;refine ag rfl (by kernel_rfl) ?_;intro KS hKS;go_simp;refine hKS.out _ _ nofun ?_;clear hKS KS;refine aF rfl (by kernel_rfl) ?_;have a6:But (· =rb) w1 ((w1.setCell ⟨rb,0,none⟩ (.int .i32 (xN u))).setCell ⟨rb,1,none⟩ (.int .i64 (xO u))):=(But.setB _ _ _ _).trans (But.setB _ _ _ _);have h1:=h0.put u;have a8:=hid (HM.out.did e2.drewM.but g0 i7 (by omega) e4 a6 (fun c fz e'=>bO h1 e' (by decide) rfl))
 have e7:=hid ((a6.block w.heap.size (ae g6) (by show¬w.heap.size=rb;omega)).trans g6);have f7:=hid h1;have HR:=hid hR;clear v0 v1 z0 z1 f5 h0 h1 g6 a6 g0 a7 c7 e9 e5 e2 HD HM f1 f4 f3 i7 hR e4;revert a8 e7 f7;generalize ((w1.setCell ⟨rb,0,none⟩ (.int .i32 (xN u))).setCell ⟨rb,1,none⟩ (.int .i64 (xO u)))=W2;intro a8 e7 f7;have m0:=a8.out.mc.c0;have c5:=a8.out.fr.1.fr.body.2.2.2.1;rw[k0.out]at c5;have f2:=a8.out.mc.lt;have f0:=a8.out.fr.1.fr.lt;have a4:=ae e7.out;obtain⟨j1,j2,j3,j4,j5⟩:=bc e7.out;generalize (aW im.sigs r.b).locals.length=nL at*;go_wp2_with fail;have a7:But (fun _=>False) W2 W2.drew:=But.drew _ _
 refine aB (But (fun _=>False) W2) 12 (by kernel_rfl) ?_
 iterate 10 (refine aG (v:=?_) rfl (by kernel_rfl) (fun _ _ _ h=>h) rfl a7 ?_ ?_;rotate_left;(focus (intro wS h;have q0:=((h.cell (p:=⟨mb,0,none⟩) f2 nF).trans m0);have q1:=((h.cell (p:=⟨r.fb,5,none⟩) f0 nF).trans c5);have q2:=((h.cell (p:=⟨w.heap.size,0,none⟩) a4 nF).trans j1);have q3:=((h.cell (p:=⟨w.heap.size,1,none⟩) a4 nF).trans j2);have q4:=((h.cell (p:=⟨w.heap.size,2,none⟩) a4 nF).trans j3);have q5:=((h.cell (p:=⟨w.heap.size,3,none⟩) a4 nF).trans j4);have q6:=((h.cell (p:=⟨w.heap.size,4,none⟩) a4 nF).trans j5);clear h;go_simp;try rfl));dsimp only[Act.put];try simp only[aK])
 clear m0 c5 j1 j2 j3 j4 j5;refine ag rfl (by kernel_rfl) ?_;intro KS hKS;go_simp;refine(g4.out _ (a8.out.wd.old.trans a7)).mono ?_;rintro en w3 ⟨rfl,a6⟩;have e8:=a7.trans a6;refine hKS.out _ _ (fun _=>e8) ?_;clear hKS KS;refine ag rfl (by kernel_rfl) ?_;intro KS hKS;go_simp;refine hKS.out _ _ (fun _=>e8) ?_;clear hKS KS;refine aF rfl (by kernel_rfl) ?_;have a3:=hid (a8.out.new e8);have h8:=hid (f7.out.but e8 nF);clear a8 f7 e7 g4 e8 a7 a6 f2 f0 a4
 cases psh
 ·dsimp only at hly;have l1:(LY.toNat:Int)=0:=by omega
  have c8:=a3.out.fr.1.fr.c8;have z8:=a3.out.fr.1.fr.fz 8;have b5:=a3.out.fr.1.fr.lt;have l5:=dj ((f.pc:Int)+1) (by omega) (by omega);go_wp2_with fail;have e1:=a3.out.pushed (sv':=r.sv) (stk':=f.stk) ((But.setB _ _ _ _).mono (fun _ _ h=>Or.inl h)) (a3.out.fr.1.fr.set8 (f.pc+1)) (ah a3.out.fr.1.st (But.setB _ _ _ _) (fun g hg e=>aN a3.out.fr.1.st a3.out.fr.1.fr (by decide) (e▸hg))) (Or.inl rfl);exact cB (.int .i64 e) Tryz.results145 rfl rfl ⟨u,e,s',vo',vb',gs',fv',sn',_,HR.out,rfl,e1⟩
 ·dsimp only at hly;have l1:(LY.toNat:Int)≠0:=by omega
  obtain⟨i0,l0,l6,m1,m2⟩:=info_parts rV;obtain⟨a2,b3,h5⟩:=aq a3.out.fr.1.st;have g7:=a3.out.fr.1.st;have f8:=a3.out.fr.1.fr.c10;have h9:=a3.out.fr.1.fr.fz 10;have ac:r.sv.ownBlock≠some r.fb:=fun e=>aN a3.out.fr.1.st a3.out.fr.1.fr (by decide) e
  rw[h5]at g7 f8 ac;have g5:=hid h5;clear h5;have b5:=a3.out.fr.1.fr.lt;obtain⟨v0,v1,_,_,f6⟩:=h8.out.parts;have l4:=l3;have av:(Value.slice a2 f.stk.length b3).ownBlock≠some rb:=fun e=>j7.out (g5.out▸e)
  have m3:w0.heap.size≤w3.heap.size:=a3.out.wd.old.size;go_wp2_with fail;have a7:But (fun k=>(Value.slice a2 f.stk.length b3).ownBlock=some k) w3 w3.drew:=But.drew _ _;refine aB (But (fun k=>(Value.slice a2 f.stk.length b3).ownBlock=some k) w3) 8 (by kernel_rfl) ?_
  iterate 6 (refine aG (v:=?_) rfl (by kernel_rfl) (fun _ _ _ h=>h) rfl a7 ?_ ?_;rotate_left;(focus (intro wS h;have q0:=((h.cell (p:=⟨r.fb,10,none⟩) b5 ac).trans f8);have q1:=((h.cell (p:=⟨rb,0,none⟩) f6 av).trans v0);have q2:=((h.cell (p:=⟨rb,1,none⟩) f6 av).trans v1);clear h;go_simp;try rfl));dsimp only[Act.put];try simp only[aK])
  refine ag rfl (by kernel_rfl) ?_;intro KS hKS;go_simp;refine hKS.out _ _ (fun _=>(But.alloc _ _ _).trans (But.drew _ _)) ?_;clear hKS KS;refine ag rfl (by kernel_rfl) ?_;intro KS hKS
  refine step_append_lies _ (by rfl) _ _ _ (by rfl) w0.heap.size 168 i0 _ 2 16 (by kernel_rfl) l0 l6 m1 m2 rfl (by omega) _ f.stk.length (aE f.stk) (by rfl) ((g7.alloc _).drew)
     ⟨w3.heap.size,0,none⟩ 1 1 [.int .i32 (xN u),.int .i64 (xO u)] (by rfl) (by rfl) (World.news_of_block (cs:=#[.int .i32 (xN u),.int .i64 (xO u)]) (t:=168) (fr:=(0,0)) (heap_alloc_new w3 _)) (by simp[Value.oneCell'])
     (by omega) (by unfold maxLen;omega) (by omega) (by simp;omega) (w3.heap.size+1) (by simp) ?_
  intro gg b4 w4 a5 b6 k3 l2;have e6:But (fun k=>(Value.slice a2 f.stk.length b3).ownBlock=some k) w3 w4:=((But.alloc _ _ _).trans (But.drew _ _)).trans (aX b6);refine hKS.out _ _ (fun _=>e6) ?_;clear hKS KS;have y0:=(e6.cell (p:=⟨r.fb,10,none⟩) b5 ac).trans f8;have y1:=(e6.frozen (p:=⟨r.fb,10,none⟩) b5 ac).trans h9;refine ag rfl (by kernel_rfl) ?_;intro KS hKS;go_simp;refine hKS.out _ _ nofun ?_;clear hKS KS;refine ag rfl (by kernel_rfl) ?_;intro KS hKS;go_simp;refine hKS.out _ _ nofun ?_;clear hKS KS;refine ag rfl (by kernel_rfl) ?_;intro KS hKS;go_simp;refine hKS.out _ _ nofun ?_;clear hKS KS
  refine aF rfl (by kernel_rfl) ?_;have e0:=a3.out.fr.1.fr.but e6 ac;have d6:=e0.set10 (.slice (some ⟨gg,0,none⟩) (f.stk.length+1) b4);have g1:=ah a5 (But.setB w4 r.fb 10 (.slice (some ⟨gg,0,none⟩) (f.stk.length+1) b4)) (fun g hg e=>aN a5 e0 (by decide) (e▸hg));have a6:But (fun k=>k=r.fb∨r.sv.ownBlock=some k) w3 (w4.setCell ⟨r.fb,10,none⟩ (.slice (some ⟨gg,0,none⟩) (f.stk.length+1) b4)):=(e6.mono (fun k _ h=>Or.inr (by rw[g5.out];exact h))).trans ((But.setB _ _ _ _).mono (fun _ _ h=>Or.inl h));clear y0 y1 a5 b6 e6 e0 g7 f8 h9 v0 v1 h8;revert d6 g1 a6;generalize (w4.setCell ⟨r.fb,10,none⟩ (.slice (some ⟨gg,0,none⟩) (f.stk.length+1) b4))=W3
  intro d6 g1 a6;have c8:=d6.c8;have z8:=d6.fz 8;have h6:=hid d6;have h7:=hid g1;have l5:=dj ((f.pc:Int)+1) (by omega) (by omega);have k9:=d6.lt;clear d6 g1;go_wp2_with fail;have e1:=a3.out.pushed (stk':=f.stk++ [u]) (a6.trans ((But.setB _ _ _ _).mono (fun _ _ h=>Or.inl h))) (h6.out.set8 (f.pc+1)) (by rw[nm,List.length_append];exact ah h7.out (But.setB _ _ _ _) (fun g hg e=>aN h7.out h6.out (by decide) (e▸hg))) (k3.imp (fun h=>by rw[g5.out];exact h.symm) (fun h=>⟨gg,rfl,by omega⟩));exact cB (.int .i64 e) Tryz.results145 rfl rfl ⟨u,e,s',vo',vb',gs',fv',sn',_,HR.out,rfl,e1⟩
end
def tkA (n:Nat) (s:List V):V:=if n=0 then .z else if n=1 then er s else o9 s
def tkB (n:Nat) (s:List V):V:=if n=2 then er s else .z
def tkR (n:Nat) (s:List V):List V:=if n=0 then s else if n=1 then cO s else jD s
section
variable {w0 w w':World} {im:Img} {T:eJ} {mb tx:Nat} {tv:Value} {bw cells:Nat} {ans:Int} {inp:ByteArray} {r:Fr} {rs:List Fr} {f:Fm} {fs:List Fm} {s:Ev} {vo vb:Value} {gs:List Nat} {fv:List Value} {cn:Int} {sn:Nat→Int}
theorem AL (h:McQ w0 w im T mb tx tv bw cells ans inp (r::rs) (f::fs) s vo vb gs fv cn sn) (n:Nat) (hn:n≤2) (hl:n≤f.stk.length) (h4:f.stk.length≤4000):
  Calls Tryz.prog 141 #[.pointer (some ⟨r.fb,0,none⟩),.int .i64 n] w fun en w'=>en= .returned (.tuple #[bn (tkA n f.stk),bn (tkB n f.stk)])∧But (· =r.fb) w w'∧ ∃sv',McQ w0 w' im T mb tx tv bw cells ans inp ({r with sv:=sv'}::rs) ({f with stk:=tkR n f.stk}::fs) s vo vb gs fv cn sn:=by
 obtain rfl|rfl|rfl:n=0∨n=1∨n=2:=by omega
 ·refine(AH w r.fb).mono ?_;rintro en w1 ⟨rfl,hB⟩;exact⟨rfl,hB.mono (fun _ _ h=>h.elim),r.sv,h.new hB⟩
 ·refine(AI w r.fb _ _ _ _ _ _ _ _ _ _ _ h.fr.1.fr h.fr.1.st hl h4).mono ?_;rintro en w1 ⟨rfl,hB,sv',hF,hO,hE⟩;exact⟨rfl,hB,sv',h.pushed (hB.mono (fun _ _ h=>Or.inl h)) hF hO (Or.inl hE)⟩
 ·refine(AJ w r.fb _ _ _ _ _ _ _ _ _ _ _ h.fr.1.fr h.fr.1.st hl h4).mono ?_;rintro en w1 ⟨rfl,hB,sv',hF,hO,hE⟩;exact⟨rfl,hB,sv',h.pushed (hB.mono (fun _ _ h=>Or.inl h)) hF hO (Or.inl hE)⟩
/--A step,whatever the instruction:what is left to say is what it calls. -/
theorem uk (Q:Int→World→Prop) (h:McQ w0 w im T mb tx tv bw cells ans inp (r::rs) (f::fs) s vo vb gs fv cn sn) (hT:dE w0 tx im) (hcl:(im.classes.map toX).length≤100) (hsg:im.sigs.length≤100) (h4:f.stk.length≤4000) (h100:(aW im.sigs r.b).items.length≤100) (x:XIt) (hx:(aW im.sigs r.b).items[f.pc]?=some x)
  (h2:(az (im.classes.map toX) im.sigs x.op x.cls x.num (aW im.sigs r.b).ans).length≤2) (hl:(az (im.classes.map toX) im.sigs x.op x.cls x.num (aW im.sigs r.b).ans).length≤f.stk.length)
  (hA: ∀Y sv',McQ w0 Y im T mb tx tv bw cells ans inp ({r with sv:=sv'}::rs) ({f with stk:=tkR (az (im.classes.map toX) im.sigs x.op x.cls x.num (aW im.sigs r.b).ans).length f.stk}::fs) s vo vb gs fv cn sn→
   ((x.op.toNat≠99∧x.op.toNat≠116∧x.op.toNat≠106∧x.op.toNat≠102)∧Calls Tryz.prog 145 #[.pointer (some ⟨mb,0,none⟩),.pointer (some ⟨r.fb,0,none⟩),cI x,bn (tkA (az (im.classes.map toX) im.sigs x.op x.cls x.num (aW im.sigs r.b).ans).length f.stk),bn (tkB (az (im.classes.map toX) im.sigs x.op x.cls x.num (aW im.sigs r.b).ans).length f.stk)] Y (fun en w'=> ∃e,en= .returned (.int .i64 e)∧Q e w'))∨
   (x.op.toNat=99∧Calls Tryz.prog 142 #[.pointer (some ⟨mb,0,none⟩),.int .i64 x.num,bn (tkA (az (im.classes.map toX) im.sigs x.op x.cls x.num (aW im.sigs r.b).ans).length f.stk),bn (tkB (az (im.classes.map toX) im.sigs x.op x.cls x.num (aW im.sigs r.b).ans).length f.stk)] Y (fun en w'=> ∃e,en= .returned (.int .i64 e)∧Q e w'))∨
   (x.op.toNat=116∧Calls Tryz.prog 143 #[.pointer (some ⟨mb,0,none⟩),bn (tkA (az (im.classes.map toX) im.sigs x.op x.cls x.num (aW im.sigs r.b).ans).length f.stk)] Y (fun en w'=>en= .returned (.tuple #[])∧Q 0 w'))∨
   (x.op.toNat=102∧Calls Tryz.prog 144 #[.pointer (some ⟨r.fb,0,none⟩),.int .i64 x.num,bn (tkA (az (im.classes.map toX) im.sigs x.op x.cls x.num (aW im.sigs r.b).ans).length f.stk)] Y (fun en w'=>en= .returned (.tuple #[])∧Q 0 w'))∨
   (x.op.toNat=106∧ ∀Z sz,McQ w0 Z im T mb tx tv bw cells ans inp ({r with sv:=sz}::rs) ({f with stk:=tkR (az (im.classes.map toX) im.sigs x.op x.cls x.num (aW im.sigs r.b).ans).length f.stk,pc:=x.num}::fs) s vo vb gs fv cn sn→Q 0 Z)):
  Calls Tryz.prog 88 #[.pointer (some ⟨mb,0,none⟩)] w (fun en w'=> ∃e,en= .returned (.int .i64 e)∧Q e w'):=by
 have b3:=hid (yv _ _ _ _ _ _ _ _ _ _ _ _ h.fr.1.fr (ah h.fr.1.it h.wd.old (fun _ _ h=>h)) x hx h100);have k4:w.cell? ⟨mb,4,none⟩=some (.pointer (some ⟨r.fb,0,none⟩)):=h.mc.c4;have f8:=h.mc.lt;have f7:=h.fr.1.fr.lt;have e4:=hid (fun(Y:World) (hY:But (fun _=>False) w0 Y)=>jU tx (im.classes.map toX) im.sigs x.place x.num x.op x.cls (aW im.sigs r.b).ans Y (ap:=x.pa) (np:=x.pn) (cp:=x.pc) hcl hsg (hT.cls.but hY) (hT.met.but hY));generalize az (im.classes.map toX) im.sigs x.op x.cls x.num (aW im.sigs r.b).ans=TK at*;have HM:=hid h;have HA:=hid hA;unfold cI at b3;clear h hA
 go_in
 go_wp2_with fail;refine b3.out.mono ?_;rintro en w1 ⟨rfl,e5⟩;have e7:But (fun _=>False) w (w1.alloc (.cells #[.int .i64 x.place,.int .u8 x.op.toNat,.int .u8 x.cls.toNat,.int .i64 x.num,.slice x.pa x.pn x.pc] 219)):=e5.trans (But.alloc _ _ _);have e9:=heap_alloc_new w1 (.cells #[.int .i64 x.place,.int .u8 x.op.toNat,.int .u8 x.cls.toNat,.int .i64 x.num,.slice x.pa x.pn x.pc] 219);have g0:=e5.size;have b1:=hid e7;have a3:=hid e9;clear e7 e9 b3 k4;go_wp2_with fail;revert b1 a3;generalize (w1.alloc (.cells #[.int .i64 x.place,.int .u8 x.op.toNat,.int .u8 x.cls.toNat,.int .i64 x.num,.slice x.pa x.pn x.pc] 219))=W1
 intro b1 a3;generalize w1.heap.size=ib at*;have a5:=HM.out.new b1.out;have m0:=a5.mc.c0;have c4:=a5.fr.1.fr.body.2.2.1;have e3:=a5.mc.lt;have e1:=a5.fr.1.fr.lt;obtain⟨i0,i1,i2,i3,i4⟩:=bc a3.out;have a6:=ae a3.out;have b4:=hid a5;clear a5 HM;have b2:But (fun _=>False) W1 W1.drew:=But.drew _ _;refine aB (But (fun _=>False) W1) 12 (by kernel_rfl) ?_
 iterate 10 (refine aG (v:=?_) rfl (by kernel_rfl) (fun _ _ _ h=>h) rfl b2 ?_ ?_;rotate_left;(focus (intro wS h;have q0:=((h.cell (p:=⟨mb,0,none⟩) e3 nF).trans m0);have q1:=((h.cell (p:=⟨r.fb,4,none⟩) e1 nF).trans c4);have q2:=((h.cell (p:=⟨ib,0,none⟩) a6 nF).trans i0);have q3:=((h.cell (p:=⟨ib,1,none⟩) a6 nF).trans i1);have q4:=((h.cell (p:=⟨ib,2,none⟩) a6 nF).trans i2);have q5:=((h.cell (p:=⟨ib,3,none⟩) a6 nF).trans i3);have q6:=((h.cell (p:=⟨ib,4,none⟩) a6 nF).trans i4);clear h;go_simp;try rfl));dsimp only[Act.put];try simp only[aK])
 refine ag rfl (by kernel_rfl) ?_;intro KS hKS;go_simp;refine(e4.out _ (b4.out.wd.old.trans b2)).mono ?_;rintro en w2 ⟨e6,vT,rfl,f0⟩;have a8:=b2.trans e6;refine hKS.out _ _ (fun _=>a8) ?_;clear hKS KS;refine ag rfl (by kernel_rfl) ?_;intro KS hKS;go_simp;refine hKS.out _ _ (fun _=>a8) ?_;clear hKS KS;refine aF rfl (by kernel_rfl) ?_;obtain⟨aT,cT,rfl⟩:=aq f0;have d6:=b4.out.new a8;have b5:=hid (AL d6 TK.length h2 hl h4);have c7:=(a8.block ib a6 nF).trans a3.out;have a2:=hid c7;have b0:ib≠r.fb:=fun e=>bO c7 d6.fr.1.fr (by decide) e
 clear m0 c4 i0 i1 i2 i3 i4 d6 c7 f0 e4 a3 b1 b4 e6 a8 b2;unfold bn at b5;generalize tkA TK.length f.stk=a at*;generalize tkB TK.length f.stk=b at*;generalize tkR TK.length f.stk=rest at*;generalize TK.length=nT at*;go_wp2_with fail;refine b5.out.mono ?_;rintro en w3 ⟨rfl,a7,sv',e0⟩;clear b5;have b6:But (fun _=>False) w3 ((w3.alloc (.cells #[.int .i32 (xN a),.int .i64 (xO a)] 168)).alloc (.cells #[.int .i32 (xN b),.int .i64 (xO b)] 168)):=(But.alloc _ _ _).trans (But.alloc _ _ _);have e8:=(b6.block ib (by have:=ae a2.out;have:=a7.size;omega) nF).trans ((a7.block ib (ae a2.out) b0).trans a2.out)
 have f1:cY ((w3.alloc (.cells #[.int .i32 (xN a),.int .i64 (xO a)] 168)).alloc (.cells #[.int .i32 (xN b),.int .i64 (xO b)] 168)) w3.heap.size a:=((But.alloc (fun _=>False) _ _).block _ (by simp) nF).trans (heap_alloc_new w3 _);have f2:cY ((w3.alloc (.cells #[.int .i32 (xN a),.int .i64 (xO a)] 168)).alloc (.cells #[.int .i32 (xN b),.int .i64 (xO b)] 168)) (w3.heap.size+1) b:=CB (by simp) _;have a0:=hid e0;have a4:=hid (e0.new b6);have f3:=hid e8;have f4:=hid f1;have f5:=hid f2;obtain⟨j0,j1,j2,j3,j4⟩:=bc ((a7.block ib (ae a2.out) b0).trans a2.out);have f6:ib<w3.heap.size:=by have:=ae a2.out;have:=a7.size;omega
 clear e8 f1 f2 e0 a2 b6 a7
 try unfold bn at HA
 have hC:=HA.out _ sv' a4.out;clear HA f3 f4 f5;rcases hC with⟨⟨n1,n2,n3,n4⟩,hC⟩ | ⟨hc,hC⟩ | ⟨hc,hC⟩ | ⟨hc,hC⟩ | ⟨hc,hC⟩
 ·have t1:((x.op.toNat:Int)==99)=false:=tK (k:=99) n1;have t2:((x.op.toNat:Int)==116)=false:=tK (k:=116) n2;have t3:((x.op.toNat:Int)==106)=false:=tK (k:=106) n3;have t4:((x.op.toNat:Int)==102)=false:=tK (k:=102) n4;unfold cI at hC;have HC:=hid hC;clear n1 n2 n3 n4 hC a0 a4;go_wp2_with fail;refine HC.out.mono ?_;rintro en w5 ⟨e,rfl,hQ⟩;have HQ:=hid hQ;clear hQ HC j0 j1 j2 j3 j4;go_wp2_with fail;exact cB (.int .i64 e) Tryz.results88 rfl rfl ⟨e,rfl,HQ.out⟩
 ·have a1:(x.op.toNat:Int)=99:=by have:=hc;omega
  rw[a1]at j1;have HC:=hid hC;clear a1 hc hC a0 a4;go_wp2_with fail;refine HC.out.mono ?_;rintro en w5 ⟨e,rfl,hQ⟩;have HQ:=hid hQ;clear hQ HC j0 j1 j2 j3 j4;go_wp2_with fail;exact cB (.int .i64 e) Tryz.results88 rfl rfl ⟨e,rfl,HQ.out⟩
 ·have a1:(x.op.toNat:Int)=116:=by have:=hc;omega
  rw[a1]at j1;have HC:=hid hC;clear a1 hc hC a0 a4;go_wp2_with fail;refine HC.out.mono ?_;rintro en w5 ⟨rfl,hQ⟩;have HQ:=hid hQ;clear hQ HC j0 j1 j2 j3 j4;go_wp2_with fail;exact cB (.int .i64 0) Tryz.results88 rfl rfl ⟨0,rfl,HQ.out⟩
 ·have a1:(x.op.toNat:Int)=102:=by have:=hc;omega
  rw[a1]at j1;have HC:=hid hC;clear a1 hc hC a0 a4;go_wp2_with fail;refine HC.out.mono ?_;rintro en w5 ⟨rfl,hQ⟩;have HQ:=hid hQ;clear hQ HC j0 j1 j2 j3 j4;go_wp2_with fail;exact cB (.int .i64 0) Tryz.results88 rfl rfl ⟨0,rfl,HQ.out⟩
 ·have a1:(x.op.toNat:Int)=106:=by have:=hc;omega
  rw[a1]at j1;clear a1 hc;have c8:=a0.out.fr.1.fr.c8;have z8:=a0.out.fr.1.fr.fz 8;have e2:=a0.out.fr.1.fr.lt;simp only at c8 z8 e2;have hp:=a0.out.pushed (pc':=x.num) (sv':=sv') (stk':=rest) ((But.setB w3 r.fb 8 (.int .i64 x.num)).mono (fun _ _ h=>Or.inl h)) (a0.out.fr.1.fr.set8 x.num) (ah a0.out.fr.1.st (But.setB w3 r.fb 8 (.int .i64 x.num)) (fun g hg e=>aN a0.out.fr.1.st a0.out.fr.1.fr (by decide) (by have e:g=r.fb:=e;rw[←e];exact hg))) (Or.inl rfl);have HQ:=hid (fun Y hY=>hC Y sv' (hp.new hY));clear hC a4 a0 hp;go_wp2_with fail;exact cB (.int .i64 0) Tryz.results88 rfl rfl ⟨0,rfl,HQ.out _ ((But.alloc _ _ _).trans (But.alloc _ _ _))⟩
end
end
section
open Go Go.RowKit Sp
section
variable {w0 w w':World} {im:Img} {T:eJ} {mb tx:Nat} {tv:Value} {bw cells:Nat} {ans:Int} {inp:ByteArray} {r q:Fr} {rs:List Fr} {f g:Fm} {fs:List Fm} {s:Ev} {vo vb:Value} {gs:List Nat} {fv:List Value} {cn:Int} {sn:Nat→Int}
theorem AM (h:McQ w0 w im T mb tx tv bw cells ans inp [r] [f] s vo vb gs fv cn sn) (u:V):
  Calls Tryz.prog 143 #[.pointer (some ⟨mb,0,none⟩),bn u] w fun en w'=>en= .returned (.tuple #[])∧McQ w0 w' im T mb tx tv bw cells (xN u) inp [] [] s vo vb gs fv cn sn:=by
 unfold bn;refine(yw _ _ _ _ _ _ _ _ _ _ _ _ _ _ _ _ h.mc h.fr.1.fr (xN u) (xO u)).mono ?_;rintro en w1 ⟨rfl,hB,hM⟩;refine⟨rfl,h.step hB (fun k e=>Or.inl e) hM trivial (fun k hk=> ?_)⟩;rcases hk with e| ⟨q,hq,_⟩
 ·exact Or.inl (Or.inl e)
 ·cases hq
end
theorem zM (n:Nat) (s:List V):(tkR n s).length≤s.length:=by
 unfold tkR cO jD
 split
 ·omega
 ·split<;>(rw[List.length_take];omega)
section
variable {w0 w w':World} {im:Img} {T:eJ} {mb tx:Nat} {tv:Value} {bw cells:Nat} {ans:Int} {inp:ByteArray} {r:Fr} {rs:List Fr} {f:Fm} {fs:List Fm} {s:Ev} {vo vb:Value} {gs:List Nat} {fv:List Value} {cn:Int} {sn:Nat→Int}
theorem ul (psh:Bool) (h:McQ w0 w im T mb tx tv bw cells ans inp (r::rs) (f::fs) s vo vb gs fv cn sn) (hT:dE w0 tx im) (hcl:(im.classes.map toX).length≤100) (hsg:im.sigs.length≤100) (h4:f.stk.length≤4000) (hpc:f.pc≤1000) (h100:(aW im.sigs r.b).items.length≤100) (x:XIt) (hx:(aW im.sigs r.b).items[f.pc]?=some x) (nT:Nat) (hnT:(az (im.classes.map toX) im.sigs x.op x.cls x.num (aW im.sigs r.b).ans).length=nT) (h2:nT≤2) (hl:nT≤f.stk.length) (hno:x.op.toNat≠99∧x.op.toNat≠116∧x.op.toNat≠106∧x.op.toNat≠102∧x.op.toNat≠108∧x.op.toNat≠115∧x.op.toNat≠110) (hly:match psh with|true=>(aH (im.classes.map toX) im.sigs x.op x.cls x.num (aW im.sigs r.b).locals).toNat≠0|false=>(aH (im.classes.map toX) im.sigs x.op x.cls x.num (aW im.sigs r.b).locals).toNat=0) (rr:R)
  (hD: ∀(P':Nat→Prop) X,WdQ P' w0 X bw tx inp s vo vb gs fv cn sn→Calls Tryz.prog 197 #[.pointer (some ⟨bw,0,none⟩),cI x,bn (tkA nT f.stk),bn (tkB nT f.stk)] X (ReW P' w0 X bw tx inp cn rr)):
  Calls Tryz.prog 88 #[.pointer (some ⟨mb,0,none⟩)] w (fun en w'=> ∃e,en= .returned (.int .i64 e)∧yy w0 im T mb tx tv bw cells ans inp rs {f with stk:=tkR nT f.stk} fs cn rr psh (.returned (.int .i64 e)) w'):=by
 subst hnT;obtain⟨n1,n2,n3,n4,n5,n6,n7⟩:=hno;refine uk (fun e w'=>yy w0 im T mb tx tv bw cells ans inp rs {f with stk:=tkR _ f.stk} fs cn rr psh (.returned (.int .i64 e)) w') h hT hcl hsg h4 h100 x hx h2 hl (fun Y sv' hM=> .inl ⟨⟨n1,n2,n3,n4⟩,?_⟩);refine(AK psh hM hT hcl hsg (Nat.le_trans (zM _ _) h4) hpc x _ _ n5 n6 n7 hly rr (fun X hX=>hD _ _ (hM.wd.grown hX))).mono ?_;intro en w5 hp;have a0:=hp;obtain⟨u,e,s',vo',vb',gs',fv',sn',r',h1,h2,h3⟩:=hp;subst h2;exact⟨e,rfl,a0⟩
end
end
section
open Go Go.RowKit Sp
attribute [local go_sem ↓] Go.wp_at_zero Go.wp_at_succ
def um (w0:World) (im:Img) (T:eJ) (mb tx:Nat) (tv:Value) (bw cells:Nat) (ans:Int) (inp:ByteArray) (cn:Int) (sr:SR) (e:Int) (w':World):Prop:=match sr with
 | .go m=>e=0∧ ∃rs vo vb gs fv cn' sn,cn'≤cn+1∧McQ w0 w' im T mb tx tv bw cells ans inp rs m.fr m.ev vo vb gs fv cn' sn
 | .bad n o=>e=bI n∧ ∃rs fs s' vo vb gs fv cn' sn,s'.out=o∧McQ w0 w' im T mb tx tv bw cells ans inp rs fs s' vo vb gs fv cn' sn
 | .fin v o=>e=0∧ ∃s' vo vb gs fv cn' sn,s'.out=o∧McQ w0 w' im T mb tx tv bw cells (xN v) inp [] [] s' vo vb gs fv cn' sn
section
variable {w0 w w':World} {im:Img} {T:eJ} {mb tx:Nat} {tv:Value} {bw cells:Nat} {ans:Int} {inp:ByteArray} {r:Fr} {rs:List Fr} {f:Fm} {fs:List Fm} {s:Ev} {vo vb:Value} {gs:List Nat} {fv:List Value} {cn:Int} {sn:Nat→Int} {b:Bod} {x:Ins} {st l:List UInt8}
theorem si {x:Ins} {n:Nat} (h:x.op.toNat=n):cI (bj x)= .agg #[.int .i64 x.pos,.int .u8 n,.int .u8 (bj x).cls.toNat,.int .i64 x.b,.slice none 0 0]:=by
 subst h
 rfl
end
end
section
open Go Go.RowKit Sp
theorem wh {w0 w2 w':World} {im:Img} {T:eJ} {mb tx bw cells q fb bl:Nat} {tv lv vl vi:Value} {ans:Int} {inp:ByteArray} {b:Bod} {p:Nat×List St} (hB:But (fun _=>False) w0 w2) (hw:XwC w2 bw tx inp 0 (.slice none 0 0) (.slice none 0 0) 0) (hbw:w0.heap.size≤bw) (hmb:w0.heap.size≤mb) (hm2:mb<w2.heap.size) (hne:bw≠mb)
  (g:Ab w0 w2 w' mb tx tv bw cells none ans 1 im.sigs b p fb bl lv vl vi) (hq:im.bodies[q]?=some b) (hTq:T[q]?=some p.2):
  McQ w0 w' im T mb tx tv bw cells ans inp [⟨fb,bl,p.1,vl,vi,lv,.slice none 0 0,b,p.2⟩] [⟨q,0,[],bP b []⟩] ⟨[],0,0,[]⟩ (.slice none 0 0) (.slice none 0 0) [] [] 0 (fun _=>0):=by
 have h0:=hB.size;have a0:But (fun _=>False) w0 w':=hB.next g.but (fun k hk e=>by have e:k=mb:=e;omega);have a3: ∀k,lv.ownBlock=some k→w2.heap.size≤k:=fun k hk=>aj g.lo k hk
 have a1:w'.ownsRow w0.heap.size 168 2 lv (bP b []).length (aE (bP b [])):=by
  have e:bP b []=b.locals.map d8:=by simp[bP]
  rw[e,List.length_map];exact World.ownsRow.mono g.lo h0
 have a2:bw<w2.heap.size:=ae hw;have hF:FrM w0 w' im T none 1 ⟨fb,bl,p.1,vl,vi,lv,.slice none 0 0,b,p.2⟩ ⟨q,0,[],bP b []⟩:=⟨hq,hTq,g.fr,g.lb,a1,yx _ _,g.bt,g.it,g.tb,fun k _ e=>(by cases e),Nat.le_trans h0 g.gf,Nat.le_trans h0 g.gl⟩;refine⟨⟨a0,?_,⟨rfl,Or.inl ⟨rfl,rfl⟩⟩,⟨rfl,Or.inl ⟨rfl,rfl⟩⟩,rfl,rfl,fun k o g' v a=>(by simp at a),fun j k g' a=>(by simp at a),fun k hk=> ?_,fun k hk=> ?_,fun j k v v' g' a=>(by simp at a),by omega,fun k=>(by omega)⟩,g.mc,⟨hF,trivial,fun k _ q' hq'=>(by cases hq')⟩,hmb⟩
 ·have:((min 0 inp.size:Nat):Int)=0:=by simp
  show XwC w' bw tx inp ((min 0 inp.size:Nat):Int) _ _ _
  rw[this];exact hw.but g.but (fun e=>hne e)
 ·rcases hk with e0|hk|hk|hk| ⟨v,hv,_⟩
  ·rw[e0];refine⟨hbw,fun ho=> ?_⟩;rcases ho with e| ⟨r,hr,ho⟩
   ·exact hne e
   ·simp only[List.mem_singleton]at hr;subst hr;rcases ho with e|e|e|e
    ·have:=g.gf;have e:bw=fb:=e;omega
    ·have:=g.gl;have e:bw=bl:=e;omega
    ·have:=a3 bw e;omega
    ·cases e
  ·cases hk
  ·cases hk
  ·cases hk
  ·cases hv
 ·rcases hk with rfl| ⟨r,hr,ho⟩
  ·exact⟨g.mc.lt,fun c fz e=>bO g.mc e (by decide) rfl⟩
  ·simp only[List.mem_singleton]at hr;subst hr;exact⟨hF.lt ho,fun c fz e=>hF.nb ho c fz e⟩
end
end Go.Proofs.YtpfkkmacakjmbaaGreatDoor
