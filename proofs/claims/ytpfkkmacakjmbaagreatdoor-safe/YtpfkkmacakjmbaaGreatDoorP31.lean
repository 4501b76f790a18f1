import Derived.Test.YtpfkkmacakjmbaaGreatDoorP30
import Derived.Test.YtpfkkmacakjmbaaGreatDoorP28
set_option maxRecDepth 100000
set_option maxHeartbeats 6400000
set_option linter.all false
namespace Go.Proofs.YtpfkkmacakjmbaaGreatDoor
open Proofs.Tryz
section
open Go Go.RowKit Sp
attribute [local go_sem ↓] dG dH
def nW (cs:List bV) (hp:List Ob):Prop:= ∀o∈hp,(∃a:UInt8,a.toNat=65+o.cls/\(cQ cs a).length=o.fs.length)/\o.fs.length<=100/\ ∀u∈o.fs,ig hp.length u
section
variable {P:Nat->Prop} {w0 w w':World} {bw tx:Nat} {inp:ByteArray} {s:Ev} {vo vb:Value} {gs:List Nat} {fv:List Value} {cn:Int} {sn:Nat->Int}
theorem u4 {hp:List Ob} {cs:List bV} (h:nW cs hp) (k:Nat):kH hp k<=101:=by
 unfold kH;rcases hk:hp[k]? with _|o
 .simp
 .have:=(h o (bp hk)).2.1;simp;omega
theorem wL (f:Nat->Nat) (b:Nat) (hf: ∀k,f k<=b): ∀l:List Nat,(l.map f).sum<=b*l.length
 | []=>by simp
 |k::l=>by
  have h1:=wL f b hf l;have h2:=hf k;simp only[List.map_cons,List.sum_cons,List.length_cons,Nat.mul_add,Nat.mul_one];omega
end
structure Fr where
 fb:Nat
 bl:Nat
 sg:Nat
 vl:Value
 vi:Value
 lv:Value
 sv:Value
 b:Bod
 tab:List St
def oO (r:Fr) (k:Nat):Prop:=k=r.fb\/k=r.bl\/r.lv.ownBlock=some k\/r.sv.ownBlock=some k
structure FrM (w0 w:World) (im:Img) (T:de) (ca:Option Nat) (d:Nat) (r:Fr) (f:Fm):Prop where
 hb:im.zq[f.q]?=some r.b
 ht:T[f.q]?=some r.tab
 fr:FbB w r.fb ca d (bu im.zj r.b) r.vl r.vi (.slice (some ⟨r.sg,0,none⟩) r.tab.length r.tab.length) f.pc r.bl r.sv
 lb:w.heap[r.bl]?=some (.cells #[r.lv] 280)
 lo:w.ownsRow w0.heap.size 168 2 r.lv f.loc.length (aJ f.loc)
 st:w.ownsRow w0.heap.size 168 2 r.sv f.zx.length (aJ f.zx)
 bt:BtB w0 0 r.vl (bu im.zj r.b).locals
 it:ItB w0 0 r.vi (bu im.zj r.b).items
 tb:StB w0 r.sg r.tab
 ap: ∀k,r.lv.ownBlock=some k->r.sv.ownBlock≠some k
 g1:w0.heap.size<=r.fb
 g2:w0.heap.size<=r.bl
def qi:List Fr->Option Nat
 | []=>none
 |r::_=>some r.fb
def qK (w0 w:World) (im:Img) (T:de):List Fr->List Fm->Prop
 | [],[]=>True
 |r::rs,f::fs=>FrM w0 w im T (qi rs) (fs.length+1) r f/\qK w0 w im T rs fs/\ ∀k,oO r k-> ∀q∈rs,¬oO q k
 |_,_=>False
section
variable {w0 w w':World} {im:Img} {T:de} {ca:Option Nat} {d:Nat} {r:Fr} {f:Fm}
theorem FrM.ge (h:FrM w0 w im T ca d r f) {k:Nat} (hk:oO r k):w0.heap.size<=k:=by
 obtain rfl|rfl|hk|hk:=hk
 .exact h.g1
 .exact h.g2
 .exact ay h.lo k hk
 .exact ay h.st k hk
theorem FrM.lt (h:FrM w0 w im T ca d r f) {k:Nat} (hk:oO r k):k<w.heap.size:=by
 obtain rfl|rfl|hk|hk:=hk
 .exact h.fr.lt
 .exact ae h.lb
 .exact aW h.lo k hk
 .exact aW h.st k hk
theorem FrM.nb (h:FrM w0 w im T ca d r f) {k:Nat} (hk:oO r k) (c:Array Value) (fz:Nat×Nat):w.heap[k]?≠some (.cells c 5 fz):=λe=>by
 obtain rfl|rfl|hk|hk:=hk
 .exact cE h.fr e (by decide) rfl
 .exact cE h.lb e (by decide) rfl
 .exact aL h.lo e (by decide) hk
 .exact aL h.st e (by decide) hk
theorem FrM.but {F:Nat->Prop} (h:FrM w0 w im T ca d r f) (hb:But F w w') (hf: ∀k,oO r k-> ¬F k):FrM w0 w' im T ca d r f:=
 ⟨h.hb,h.ht,h.fr.but hb (hf _ (Or.inl rfl)),(hb.block r.bl (ae h.lb) (hf _ (Or.inr (Or.inl rfl)))).trans h.lb,aj h.lo hb (λk hk=>hf k (Or.inr (Or.inr (Or.inl hk)))),aj h.st hb (λk hk=>hf k (Or.inr (Or.inr (Or.inr hk)))),h.bt,h.it,h.tb,h.ap,h.g1,h.g2⟩
theorem qK.but {F:Nat->Prop}: ∀{rs:List Fr} {fs:List Fm},qK w0 w im T rs fs->But F w w'->(∀r∈rs,∀k,oO r k-> ¬F k)->qK w0 w' im T rs fs
 | [],[],_,_,_=>trivial
 |r::rs,f::fs,h,hb,hf=>⟨h.1.but hb (hf r (List.mem_cons_self ..)),qK.but h.2.1 hb (λq hq=>hf q (List.mem_cons_of_mem _ hq)),h.2.2⟩
 | [],_::_,h,_,_=>h.elim
 |_::_,[],h,_,_=>h.elim
theorem qK.mem: ∀{rs:List Fr} {fs:List Fm},qK w0 w im T rs fs-> ∀r∈rs,∃ca d f,FrM w0 w im T ca d r f
 | [],[],_,r,hr=>by cases hr
 |q::rs,f::fs,h,r,hr=>by
  obtain rfl|hr:=List.mem_cons.1 hr
  .exact⟨_,_,_,h.1⟩
  .exact qK.mem h.2.1 r hr
 | [],_::_,h,_,_=>h.elim
 |_::_,[],h,_,_=>h.elim
end
abbrev nz (mb:Nat) (rs:List Fr) (k:Nat):Prop:=k=mb\/ ∃r∈rs,oO r k
structure McQ (w0 w:World) (im:Img) (T:de) (mb tx:Nat) (tv:Value) (bw cells:Nat) (ans:Int) (inp:ByteArray) (rs:List Fr) (fs:List Fm) (s:Ev) (vo vb:Value) (gs:List Nat) (fv:List Value) (cn:Int) (sn:Nat->Int):Prop where
 wd:WdQ (nz mb rs) w0 w bw tx inp s vo vb gs fv cn sn
 mc:MbB w mb tx tv bw cells (qi rs) ans
 fr:qK w0 w im T rs fs
 gm:w0.heap.size<=mb
section
variable {w0 w w':World} {im:Img} {T:de} {mb tx:Nat} {tv:Value} {bw cells:Nat} {ans:Int} {inp:ByteArray} {rs:List Fr} {fs:List Fm} {s:Ev} {vo vb:Value} {gs:List Nat} {fv:List Value} {cn:Int} {sn:Nat->Int}
theorem McQ.off (h:McQ w0 w im T mb tx tv bw cells ans inp rs fs s vo vb gs fv cn sn) {r:Fr} (hr:r∈rs): ¬oO r mb:=λhk=>by
 obtain⟨ca,d,f,hf⟩:=h.fr.mem r hr;obtain e|e|e|e:=hk
 .exact cE hf.fr h.mc (by decide) e.symm
 .exact cE hf.lb h.mc (by decide) e.symm
 .exact aL hf.lo h.mc (by decide) e
 .exact aL hf.st h.mc (by decide) e
theorem McQ.new (h:McQ w0 w im T mb tx tv bw cells ans inp rs fs s vo vb gs fv cn sn) (hB:B_ w w'):McQ w0 w' im T mb tx tv bw cells ans inp rs fs s vo vb gs fv cn sn:=
 ⟨h.wd.new hB,h.mc.but hB nF,h.fr.but hB (λ_ _ _ _ h=>h),h.gm⟩
theorem McQ.turn {F:Nat->Prop} {s':Ev} {vo' vb':Value} {gs':List Nat} {fv':List Value} {cn':Int} {sn':Nat->Int} (h:McQ w0 w im T mb tx tv bw cells ans inp rs fs s vo vb gs fv cn sn) (hB:But F w w') (hF: ∀k,F k-> ¬nz mb rs k) (hw:WdQ (nz mb rs) w0 w' bw tx inp s' vo' vb' gs' fv' cn' sn'):McQ w0 w' im T mb tx tv bw cells ans inp rs fs s' vo' vb' gs' fv' cn' sn':=
 ⟨hw,h.mc.but hB (λhf=>hF _ hf (Or.inl rfl)),h.fr.but hB (λr hr k hk hf=>hF k hf (Or.inr ⟨r,hr,hk⟩)),h.gm⟩
theorem McQ.step {F:Nat->Prop} {rs':List Fr} {fs':List Fm} {ans':Int} (h:McQ w0 w im T mb tx tv bw cells ans inp rs fs s vo vb gs fv cn sn) (hB:But F w w') (hF: ∀k,F k->nz mb rs k) (hm:MbB w' mb tx tv bw cells (qi rs') ans') (hr:qK w0 w' im T rs' fs') (hn: ∀k,nz mb rs' k->nz mb rs k\/w.heap.size<=k):McQ w0 w' im T mb tx tv bw cells ans' inp rs' fs' s vo vb gs fv cn sn:=by
 have a0: ∀k,nz mb rs k->w0.heap.size<=k:=λk hk=>by
  obtain rfl| ⟨r,hr,hk⟩:=hk
  .exact h.gm
  .obtain⟨ca,d,f,hf⟩:=h.fr.mem r hr;exact hf.ge hk
 have a:=(h.wd.less (Q:=λ_=>False) (λ_ h=>h.elim)).but hB (λk hk=>a0 k (hF k hk)) (λk hk hf=>(h.wd.own k hk).2 (hF k hf)) (λ_ h=>h.elim);refine⟨⟨a.old,a.wd,a.out,a.ob,a.lg,a.lf,a.obs,a.nd,λk hk=>⟨(h.wd.own k hk).1,λhp=> ?_⟩,λk hk=> ?_,a.sf,a.se⟩,hm,hr,h.gm⟩
 .obtain hp|hp:=hn k hp
  .exact(h.wd.own k hk).2 hp
  .have:=h.wd.lt hk;omega
 .obtain rfl| ⟨r,hr',hk⟩:=hk
  .exact⟨hm.lt,λc fz e=>cE hm e (by decide) rfl⟩
  .obtain⟨ca,d,f,hf⟩:=hr.mem r hr';exact⟨hf.lt hk,λc fz e=>hf.nb hk c fz e⟩
end
section
variable {w0 w w':World} {im:Img} {T:de} {mb tx:Nat} {tv:Value} {bw cells:Nat} {ans:Int} {inp:ByteArray} {r:Fr} {rs:List Fr} {f:Fm} {fs:List Fm} {s:Ev} {vo vb:Value} {gs:List Nat} {fv:List Value} {cn:Int} {sn:Nat->Int}
theorem Bq (w:World) (base:Nat):w.ownsRow base 168 2 S_ 0 (aJ []):=⟨rfl,Or.inl ⟨rfl,rfl⟩⟩
end
def Es (T:de) (n:Nat) (fs:List Fm):Prop:= ∀f∈fs,(∃st lo,jg T f.q f.pc=some (st,lo))/\f.zx.length<=1000/\f.loc.length<=1000/\(∀t,T[f.q]?=some t->t.length<=100)/\ ∀u∈rI T f,ig n u
theorem u5 {hp:List Ob} {vs:List V} {cs:List bV} (hob:nW cs hp): ∀(n i:Nat) (F:List Nat),un hp vs i F->hp.length<=i+n-> ∃i' F',un hp vs i' F'/\F'.length<=i'
 |0,i,F,h,hn=>⟨i,F,h,by have:=m6 h;omega⟩
 |n+1,i,F,h,hn=>by
  by_cases hlt:i<F.length
  .obtain⟨j,hj⟩: ∃j,F[i]?=some j:=⟨_,aH hlt⟩;have a0:=h.lt j (bp hj);obtain⟨o,ho⟩: ∃o,hp[j]?=some o:=⟨_,aH a0⟩;exact u5 hob n (i+1) _ (rg h hj ho (hob o (bp ho)).2.2) (by omega)
  .exact⟨i,F,h,by omega⟩
theorem zy {hp:List Ob} {vs:List V} {cs:List bV} (hob:nW cs hp) (hv: ∀u∈vs,ig hp.length u) (h4:hp.length<=4000):md hp (λk=>V.o k∈vs)<=404000:=by
 obtain⟨i,F,hw,hi⟩:=u5 hob hp.length 0 _ (pQ hv) (by omega);rw[uo hw hi];have h1:=wL (kH hp) 101 (u4 hob) F;have h2:=m6 hw;omega
structure PsW (w W:World) (x:XIt) (u1 u2:V):Prop where
 but:B_ w W
 nb:NB w W
 b0:W.heap[w.heap.size]?=some (.cells #[.int .i64 x.place,.int .u8 x.op.toNat,.int .u8 x.cls.toNat,.int .i64 x.num,.slice x.pa x.pn x.pc] 219)
 b1:d8 W (w.heap.size+1) u1
 b2:d8 W (w.heap.size+1+1) u2
 sz:W.heap.size=w.heap.size+1+1+1
theorem psW (w:World) (x:XIt) (u1 u2:V):PsW w (((w.alloc (.cells #[.int .i64 x.place,.int .u8 x.op.toNat,.int .u8 x.cls.toNat,.int .i64 x.num,.slice x.pa x.pn x.pc] 219)).alloc (.cells #[.int .i32 (xN u1),.int .i64 (xO u1)] 168)).alloc (.cells #[.int .i32 (xN u2),.int .i64 (xO u2)] 168)) x u1 u2:=by
 refine⟨((ag _ _ _).trans (ag _ _ _)).trans (ag _ _ _),(((NB.refl w).alloc (by decide)).alloc (by decide)).alloc (by decide),?_,?_,aB (by simp) _,by simp⟩
 .exact(((ag (λ_=>False) _ _).trans (ag _ _ _)).block _ (by simp) nF).trans (aO w _)
 .exact((ag (λ_=>False) _ _).block _ (by simp) nF).trans (aB (by simp) _)
section
variable {w0 w w':World} {im:Img} {T:de} {mb tx:Nat} {tv:Value} {bw cells:Nat} {ans:Int} {inp:ByteArray} {r:Fr} {rs:List Fr} {f:Fm} {fs:List Fm} {s:Ev} {vo vb:Value} {gs:List Nat} {fv:List Value} {cn:Int} {sn:Nat->Int}
theorem McQ.pushed (h:McQ w0 w im T mb tx tv bw cells ans inp (r::rs) (f::fs) s vo vb gs fv cn sn) {sv':Value} {pc':Nat} {stk':List V} (hB:But (λk=>k=r.fb\/r.sv.ownBlock=some k) w w')
  (hf:FbB w' r.fb (qi rs) (fs.length+1) (bu im.zj r.b) r.vl r.vi (.slice (some ⟨r.sg,0,none⟩) r.tab.length r.tab.length) pc' r.bl sv') (ho:w'.ownsRow w0.heap.size 168 2 sv' stk'.length (aJ stk')) (hs:sv'.ownBlock=r.sv.ownBlock\/ ∃k,sv'.ownBlock=some k/\w.heap.size<=k):
  McQ w0 w' im T mb tx tv bw cells ans inp ({r with sv:=sv'}::rs) ({f with pc:=pc',zx:=stk'}::fs) s vo vb gs fv cn sn:=by
 obtain⟨hF,a0,a1⟩:=h.fr
 have hO: ∀k,oO {r with sv:=sv'} k->oO r k\/w.heap.size<=k:=λk hk=>by
  obtain e|e|e|e:=hk
  .exact Or.inl (Or.inl e)
  .exact Or.inl (Or.inr (Or.inl e))
  .exact Or.inl (Or.inr (Or.inr (Or.inl e)))
  .obtain h1| ⟨j,h1,h2⟩:=hs
   .exact Or.inl (Or.inr (Or.inr (Or.inr (h1▸e))))
   .have e:sv'.ownBlock=some k:=e;rw[h1]at e
    cases e
    exact Or.inr h2
 have hR: ∀k,(k=r.fb\/r.sv.ownBlock=some k)->oO r k:=λk hk=>hk.elim Or.inl (λe=>Or.inr (Or.inr (Or.inr e)))
 have a3: ¬(mb=r.fb\/r.sv.ownBlock=some mb):=λe=>h.off (List.mem_cons_self ..) (hR mb e)
 have a5: ∀k,r.lv.ownBlock=some k-> ¬(k=r.fb\/r.sv.ownBlock=some k):=λk hk e=>by
  obtain e|e:=e
  .exact aL hF.lo hF.fr (by decide) (e▸hk)
  .exact hF.ap k hk e
 have a4: ¬(r.bl=r.fb\/r.sv.ownBlock=some r.bl):=λe=>by
  obtain e|e:=e
  .exact cE hF.lb hF.fr (by decide) e
  .exact aL hF.st hF.lb (by decide) e
 refine h.step hB (λk hk=>Or.inr ⟨r,List.mem_cons_self ..,hR k hk⟩) (h.mc.but hB a3) ⟨⟨hF.hb,hF.ht,hf,(hB.block r.bl (ae hF.lb) a4).trans hF.lb,aj hF.lo hB a5,ho,hF.bt,hF.it,hF.tb,λk hk e=> ?_,hF.g1,hF.g2⟩,a0.but hB (λq hq k hk e=>a1 k (hR k e) q hq hk),λk hk q hq hk'=> ?_⟩ (λk hk=> ?_)
 .have hk:r.lv.ownBlock=some k:=hk;obtain h1| ⟨j,h1,h2⟩:=hs
  .exact hF.ap k hk (h1▸e)
  .have e:sv'.ownBlock=some k:=e;rw[h1]at e
   cases e
   have:=aW hF.lo _ hk;omega
 .obtain h1|h1:=hO k hk
  .exact a1 k h1 q hq hk'
  .obtain⟨ca,d,f',a2⟩:=a0.mem q hq;have:=a2.lt hk';omega
 .obtain e| ⟨q,hq,hk⟩:=hk
  .exact Or.inl (Or.inl e)
  .obtain rfl|hq:=List.mem_cons.1 hq
   .obtain h1|h1:=hO k hk
    .exact Or.inl (Or.inr ⟨r,List.mem_cons_self ..,h1⟩)
    .exact Or.inr h1
   .exact Or.inl (Or.inr ⟨q,List.mem_cons_of_mem _ hq,hk⟩)
end
theorem wM {x k:Nat} (h:x≠k):((x:Int)==(k:Int))=false:=by rw[eA];omega
theorem NB.drewM {w X:World} (h:NB w X):NB w X.drew:=⟨h.but.trans (aD _ _),λk a b=>h.nb k a b⟩
def Et (rr:R) (u:V) (e:Int) (s':Ev):Prop:=match rr with
 | .ok v _ t=>u=v/\e=0/\s'=t
 | .bad n o=>u= .z/\e=cD n/\s'.out=o
theorem ReW.outs {P:Nat->Prop} {w0 w w':World} {bw tx:Nat} {inp:ByteArray} {cn:Int} {rr:R} {en:Ending} (h:ReW P w0 w bw tx inp cn rr en w'): ∃u e s' vo vb gs fv sn,en= .returned (.tuple #[bW u,.int .i64 e])/\But (FrQ P w0) w w'/\WdQ P w0 w' bw tx inp s' vo vb gs fv cn sn/\Et rr u e s':=by
 obtain⟨hB,vo,vb,gs,fv,sn,h⟩:=h
 cases rr with
 |ok u l t=>exact⟨u,0,t,vo,vb,gs,fv,sn,h.1,hB,h.2,rfl,rfl,rfl⟩
 |bad n o=>
  obtain⟨h1,s',h2,h3⟩:=h;exact⟨.z,cD n,s',vo,vb,gs,fv,sn,h1,hB,h3,rfl,rfl,h2⟩
def Br (w0:World) (im:Img) (T:de) (mb tx:Nat) (tv:Value) (bw cells:Nat) (ans:Int) (inp:ByteArray) (rs:List Fr) (f:Fm) (fs:List Fm) (cn:Int) (rr:R) (psh:Bool) (en:Ending) (w':World):Prop:=
 ∃u e s' vo vb gs fv sn r',Et rr u e s'/\en= .returned (.int .i64 e)/\McQ w0 w' im T mb tx tv bw cells ans inp (r'::rs) ({f with pc:=f.pc+1,zx:=if psh then f.zx++ [u]else f.zx}::fs) s' vo vb gs fv cn sn
section
variable {w0 w w':World} {im:Img} {T:de} {mb tx:Nat} {tv:Value} {bw cells:Nat} {ans:Int} {inp:ByteArray} {r:Fr} {rs:List Fr} {f:Fm} {fs:List Fm} {s:Ev} {vo vb:Value} {gs:List Nat} {fv:List Value} {cn:Int} {sn:Nat->Int}
theorem McQ.did {X w1 W2:World} {rb:Nat} {s':Ev} {vo' vb':Value} {gs':List Nat} {fv':List Value} {sn':Nat->Int} (h:McQ w0 w im T mb tx tv bw cells ans inp rs fs s vo vb gs fv cn sn) (hN:B_ w X) (hB:But (FrQ (PQ (nz mb rs) w X) w0) X w1) (hW:WdQ (PQ (nz mb rs) w X) w0 w1 bw tx inp s' vo' vb' gs' fv' cn sn') (hr:w.heap.size<=rb) (hr2:rb<X.heap.size) (hB3:But (· =rb) w1 W2) (ht: ∀c fz,W2.heap[rb]?≠some (.cells c 5 fz)):McQ w0 W2 im T mb tx tv bw cells ans inp rs fs s' vo' vb' gs' fv' cn sn':=by
 have h0:=h.wd.old.size;have a0: ∀k,nz mb rs k->k<w.heap.size:=λk hk=>(h.wd.pl k hk).1
 have hT:But (λk=>FrQ (PQ (nz mb rs) w X) w0 k\/k=rb) X W2:=(hB.mono (λ_ _ h=>Or.inl h)).trans (hB3.mono (λ_ _ h=>Or.inr h));have a1:=hW.tmp hB3 (λk e=>⟨Or.inr ⟨by have e:k=rb:=e;omega,by have e:k=rb:=e;omega⟩,by have e:k=rb:=e;omega⟩) (λk e c fz=>by have e:k=rb:=e;rw[e];exact ht c fz);refine(h.new hN).turn hT (λk hk ho=> ?_) (a1.less (λk hk=>Or.inl hk));obtain hk|hk:=hk
 .exact hk.2 (Or.inl ho)
 .have:=a0 k ho;omega
theorem DJ (psh:Bool) (h:McQ w0 w im T mb tx tv bw cells ans inp (r::rs) (f::fs) s vo vb gs fv cn sn) (hT:eS w0 tx im) (hcl:(im.zz.map toX).length<=100) (hsg:im.zj.length<=100) (h4:f.zx.length<=4000) (hpc:f.pc<=1000) (x:XIt) (u1 u2:V) (hx1:x.op.toNat≠108) (hx2:x.op.toNat≠115) (hx3:x.op.toNat≠110) (hly:match psh with|true=>(aM (im.zz.map toX) im.zj x.op x.cls x.num (bu im.zj r.b).locals).toNat≠0|false=>(aM (im.zz.map toX) im.zj x.op x.cls x.num (bu im.zj r.b).locals).toNat=0) (rr:R)
  (hD: ∀X,NB w X->Calls prog 197 #[.pointer (some ⟨bw,0,none⟩),dF x,bW u1,bW u2] X (ReW (PQ (nz mb (r::rs)) w X) w0 X bw tx inp cn rr)):
  Calls prog 145 #[.pointer (some ⟨mb,0,none⟩),.pointer (some ⟨r.fb,0,none⟩),dF x,bW u1,bW u2] w (Br w0 im T mb tx tv bw cells ans inp rs f fs cn rr psh):=by
 obtain⟨al,capl,f2⟩:=aw h.fr.1.bt;have h7:BtB w0 0 (.slice al (bu im.zj r.b).locals.length capl) (bu im.zj r.b).locals:=f2▸h.fr.1.bt;have g1:=hid (λ(Y:World) (hY:B_ w0 Y)=>lG tx (im.zz.map toX) im.zj x.place x.num x.op x.cls al capl (bu im.zj r.b).locals Y (ap:=x.pa) (np:=x.pn) (cp:=x.pc) hcl hsg (hT.cls.but hY) (hT.met.but hY) (h7.but hY (λ_ _ h=>h)));obtain⟨LY,h8⟩: ∃LY,aM (im.zz.map toX) im.zj x.op x.cls x.num (bu im.zj r.b).locals=LY:=⟨_,rfl⟩;rw[h8]at g1 hly;have j4:=hid f2;clear h7 h8 f2;have HP:=hid (psW w x u1 u2);have t1:((x.op.toNat:Int)==108)=false:=wM (k:=108) hx1
 have t2:((x.op.toNat:Int)==115)=false:=wM (k:=115) hx2;have t3:((x.op.toNat:Int)==110)=false:=wM (k:=110) hx3;have HD:=hid hD;unfold dF bW at HD;have k2:=h.mc.c2;have e8:=h.mc.lt;have HM:=hid h;clear h hD hx1 hx2 hx3;simp only[dF,bW]
 go_in
 go_wp2_with fail;revert HP;generalize (((w.alloc (.cells #[.int .i64 x.place,.int .u8 x.op.toNat,.int .u8 x.cls.toNat,.int .i64 x.num,.slice x.pa x.pn x.pc] 219)).alloc (.cells #[.int .i32 (xN u1),.int .i64 (xO u1)] 168)).alloc (.cells #[.int .i32 (xN u2),.int .i64 (xO u2)] 168))=W0;intro HP;obtain⟨rb,e0⟩: ∃rb,rb=w.heap.size+1+1+1:=⟨_,rfl⟩;have hP:=HP.out;have hA:=ag (λ_=>False) W0 (.cells #[.int .i32 0,.int .i64 0] 168);have d6:NB w (W0.alloc (.cells #[.int .i32 0,.int .i64 0] 168)):=hP.nb.alloc (by decide);have e2:=(hA.block w.heap.size (ae hP.b0) nF).trans hP.b0;have f8:=hP.b1.but hA nF
 have g0:=hP.b2.but hA nF;have e6:d8 (W0.alloc (.cells #[.int .i32 0,.int .i64 0] 168)) rb .z:=aB (by rw[hP.sz,e0]) _;rw[<-e0];clear hA;revert d6 e2 f8 g0 e6;generalize (W0.alloc (.cells #[.int .i32 0,.int .i64 0] 168))=W1;intro d6 e2 f8 g0 e6;clear hP HP;have l0:w.heap.size+1<=rb:=by omega
 have j3:Hid (r.sv.ownBlock≠some rb):=λe=>by have:=aW HM.out.fr.1.st _ e;omega
 clear e0;replace k2:=(d6.but.cell (p:=⟨mb,2,none⟩) e8 nF).trans k2;replace e8:=bq e8 d6.but.size;obtain⟨i0,i1,i2,i3,i4⟩:=bN e2;obtain⟨a0,a1,_,_,g7⟩:=f8.parts;obtain⟨b0,b1,_,_,h0⟩:=g0.parts;have b6:=ae e2;have a7:B_ W1 W1.drew:=aD _ _;refine aI (B_ W1) 7 ?_
 iterate 7 (refine gL (v:=?_) rfl a7 ?_ ?_;rotate_left;(focus (intro wS h;have q0:=((h.cell (p:=⟨mb,2,none⟩) e8 nF).trans k2);have q1:=((h.cell (p:=⟨w.heap.size,0,none⟩) b6 nF).trans i0);have q2:=((h.cell (p:=⟨w.heap.size,1,none⟩) b6 nF).trans i1);have q3:=((h.cell (p:=⟨w.heap.size,2,none⟩) b6 nF).trans i2);have q4:=((h.cell (p:=⟨w.heap.size,3,none⟩) b6 nF).trans i3);have q5:=((h.cell (p:=⟨w.heap.size,4,none⟩) b6 nF).trans i4);have q6:=((h.cell (p:=⟨w.heap.size+1,0,none⟩) g7 nF).trans a0);have q7:=((h.cell (p:=⟨w.heap.size+1,1,none⟩) g7 nF).trans a1);have q8:=((h.cell (p:=⟨w.heap.size+1+1,0,none⟩) h0 nF).trans b0);have q9:=((h.cell (p:=⟨w.heap.size+1+1,1,none⟩) h0 nF).trans b1);clear h;go_simp;try rfl));dsimp only[Act.put];try simp only[cH])
 clear k2 i0 i1 i2 i3 i4 a0 a1 b0 b1 g7 h0 f8 g0;refine az rfl ?_;intro KS hKS;go_simp;refine(HD.out _ d6.drewM).mono ?_;intro en w1 i5;obtain⟨u,e,s',vo',vb',gs',fv',sn',rfl,f6,h9,hR⟩:=i5.outs;clear i5;simp only[bW];refine hKS.out _ _ nofun ?_;clear hKS KS
 iterate 3 (refine o7 (v:=?_) rfl ?_ ?_;rotate_left;(focus (intro wS;go_simp;try rfl));dsimp only[Act.put];try simp only[cH])
 have e1:=ae e6;have f1: ¬FrQ (PQ (nz mb (r::rs)) w W1.drew) w0 rb:=λhh=>hh.2 (Or.inr ⟨by omega,e1⟩)
 have f0: ¬FrQ (PQ (nz mb (r::rs)) w W1.drew) w0 w.heap.size:=λhh=>hh.2 (Or.inr ⟨by omega,b6⟩)
 have g5:=(e6.but a7 nF).but f6 f1;have g3:=(f6.block w.heap.size b6 f0).trans e2;obtain⟨v0,v1,z0,z1,f2⟩:=g5.parts;simp only[xN,xO]at v0 v1;refine az rfl ?_;intro KS hKS;go_simp;refine hKS.out _ _ nofun ?_;clear hKS KS;refine az rfl ?_;intro KS hKS;go_simp;refine hKS.out _ _ nofun ?_;clear hKS KS;refine aR rfl ?_;have a6:But (· =rb) w1 ((w1.setCell ⟨rb,0,none⟩ (.int .i32 (xN u))).setCell ⟨rb,1,none⟩ (.int .i64 (xO u))):=(au _ _ _ _).trans (au _ _ _ _);have g6:=g5.put u;have a8:=hid (HM.out.did d6.drewM.but f6 h9 (by omega) e1 a6 (λc fz e'=>cE g6 e' (by decide) rfl));have e4:=hid ((a6.block w.heap.size (ae g3) (by show¬w.heap.size=rb;omega)).trans g3)
 have f4:=hid g6;have HR:=hid hR;clear v0 v1 z0 z1 f2 g5 g6 g3 a6 f6 a7 b6 e6 e2 d6 HD HM e8 f1 f0 h9 hR e1;revert a8 e4 f4;generalize ((w1.setCell ⟨rb,0,none⟩ (.int .i32 (xN u))).setCell ⟨rb,1,none⟩ (.int .i64 (xO u)))=W2;intro a8 e4 f4;have m0:=a8.out.mc.c0;have c5:=a8.out.fr.1.fr.body.2.2.2.1;rw[j4.out]at c5;have e9:=a8.out.mc.lt;have e7:=a8.out.fr.1.fr.lt;have a4:=ae e4.out;obtain⟨i6,i7,j0,j1,j2⟩:=bN e4.out;generalize (bu im.zj r.b).locals.length=nL at*;go_wp2_with fail;have a7:B_ W2 W2.drew:=aD _ _;refine aI (B_ W2) 12 ?_
 iterate 10 (refine aQ (v:=?_) rfl a7 ?_ ?_;rotate_left;(focus (intro wS h;have q0:=((h.cell (p:=⟨mb,0,none⟩) e9 nF).trans m0);have q1:=((h.cell (p:=⟨r.fb,5,none⟩) e7 nF).trans c5);have q2:=((h.cell (p:=⟨w.heap.size,0,none⟩) a4 nF).trans i6);have q3:=((h.cell (p:=⟨w.heap.size,1,none⟩) a4 nF).trans i7);have q4:=((h.cell (p:=⟨w.heap.size,2,none⟩) a4 nF).trans j0);have q5:=((h.cell (p:=⟨w.heap.size,3,none⟩) a4 nF).trans j1);have q6:=((h.cell (p:=⟨w.heap.size,4,none⟩) a4 nF).trans j2);clear h;go_simp;try rfl));dsimp only[Act.put];try simp only[cH])
 clear m0 c5 i6 i7 j0 j1 j2;refine az rfl ?_;intro KS hKS;go_simp;refine(g1.out _ (a8.out.wd.old.trans a7)).mono ?_;rintro en w3 ⟨rfl,a6⟩;have e5:=a7.trans a6;refine hKS.out _ _ (λ_=>e5) ?_;clear hKS KS;refine az rfl ?_;intro KS hKS;go_simp;refine hKS.out _ _ (λ_=>e5) ?_;clear hKS KS;refine aR rfl ?_;have a3:=hid (a8.out.new e5);have h5:=hid (f4.out.but e5 nF);clear a8 f4 e4 g1 e5 a7 a6 e9 e7 a4
 cases psh
 .dsimp only at hly;have k3:(LY.toNat:Int)=0:=by omega
  have c8:=a3.out.fr.1.fr.c8;have z8:=a3.out.fr.1.fr.fz 8;have b4:=a3.out.fr.1.fr.lt;have l4:=er ((f.pc:Int)+1) (by omega) (by omega);go_wp2_with fail;have c9:=a3.out.pushed (sv':=r.sv) (stk':=f.zx) ((au _ _ _ _).mono (λ_ _ h=>Or.inl h)) (a3.out.fr.1.fr.set8 (f.pc+1)) (aj a3.out.fr.1.st (au _ _ _ _) (λg hg e=>aL a3.out.fr.1.st a3.out.fr.1.fr (by decide) (e▸hg))) (Or.inl rfl);exact du (.int .i64 e) results145 rfl rfl ⟨u,e,s',vo',vb',gs',fv',sn',_,HR.out,rfl,c9⟩
 .dsimp only at hly;have k3:(LY.toNat:Int)≠0:=by omega
  obtain⟨i0,k0,l5,l6,m1⟩:=info_parts uO;obtain⟨a2,b3,h1⟩:=aw a3.out.fr.1.st;have g4:=a3.out.fr.1.st;have f5:=a3.out.fr.1.fr.c10;have h6:=a3.out.fr.1.fr.fz 10;have ac:r.sv.ownBlock≠some r.fb:=λe=>aL a3.out.fr.1.st a3.out.fr.1.fr (by decide) e
  rw[h1]at g4 f5 ac;have g2:=hid h1;clear h1;have b4:=a3.out.fr.1.fr.lt;obtain⟨v0,v1,_,_,f3⟩:=h5.out.parts;have l3:=l0;have av:(Value.slice a2 f.zx.length b3).ownBlock≠some rb:=λe=>j3.out (g2.out▸e)
  have m2:w0.heap.size<=w3.heap.size:=a3.out.wd.old.size;go_wp2_with fail;have a7:But (λk=>(Value.slice a2 f.zx.length b3).ownBlock=some k) w3 w3.drew:=aD _ _;refine aI (But (λk=>(Value.slice a2 f.zx.length b3).ownBlock=some k) w3) 8 ?_
  iterate 6 (refine aQ (v:=?_) rfl a7 ?_ ?_;rotate_left;(focus (intro wS h;have q0:=((h.cell (p:=⟨r.fb,10,none⟩) b4 ac).trans f5);have q1:=((h.cell (p:=⟨rb,0,none⟩) f3 av).trans v0);have q2:=((h.cell (p:=⟨rb,1,none⟩) f3 av).trans v1);clear h;go_simp;try rfl));dsimp only[Act.put];try simp only[cH])
  refine az rfl ?_;intro KS hKS;go_simp;refine hKS.out _ _ (λ_=>(ag _ _ _).trans (aD _ _)) ?_;clear hKS KS;refine az rfl ?_;intro KS hKS
  refine step_append_lies _ (by rfl) _ _ _ (by rfl) w0.heap.size 168 i0 _ 2 16 (by kernel_rfl) k0 l5 l6 m1 rfl (by omega) _ f.zx.length (aJ f.zx) (by rfl) ((g4.alloc _).drew)
     ⟨w3.heap.size,0,none⟩ 1 1 [.int .i32 (xN u),.int .i64 (xO u)] (by rfl) (by rfl) (fX (cs:=#[.int .i32 (xN u),.int .i64 (xO u)]) (t:=168) (fr:=(0,0)) (aO w3 _)) (by simp[Value.oneCell'])
     (by omega) (by unfold maxLen;omega) (by omega) (by simp;omega) (w3.heap.size+1) (by simp) ?_
  intro gg cap3 w4 a5 b5 j5 k9;have e3:But (λk=>(Value.slice a2 f.zx.length b3).ownBlock=some k) w3 w4:=((ag _ _ _).trans (aD _ _)).trans (bc b5);refine hKS.out _ _ (λ_=>e3) ?_;clear hKS KS;have y0:=(e3.cell (p:=⟨r.fb,10,none⟩) b4 ac).trans f5;have y1:=(e3.frozen (p:=⟨r.fb,10,none⟩) b4 ac).trans h6;refine az rfl ?_;intro KS hKS;go_simp;refine hKS.out _ _ nofun ?_;clear hKS KS;refine az rfl ?_;intro KS hKS;go_simp;refine hKS.out _ _ nofun ?_;clear hKS KS;refine az rfl ?_;intro KS hKS;go_simp;refine hKS.out _ _ nofun ?_;clear hKS KS;refine aR rfl ?_;have c7:=a3.out.fr.1.fr.but e3 ac;have b9:=c7.set10 (.slice (some ⟨gg,0,none⟩) (f.zx.length+1) cap3)
  have f7:=aj a5 (au w4 r.fb 10 (.slice (some ⟨gg,0,none⟩) (f.zx.length+1) cap3)) (λg hg e=>aL a5 c7 (by decide) (e▸hg));have a6:But (λk=>k=r.fb\/r.sv.ownBlock=some k) w3 (w4.setCell ⟨r.fb,10,none⟩ (.slice (some ⟨gg,0,none⟩) (f.zx.length+1) cap3)):=(e3.mono (λk _ h=>Or.inr (by rw[g2.out];exact h))).trans ((au _ _ _ _).mono (λ_ _ h=>Or.inl h));clear y0 y1 a5 b5 e3 c7 g4 f5 h6 v0 v1 h5;revert b9 f7 a6;generalize (w4.setCell ⟨r.fb,10,none⟩ (.slice (some ⟨gg,0,none⟩) (f.zx.length+1) cap3))=W3;intro b9 f7 a6;have c8:=b9.c8;have z8:=b9.fz 8;have h2:=hid b9;have h3:=hid f7;have l4:=er ((f.pc:Int)+1) (by omega) (by omega)
  have j7:=b9.lt;clear b9 f7;go_wp2_with fail;have c9:=a3.out.pushed (stk':=f.zx++ [u]) (a6.trans ((au _ _ _ _).mono (λ_ _ h=>Or.inl h))) (h2.out.set8 (f.pc+1)) (by rw[qg,aZ];exact aj h3.out (au _ _ _ _) (λg hg e=>aL h3.out h2.out (by decide) (e▸hg))) (j5.imp (λh=>by rw[g2.out];exact h.symm) (λh=>⟨gg,rfl,by omega⟩));exact du (.int .i64 e) results145 rfl rfl ⟨u,e,s',vo',vb',gs',fv',sn',_,HR.out,rfl,c9⟩
end
def tkA (n:Nat) (s:List V):V:=if n=0 then .z else if n=1 then bE s else fk s
def tkB (n:Nat) (s:List V):V:=if n=2 then bE s else .z
def tkR (n:Nat) (s:List V):List V:=if n=0 then s else if n=1 then bB s else dC s
section
variable {w0 w w':World} {im:Img} {T:de} {mb tx:Nat} {tv:Value} {bw cells:Nat} {ans:Int} {inp:ByteArray} {r:Fr} {rs:List Fr} {f:Fm} {fs:List Fm} {s:Ev} {vo vb:Value} {gs:List Nat} {fv:List Value} {cn:Int} {sn:Nat->Int}
theorem DK (h:McQ w0 w im T mb tx tv bw cells ans inp (r::rs) (f::fs) s vo vb gs fv cn sn) (n:Nat) (hn:n<=2) (hl:n<=f.zx.length) (h4:f.zx.length<=4000):
  Calls prog 141 #[.pointer (some ⟨r.fb,0,none⟩),.int .i64 n] w λen w'=>en= .returned (.tuple #[bW (tkA n f.zx),bW (tkB n f.zx)])/\But (· =r.fb) w w'/\ ∃sv',McQ w0 w' im T mb tx tv bw cells ans inp ({r with sv:=sv'}::rs) ({f with zx:=tkR n f.zx}::fs) s vo vb gs fv cn sn:=by
 obtain rfl|rfl|rfl:n=0\/n=1\/n=2:=by omega
 .refine(DG w r.fb).mono ?_;rintro en w1 ⟨rfl,hB⟩;exact⟨rfl,hB.mono (λ_ _ h=>h.elim),r.sv,h.new hB⟩
 .refine(DH w r.fb _ _ _ _ _ _ _ _ _ _ _ h.fr.1.fr h.fr.1.st hl h4).mono ?_;rintro en w1 ⟨rfl,hB,sv',hF,hO,hE⟩;exact⟨rfl,hB,sv',h.pushed (hB.mono (λ_ _ h=>Or.inl h)) hF hO (Or.inl hE)⟩
 .refine(DI w r.fb _ _ _ _ _ _ _ _ _ _ _ h.fr.1.fr h.fr.1.st hl h4).mono ?_;rintro en w1 ⟨rfl,hB,sv',hF,hO,hE⟩;exact⟨rfl,hB,sv',h.pushed (hB.mono (λ_ _ h=>Or.inl h)) hF hO (Or.inl hE)⟩
/--A step,whatever the instruction:what is left to say is what it calls. -/
theorem xE (Q:Int->World->Prop) (h:McQ w0 w im T mb tx tv bw cells ans inp (r::rs) (f::fs) s vo vb gs fv cn sn) (hT:eS w0 tx im) (hcl:(im.zz.map toX).length<=100) (hsg:im.zj.length<=100) (h4:f.zx.length<=4000) (h100:(bu im.zj r.b).items.length<=100) (x:XIt) (hx:(bu im.zj r.b).items[f.pc]?=some x)
  (h2:(aE (im.zz.map toX) im.zj x.op x.cls x.num (bu im.zj r.b).ans).length<=2) (hl:(aE (im.zz.map toX) im.zj x.op x.cls x.num (bu im.zj r.b).ans).length<=f.zx.length)
  (hA: ∀Y sv',McQ w0 Y im T mb tx tv bw cells ans inp ({r with sv:=sv'}::rs) ({f with zx:=tkR (aE (im.zz.map toX) im.zj x.op x.cls x.num (bu im.zj r.b).ans).length f.zx}::fs) s vo vb gs fv cn sn->
   ((x.op.toNat≠99/\x.op.toNat≠116/\x.op.toNat≠106/\x.op.toNat≠102)/\Calls prog 145 #[.pointer (some ⟨mb,0,none⟩),.pointer (some ⟨r.fb,0,none⟩),dF x,bW (tkA (aE (im.zz.map toX) im.zj x.op x.cls x.num (bu im.zj r.b).ans).length f.zx),bW (tkB (aE (im.zz.map toX) im.zj x.op x.cls x.num (bu im.zj r.b).ans).length f.zx)] Y (λen w'=> ∃e,en= .returned (.int .i64 e)/\Q e w'))\/
   (x.op.toNat=99/\Calls prog 142 #[.pointer (some ⟨mb,0,none⟩),.int .i64 x.num,bW (tkA (aE (im.zz.map toX) im.zj x.op x.cls x.num (bu im.zj r.b).ans).length f.zx),bW (tkB (aE (im.zz.map toX) im.zj x.op x.cls x.num (bu im.zj r.b).ans).length f.zx)] Y (λen w'=> ∃e,en= .returned (.int .i64 e)/\Q e w'))\/
   (x.op.toNat=116/\Calls prog 143 #[.pointer (some ⟨mb,0,none⟩),bW (tkA (aE (im.zz.map toX) im.zj x.op x.cls x.num (bu im.zj r.b).ans).length f.zx)] Y (λen w'=>en= .returned (.tuple #[])/\Q 0 w'))\/
   (x.op.toNat=102/\Calls prog 144 #[.pointer (some ⟨r.fb,0,none⟩),.int .i64 x.num,bW (tkA (aE (im.zz.map toX) im.zj x.op x.cls x.num (bu im.zj r.b).ans).length f.zx)] Y (λen w'=>en= .returned (.tuple #[])/\Q 0 w'))\/
   (x.op.toNat=106/\ ∀Z sz,McQ w0 Z im T mb tx tv bw cells ans inp ({r with sv:=sz}::rs) ({f with zx:=tkR (aE (im.zz.map toX) im.zj x.op x.cls x.num (bu im.zj r.b).ans).length f.zx,pc:=x.num}::fs) s vo vb gs fv cn sn->Q 0 Z)):
  Calls prog 88 #[.pointer (some ⟨mb,0,none⟩)] w (λen w'=> ∃e,en= .returned (.int .i64 e)/\Q e w'):=by
 have b3:=hid (Bo _ _ _ _ _ _ _ _ _ _ _ _ h.fr.1.fr (aj h.fr.1.it h.wd.old (λ_ _ h=>h)) x hx h100);have k4:w.cell? ⟨mb,4,none⟩=some (.pointer (some ⟨r.fb,0,none⟩)):=h.mc.c4;have f6:=h.mc.lt;have f5:=h.fr.1.fr.lt;have e2:=hid (λ(Y:World) (hY:B_ w0 Y)=>mo tx (im.zz.map toX) im.zj x.place x.num x.op x.cls (bu im.zj r.b).ans Y (ap:=x.pa) (np:=x.pn) (cp:=x.pc) hcl hsg (hT.cls.but hY) (hT.met.but hY));generalize aE (im.zz.map toX) im.zj x.op x.cls x.num (bu im.zj r.b).ans=TK at*;have HM:=hid h;have HA:=hid hA;unfold dF at b3;clear h hA
 go_in
 go_wp2_with fail;refine b3.out.mono ?_;rintro en w1 ⟨rfl,e3⟩;have e5:B_ w (w1.alloc (.cells #[.int .i64 x.place,.int .u8 x.op.toNat,.int .u8 x.cls.toNat,.int .i64 x.num,.slice x.pa x.pn x.pc] 219)):=e3.trans (ag _ _ _);have e7:=aO w1 (.cells #[.int .i64 x.place,.int .u8 x.op.toNat,.int .u8 x.cls.toNat,.int .i64 x.num,.slice x.pa x.pn x.pc] 219);have f7:=e3.size;have b1:=hid e5;have a3:=hid e7;clear e5 e7 b3 k4;go_wp2_with fail;revert b1 a3;generalize (w1.alloc (.cells #[.int .i64 x.place,.int .u8 x.op.toNat,.int .u8 x.cls.toNat,.int .i64 x.num,.slice x.pa x.pn x.pc] 219))=W1;intro b1 a3
 generalize w1.heap.size=ib at*;have a5:=HM.out.new b1.out;have m0:=a5.mc.c0;have c4:=a5.fr.1.fr.body.2.2.1;have e1:=a5.mc.lt;have d6:=a5.fr.1.fr.lt;obtain⟨i0,i1,i2,i3,i4⟩:=bN a3.out;have a6:=ae a3.out;have b4:=hid a5;clear a5 HM;have b2:B_ W1 W1.drew:=aD _ _;refine aI (B_ W1) 12 ?_
 iterate 10 (refine aQ (v:=?_) rfl b2 ?_ ?_;rotate_left;(focus (intro wS h;have q0:=((h.cell (p:=⟨mb,0,none⟩) e1 nF).trans m0);have q1:=((h.cell (p:=⟨r.fb,4,none⟩) d6 nF).trans c4);have q2:=((h.cell (p:=⟨ib,0,none⟩) a6 nF).trans i0);have q3:=((h.cell (p:=⟨ib,1,none⟩) a6 nF).trans i1);have q4:=((h.cell (p:=⟨ib,2,none⟩) a6 nF).trans i2);have q5:=((h.cell (p:=⟨ib,3,none⟩) a6 nF).trans i3);have q6:=((h.cell (p:=⟨ib,4,none⟩) a6 nF).trans i4);clear h;go_simp;try rfl));dsimp only[Act.put];try simp only[cH])
 refine az rfl ?_;intro KS hKS;go_simp;refine(e2.out _ (b4.out.wd.old.trans b2)).mono ?_;rintro en w2 ⟨e4,vT,rfl,e8⟩;have a8:=b2.trans e4;refine hKS.out _ _ (λ_=>a8) ?_;clear hKS KS;refine az rfl ?_;intro KS hKS;go_simp;refine hKS.out _ _ (λ_=>a8) ?_;clear hKS KS;refine aR rfl ?_;obtain⟨aT,cT,rfl⟩:=aw e8;have c7:=b4.out.new a8;have b5:=hid (DK c7 TK.length h2 hl h4);have b9:=(a8.block ib a6 nF).trans a3.out;have a2:=hid b9;have b0:ib≠r.fb:=λe=>cE b9 c7.fr.1.fr (by decide) e
 clear m0 c4 i0 i1 i2 i3 i4 c7 b9 e8 e2 a3 b1 b4 e4 a8 b2;unfold bW at b5;generalize tkA TK.length f.zx=a at*;generalize tkB TK.length f.zx=b at*;generalize tkR TK.length f.zx=rest at*;generalize TK.length=nT at*;go_wp2_with fail;refine b5.out.mono ?_;rintro en w3 ⟨rfl,a7,sv',c9⟩;clear b5;have b6:B_ w3 ((w3.alloc (.cells #[.int .i32 (xN a),.int .i64 (xO a)] 168)).alloc (.cells #[.int .i32 (xN b),.int .i64 (xO b)] 168)):=(ag _ _ _).trans (ag _ _ _);have e6:=(b6.block ib (by have:=ae a2.out;have:=a7.size;omega) nF).trans ((a7.block ib (ae a2.out) b0).trans a2.out);have e9:d8 ((w3.alloc (.cells #[.int .i32 (xN a),.int .i64 (xO a)] 168)).alloc (.cells #[.int .i32 (xN b),.int .i64 (xO b)] 168)) w3.heap.size a:=((ag (λ_=>False) _ _).block _ (by simp) nF).trans (aO w3 _)
 have f0:d8 ((w3.alloc (.cells #[.int .i32 (xN a),.int .i64 (xO a)] 168)).alloc (.cells #[.int .i32 (xN b),.int .i64 (xO b)] 168)) (w3.heap.size+1) b:=aB (by simp) _;have a0:=hid c9;have a4:=hid (c9.new b6);have f1:=hid e6;have f2:=hid e9;have f3:=hid f0;obtain⟨j0,j1,j2,j3,j4⟩:=bN ((a7.block ib (ae a2.out) b0).trans a2.out);have f4:ib<w3.heap.size:=by have:=ae a2.out;have:=a7.size;omega
 clear e6 e9 f0 c9 a2 b6 a7
 try unfold bW at HA
 have hC:=HA.out _ sv' a4.out;clear HA f1 f2 f3;obtain⟨⟨n1,n2,n3,n4⟩,hC⟩ | ⟨hc,hC⟩ | ⟨hc,hC⟩ | ⟨hc,hC⟩ | ⟨hc,hC⟩:=hC
 .have t1:((x.op.toNat:Int)==99)=false:=wM (k:=99) n1;have t2:((x.op.toNat:Int)==116)=false:=wM (k:=116) n2;have t3:((x.op.toNat:Int)==106)=false:=wM (k:=106) n3;have t4:((x.op.toNat:Int)==102)=false:=wM (k:=102) n4;unfold dF at hC;have HC:=hid hC;clear n1 n2 n3 n4 hC a0 a4;go_wp2_with fail;refine HC.out.mono ?_;rintro en w5 ⟨e,rfl,hQ⟩;have HQ:=hid hQ;clear hQ HC j0 j1 j2 j3 j4;go_wp2_with fail;exact du (.int .i64 e) results88 rfl rfl ⟨e,rfl,HQ.out⟩
 .have a1:(x.op.toNat:Int)=99:=by have:=hc;omega
  rw[a1]at j1;have HC:=hid hC;clear a1 hc hC a0 a4;go_wp2_with fail;refine HC.out.mono ?_;rintro en w5 ⟨e,rfl,hQ⟩;have HQ:=hid hQ;clear hQ HC j0 j1 j2 j3 j4;go_wp2_with fail;exact du (.int .i64 e) results88 rfl rfl ⟨e,rfl,HQ.out⟩
 .have a1:(x.op.toNat:Int)=116:=by have:=hc;omega
  rw[a1]at j1;have HC:=hid hC;clear a1 hc hC a0 a4;go_wp2_with fail;refine HC.out.mono ?_;rintro en w5 ⟨rfl,hQ⟩;have HQ:=hid hQ;clear hQ HC j0 j1 j2 j3 j4;go_wp2_with fail;exact du (.int .i64 0) results88 rfl rfl ⟨0,rfl,HQ.out⟩
 .have a1:(x.op.toNat:Int)=102:=by have:=hc;omega
  rw[a1]at j1;have HC:=hid hC;clear a1 hc hC a0 a4;go_wp2_with fail;refine HC.out.mono ?_;rintro en w5 ⟨rfl,hQ⟩;have HQ:=hid hQ;clear hQ HC j0 j1 j2 j3 j4;go_wp2_with fail;exact du (.int .i64 0) results88 rfl rfl ⟨0,rfl,HQ.out⟩
 .have a1:(x.op.toNat:Int)=106:=by have:=hc;omega
  rw[a1]at j1;clear a1 hc;have c8:=a0.out.fr.1.fr.c8;have z8:=a0.out.fr.1.fr.fz 8;have e0:=a0.out.fr.1.fr.lt;simp only at c8 z8 e0;have hp:=a0.out.pushed (pc':=x.num) (sv':=sv') (stk':=rest) ((au w3 r.fb 8 (.int .i64 x.num)).mono (λ_ _ h=>Or.inl h)) (a0.out.fr.1.fr.set8 x.num) (aj a0.out.fr.1.st (au w3 r.fb 8 (.int .i64 x.num)) (λg hg e=>aL a0.out.fr.1.st a0.out.fr.1.fr (by decide) (by have e:g=r.fb:=e;rw[<-e];exact hg))) (Or.inl rfl);have HQ:=hid (λY hY=>hC Y sv' (hp.new hY));clear hC a4 a0 hp;go_wp2_with fail;exact du (.int .i64 0) results88 rfl rfl ⟨0,rfl,HQ.out _ ((ag _ _ _).trans (ag _ _ _))⟩
end
end
section
open Go Go.RowKit Sp
section
variable {w0 w w':World} {im:Img} {T:de} {mb tx:Nat} {tv:Value} {bw cells:Nat} {ans:Int} {inp:ByteArray} {r q:Fr} {rs:List Fr} {f g:Fm} {fs:List Fm} {s:Ev} {vo vb:Value} {gs:List Nat} {fv:List Value} {cn:Int} {sn:Nat->Int}
theorem DL (h:McQ w0 w im T mb tx tv bw cells ans inp [r] [f] s vo vb gs fv cn sn) (u:V):
  Calls prog 143 #[.pointer (some ⟨mb,0,none⟩),bW u] w λen w'=>en= .returned (.tuple #[])/\McQ w0 w' im T mb tx tv bw cells (xN u) inp [] [] s vo vb gs fv cn sn:=by
 unfold bW;refine(Bp _ _ _ _ _ _ _ _ _ _ _ _ _ _ _ _ h.mc h.fr.1.fr (xN u) (xO u)).mono ?_;rintro en w1 ⟨rfl,hB,hM⟩;refine⟨rfl,h.step hB (λk e=>Or.inl e) hM trivial (λk hk=> ?_)⟩;obtain e| ⟨q,hq,_⟩:=hk
 .exact Or.inl (Or.inl e)
 .cases hq
end
theorem C5 {cs:List Cls} {hp:List Ob} {t:UInt8} {v:V} (h:VT cs hp t v):ig hp.length v:=by
 cases v with
 |i n=>exact Or.inl ⟨n,rfl⟩
 |z=>exact Or.inr (Or.inl rfl)
 |o k=>
  obtain⟨_,ob,hk,_⟩:=h;exact Or.inr (Or.inr ⟨k,rfl,(bC hk).1⟩)
theorem zA {im:Img} (hw:WfI im) {hp:List Ob} (hh:HT im.zz hp):nW (im.zz.map toX) hp:=by
 intro o ho;obtain⟨k,hk,rfl⟩:=List.getElem_of_mem ho;have a0:hp[k]?=some hp[k]:=aH hk;have hc:=hh.cls k _ a0;have hn:=hw.nc;have hl:=hh.len k _ a0;have hf:=uS hw.nc hc;have h2:=mT hw.cls hw.nc (UInt8.ofNat (65+hp[k].cls));rw[hf]at h2;refine⟨⟨UInt8.ofNat (65+hp[k].cls),xB (by omega),by rw[hf,hl]⟩,by omega,λu hu=> ?_⟩;obtain⟨j,hj,e⟩:=List.getElem_of_mem hu;exact C5 (hh.fs k _ j u a0 (by rw[aH hj,e]))
theorem rt {cs:List Cls} {hp:List Ob} {ts us:L_} {vs:List V} (h:STk cs hp ts vs) (hu: ∀j:Nat,j<vs.length->us[j]?=ts[j]?): ∀v∈fB vs us,ig hp.length v:=by
 intro v hv;unfold fB at hv;obtain⟨⟨a,t⟩,hm,rfl⟩:=List.mem_map.1 hv;obtain⟨hz,ht⟩:=List.mem_filter.1 hm;obtain⟨j,hj,e⟩:=List.getElem_of_mem hz;have a0:(vs.zip us)[j]?=some (a,t):=by rw[aH hj,e]
 rw[List.getElem?_zip_eq_some]at a0;have a1:j<vs.length:=(bC a0.1).1;have h1:=h.at' j a a0.1;have h2:ts.getD j 0=t:=by rw[co,<-hu j a1,a0.2];rfl
 rw[h2]at h1;exact C5 (h1.not45 (by simpa using ht))
theorem u6 {im:Img} {T:de} (hF:Fit im T) {hp:List Ob} {g:Fm} {b:Bod} {x:Ins} {s l st:L_} (hb:im.zq[g.q]?=some b) (hx:b.code[g.pc]?=some x) (hs:jg T g.q g.pc=some (s,l)) (hst:STk im.zz hp st g.zx) (hp1: ∀j:Nat,j<g.zx.length->s[j]?=st[j]?) (hlen:st.length<=s.length) (hlo:STk im.zz hp l g.loc):
  ((∃st lo,jg T g.q g.pc=some (st,lo))/\g.zx.length<=1000/\g.loc.length<=1000/\(∀t,T[g.q]?=some t->t.length<=100)/\ ∀u∈rI T g,ig hp.length u)/\g.pc<=100:=by
 obtain⟨t,ht,hG⟩:=hF.tab hb;have hw:=hF.wf.bod b (bp hb);have a0:=hF.wt g.q b t hb ht;have hk:=(eb ht).1 hs;obtain⟨hz,a4⟩:=a0.2 g.pc s l hk;have hn:=oQ t;have a1:=a0.1;have a2:=hw.len.2;have a3:g.pc<b.code.length:=(bC hx).1;refine⟨⟨⟨s,l,hs⟩,by rw[hst.len];omega,by rw[hlo.len,hz.2.2];have:=hw.loc.1;omega,λt' ht'=>by rw[ht]at ht';cases ht';omega,λu hu=> ?_⟩,by omega⟩;unfold rI at hu;rw[hs]at hu;obtain hu|hu:=List.mem_append.1 hu
 .exact rt hst hp1 u hu
 .exact rt hlo (λ_ _=>rfl) u hu
theorem wN {s:L_} {n j:Nat} (h:j<(s.take n).length):s[j]?=(s.take n)[j]?:=by
 rw[List.getElem?_take,if_pos (by rw[List.length_take]at h;omega)]
theorem Bs {im:Img} {T:de} (hF:Fit im T) {hp:List Ob} {b:Bod} {r:List Fm} (h:jQ im T hp b r):Es T hp.length r/\ ∀g∈r,g.pc<=100:=by
 induction h with
 |main b hb=>exact⟨λf hf=>(by cases hf),λf hf=>(by cases hf)⟩
 |call b g r bg x s l hb hg hx ho hm hs h2 hst hlo hr ih=>
  have hf:=u6 hF hg hx hs hst (λj hj=>wN (by rw[<-hst.len];exact hj)) (by rw[List.length_take];omega) hlo;refine⟨λf' hf'=> ?_,λf' hf'=> ?_⟩
  .obtain rfl|hf':=List.mem_cons.1 hf'
   .exact hf.1
   .exact ih.1 f' hf'
  .obtain rfl|hf':=List.mem_cons.1 hf'
   .exact hf.2
   .exact ih.2 f' hf'
theorem xF {im:Img} {T:de} (hF:Fit im T) {f:Fm} {rest:List Fm} {s:Ev} (h:MT im T f rest s):Es T s.heap.length (f::rest)/\ ∀g∈f::rest,g.pc<=100:=by
 obtain⟨b,x,st,l,hT,hC⟩:=h.top;have hf:=u6 hF hT.bd hT.ins hT.st hT.zx (λ_ _=>rfl) (b8 _) hT.loc;have hc:=Bs hF hC;refine⟨λf' hf'=> ?_,λf' hf'=> ?_⟩
 .obtain rfl|hf':=List.mem_cons.1 hf'
  .exact hf.1
  .exact hc.1 f' hf'
 .obtain rfl|hf':=List.mem_cons.1 hf'
  .exact hf.2
  .exact hc.2 f' hf'
end
end Go.Proofs.YtpfkkmacakjmbaaGreatDoor
