import Derived.Test.YtpfkkmacakjmbaaGreatDoorP17
import Derived.Test.YtpfkkmacakjmbaaGreatDoorP16
set_option maxRecDepth 100000
set_option maxHeartbeats 6400000
set_option linter.all false
namespace Go.Proofs.YtpfkkmacakjmbaaGreatDoor
open Proofs.Tryz
section
open Go Go.RowKit Sp
structure Fd where
 q:Nat
 pc:Int
 zx:List V
 loc:List V
 sv:Value
 lv:Value
def Fd.fm (d:Fd):Fm:=⟨d.q,d.pc.toNat,d.zx,d.loc⟩
def fdC (d:Fd):List Value:=[.int .i64 d.q,.int .i64 d.pc,d.sv,d.lv]
def d9 (ds:List Fd):List Value:=ds.flatMap fdC
theorem eV {ds:List Fd} {j k:Nat} {d:Fd} (h:ds[j]?=some d) (hk:k<4):(d9 ds)[j*4+k]?=(fdC d)[k]?:=eY fdC 4 (λ_=>rfl) ds j k d h hk
theorem ik (ds es:List Fd):d9 (ds++es)=d9 ds++d9 es:=by simp[d9]
theorem lr (ds:List Fd):(d9 ds).length=ds.length*4:=by
 induction ds with
 |nil=>rfl
 |cons d ds ih=>simp[d9,fdC]at ih⊢;omega
theorem oE (ds:List Fd) (d:Fd) (k:Nat) (v:Value):(d9 (ds++ [d])).set (ds.length*4+k) v=d9 ds++(fdC d).set k v:=by
 rw[ik,List.set_append_right _ _ (by rw[lr];omega),lr,Nat.add_sub_cancel_left];simp[d9]
abbrev Rows:=Nat×Nat->Option (Value×List V)
def cU (hp:List Ob) (fo:List Value) (ds:List Fd):Rows
 | (0,k)=>(hp[k]?).bind λo=>(fo[k]?).map λv=>(v,o.fs)
 | (1,k)=>(ds[k]?).map λd=>(d.sv,d.zx)
 | (2,k)=>(ds[k]?).map λd=>(d.lv,d.loc)
 |_=>none
structure jv (base:Nat) (w:World) (R:Rows):Prop where
 row: ∀a v l,R a=some (v,l)->w.ownsRow base 135 2 v l.length (aV l)
 sep: ∀a b v l v' l' g,R a=some (v,l)->R b=some (v',l')->v.ownBlock=some g->v'.ownBlock=some g->a=b
section
variable {base:Nat} {w w':World} {R R':Rows} {F:Nat->Prop}
theorem jv.but (h:jv base w R) (hB:But F w w') (hF: ∀a v l g,R a=some (v,l)->v.ownBlock=some g-> ¬F g):jv base w' R:=
 ⟨λa v l ha=>aj (h.row a v l ha) hB (λg hg=>hF a v l g ha hg),h.sep⟩
theorem jv.sub (h:jv base w R) (hs: ∀a p,R' a=some p->R a=some p):jv base w R':=
 ⟨λa v l ha=>h.row a v l (hs a _ ha),λa b v l v' l' g ha hb=>h.sep a b v l v' l' g (hs a _ ha) (hs b _ hb)⟩
theorem jv.upd (h:jv base w R) (a0:Nat×Nat) {v0:Value} {l0:List V} (hB:But F w w') (hR: ∀a,a≠a0-> ∀p,R' a=some p->R a=some p) (h0:R' a0=some (v0,l0)) (hF: ∀a v l g,a≠a0->R a=some (v,l)->v.ownBlock=some g-> ¬F g)
  (ho:w'.ownsRow base 135 2 v0 l0.length (aV l0)) (hn: ∀g,v0.ownBlock=some g->w.heap.size<=g\/ ∃v l,R a0=some (v,l)/\v.ownBlock=some g):jv base w' R':=by
 have key: ∀a v l g,a≠a0->R' a=some (v,l)->v.ownBlock=some g->v0.ownBlock≠some g:=λa v l g ha hv hg hg0=>by
  obtain hn| ⟨v1,l1,h1,h2⟩:=hn g hg0
  .have:=aW (h.row a v l (hR a ha _ hv)) g hg;omega
  .exact ha (h.sep a a0 v l v1 l1 g (hR a ha _ hv) h1 hg h2)
 refine⟨λa v l ha=> ?_,λa b v l v' l' g ha hb hg hg'=> ?_⟩
 .by_cases e:a=a0
  .subst e;rw[h0]at ha;cases ha;exact ho
  .exact aj (h.row a v l (hR a e _ ha)) hB (λg hg=>hF a v l g e (hR a e _ ha) hg)
 .by_cases e:a=a0<;>by_cases e':b=a0
  .rw[e,e']
  .subst e;rw[h0]at ha;cases ha;exact absurd hg (key b v' l' g e' hb hg')
  .subst e';rw[h0]at hb;cases hb;exact absurd hg' (key a v l g e ha hg)
  .exact h.sep a b v l v' l' g (hR a e _ ha) (hR b e' _ hb) hg hg'
theorem jv.add (h:jv base w R) (a0:Nat×Nat) {v0:Value} {l0:List V} (hB: ∀{v:Value} {n:Nat} {xs:List Value},w.ownsRow base 135 2 v n xs->w'.ownsRow base 135 2 v n xs) (hR: ∀a p,R' a=some p->R a=some p\/(a=a0/\p=(v0,l0))\/p=(S_,[]))
  (ho:w.ownsRow base 135 2 v0 l0.length (aV l0)) (hn: ∀g,v0.ownBlock=some g-> ∀a v l,R a=some (v,l)->v.ownBlock≠some g):jv base w' R':=by
 refine⟨λa v l ha=> ?_,λa b v l v' l' g ha hb hg hg'=> ?_⟩
 .obtain ha| ⟨rfl,hp⟩ |hp:=hR a _ ha
  .exact hB (h.row a v l ha)
  .cases hp;exact hB ho
  .cases hp;exact df _ _ _ _
 .obtain ha| ⟨rfl,hp⟩ |hp:=hR a _ ha<;>rcases hR b _ hb with hb| ⟨rfl,hp'⟩ |hp'
  .exact h.sep a b v l v' l' g ha hb hg hg'
  .cases hp';exact absurd hg (hn g hg' _ _ _ ha)
  .cases hp';cases hg'
  .cases hp;exact absurd hg' (hn g hg _ _ _ hb)
  .rfl
  .cases hp';cases hg'
  all_goals cases hp;cases hg
end
def DmB (w:World) (mb bi:Nat) (tv hv fv:Value) (inp:ByteArray) (rd:Int) (cells:Nat) (out:L_) (val e:Int):Prop:=
 w.heap[mb]?=some (.cells #[.pointer (some ⟨bi,0,none⟩),tv,hv,fv,.string inp,.int .i64 rd,.int .i64 cells,.string ⟨out.toArray⟩,.int .i64 val,.int .i64 e] 72)
section
variable {w:World} {mb bi cells:Nat} {tv hv fv:Value} {inp:ByteArray} {rd val e:Int} {out:L_}
theorem DmB.lt (h:DmB w mb bi tv hv fv inp rd cells out val e):mb<w.heap.size:=ae h
theorem DmB.cs (h:DmB w mb bi tv hv fv inp rd cells out val e):w.cell? ⟨mb,0,none⟩=some (.pointer (some ⟨bi,0,none⟩))/\w.cell? ⟨mb,1,none⟩=some tv/\w.cell? ⟨mb,2,none⟩=some hv/\w.cell? ⟨mb,3,none⟩=some fv/\w.cell? ⟨mb,4,none⟩=some (.string inp)/\w.cell? ⟨mb,5,none⟩=some (.int .i64 rd)/\w.cell? ⟨mb,6,none⟩=some (.int .i64 cells)/\w.cell? ⟨mb,7,none⟩=some (.string ⟨out.toArray⟩)/\w.cell? ⟨mb,8,none⟩=some (.int .i64 val)/\w.cell? ⟨mb,9,none⟩=some (.int .i64 e):=by
 refine⟨?_,?_,?_,?_,?_,?_,?_,?_,?_,?_⟩<;>(rw[aX w mb _ _ _ (0,0) h];rfl)
theorem DmB.fz (h:DmB w mb bi tv hv fv inp rd cells out val e) (j:Nat):w.frozen? ⟨mb,j,none⟩=false:=b7 w mb j _ _ h
theorem DmB.but {F:Nat->Prop} {w':World} (h:DmB w mb bi tv hv fv inp rd cells out val e) (hb:But F w w') (hf: ¬F mb):DmB w' mb bi tv hv fv inp rd cells out val e:=(hb.block mb h.lt hf).trans h
theorem DmB.set2 (h:DmB w mb bi tv hv fv inp rd cells out val e) (v:Value):DmB (w.setCell ⟨mb,2,none⟩ v) mb bi tv v fv inp rd cells out val e:=bG w mb 2 _ _ _ h
theorem DmB.set3 (h:DmB w mb bi tv hv fv inp rd cells out val e) (v:Value):DmB (w.setCell ⟨mb,3,none⟩ v) mb bi tv hv v inp rd cells out val e:=bG w mb 3 _ _ _ h
theorem DmB.set5 (h:DmB w mb bi tv hv fv inp rd cells out val e) (n:Int):DmB (w.setCell ⟨mb,5,none⟩ (.int .i64 n)) mb bi tv hv fv inp n cells out val e:=bG w mb 5 _ _ _ h
theorem DmB.set7 (h:DmB w mb bi tv hv fv inp rd cells out val e) (n:L_):DmB (w.setCell ⟨mb,7,none⟩ (.string ⟨n.toArray⟩)) mb bi tv hv fv inp rd cells n val e:=bG w mb 7 _ _ _ h
theorem DmB.set8 (h:DmB w mb bi tv hv fv inp rd cells out val e) (n:Int):DmB (w.setCell ⟨mb,8,none⟩ (.int .i64 n)) mb bi tv hv fv inp rd cells out n e:=bG w mb 8 _ _ _ h
theorem DmB.set9 (h:DmB w mb bi tv hv fv inp rd cells out val e) (n:Int):DmB (w.setCell ⟨mb,9,none⟩ (.int .i64 n)) mb bi tv hv fv inp rd cells out val n:=bG w mb 9 _ _ _ h
end
structure Dk where
 mb:Nat
 bi:Nat
 tv:Value
 inp:ByteArray
 cells:Nat
structure DmQ (K:Dk) (w0 w:World) (val e:Int) (hv fv:Value) (fo:List Value) (s:Ev) (ds:List Fd):Prop where
 old:B_ w0 w
 mc:DmB w K.mb K.bi K.tv hv fv K.inp s.read K.cells s.out val e
 len:fo.length=s.heap.length
 hp:w.ownsRow w0.heap.size 265 2 hv s.heap.length (fC s.heap fo)
 fr:w.ownsRow w0.heap.size 121 4 fv ds.length (d9 ds)
 rw:jv w0.heap.size w (cU s.heap fo ds)
 ge:w0.heap.size<=K.mb
section
variable {K:Dk} {w0 w w':World} {val e:Int} {hv fv:Value} {fo:List Value} {s:Ev} {ds:List Fd} {d:Fd} {F:Nat->Prop}
theorem DmQ.lt (h:DmQ K w0 w val e hv fv fo s ds):K.mb<w.heap.size:=h.mc.lt
theorem DmQ.nf (h:DmQ K w0 w val e hv fv fo s ds):fv.ownBlock≠some K.mb:=aL h.fr h.mc (by decide)
theorem DmQ.nh (h:DmQ K w0 w val e hv fv fo s ds):hv.ownBlock≠some K.mb:=aL h.hp h.mc (by decide)
theorem DmQ.fh (h:DmQ K w0 w val e hv fv fo s ds) {g:Nat} (hg:fv.ownBlock=some g):hv.ownBlock≠some g:=d7 h.fr h.hp (by decide) hg
theorem DmQ.rn (h:DmQ K w0 w val e hv fv fo s ds) {a v l g} (ha:cU s.heap fo ds a=some (v,l)) (hg:v.ownBlock=some g):g≠K.mb/\hv.ownBlock≠some g/\fv.ownBlock≠some g:=
 have ho:=h.rw.row a v l ha
 ⟨λe=>aL ho h.mc (by decide) (e▸hg),d7 ho h.hp (by decide) hg,d7 ho h.fr (by decide) hg⟩
theorem DmQ.new (h:DmQ K w0 w val e hv fv fo s ds) (hB:B_ w w'):DmQ K w0 w' val e hv fv fo s ds:=
 ⟨h.old.trans hB,h.mc.but hB (λh=>h),h.len,aj h.hp hB (λ_ _ h=>h),aj h.fr hB (λ_ _ h=>h),h.rw.but hB (λ_ _ _ _ _ _ h=>h),h.ge⟩
theorem DmQ.own {val' e':Int} {s':Ev} (h:DmQ K w0 w val e hv fv fo s ds) (hB:But (· =K.mb) w w') (hs:s'.heap=s.heap) (hm:DmB w' K.mb K.bi K.tv hv fv K.inp s'.read K.cells s'.out val' e'):DmQ K w0 w' val' e' hv fv fo s' ds:=
 ⟨h.old.next hB (λk hk e=>by have:=h.ge;omega),hm,by rw[hs];exact h.len,by rw[hs];exact aj h.hp hB (λg hg e=>h.nh (e▸hg)),aj h.fr hB (λg hg e=>h.nf (e▸hg)),by rw[hs];exact h.rw.but hB (λa v l g ha hg e=>(h.rn ha hg).1 e),h.ge⟩
theorem nX {hp:List Ob} {fo:List Value} {ds:List Fd} {d d':Fd} {a:Nat×Nat} (h1:a=(1,ds.length)->d'.sv=d.sv/\d'.zx=d.zx) (h2:a=(2,ds.length)->d'.lv=d.lv/\d'.loc=d.loc):cU hp fo (ds++ [d']) a=cU hp fo (ds++ [d]) a:=by
 obtain⟨a,k⟩:=a
 have hk:k≠ds.length->(ds++ [d'])[k]?=(ds++ [d])[k]?:=λhk=>by
  obtain h|h:=Nat.lt_or_ge k ds.length
  .rw[fN h,fN h]
  .rw[List.getElem?_eq_none (by simp;omega),List.getElem?_eq_none (by simp;omega)]
 match a with
 |0=>rfl
 |1=>
  by_cases e:k=ds.length
  .subst e;obtain⟨p,q⟩:=h1 rfl;simp[cU,p,q]
  .simp only[cU,hk e]
 |2=>
  by_cases e:k=ds.length
  .subst e;obtain⟨p,q⟩:=h2 rfl;simp[cU,p,q]
  .simp only[cU,hk e]
 |_+3=>rfl
theorem ja {hp:List Ob} {fo:List Value} {ds:List Fd} {d:Fd}:cU hp fo (ds++ [d]) (1,ds.length)=some (d.sv,d.zx):=by simp[cU]
theorem qj {hp:List Ob} {fo:List Value} {ds:List Fd} {d:Fd}:cU hp fo (ds++ [d]) (2,ds.length)=some (d.lv,d.loc):=by simp[cU]
theorem qm {hp:List Ob} {fo:List Value} {ds:List Fd} {k:Nat} {o:Ob} {v:Value} (h:hp[k]?=some o) (h':fo[k]?=some v):cU hp fo ds (0,k)=some (v,o.fs):=by simp[cU,h,h']
theorem DmQ.st (h:DmQ K w0 w val e hv fv fo s (ds++ [d])):w.ownsRow w0.heap.size 135 2 d.sv d.zx.length (aV d.zx):=h.rw.row _ _ _ ja
theorem DmQ.lo (h:DmQ K w0 w val e hv fv fo s (ds++ [d])):w.ownsRow w0.heap.size 135 2 d.lv d.loc.length (aV d.loc):=h.rw.row _ _ _ qj
theorem DmQ.fs (h:DmQ K w0 w val e hv fv fo s (ds++ [d])): ∃g cap,fv= .slice (some ⟨g,0,none⟩) (ds.length+1) cap/\ds.length+1<=cap:=by
 have ho:=h.fr;rw[aZ,dM]at ho;obtain⟨_,h0⟩ | ⟨g,cap,cur,hv,_,_,hn,_⟩:=ho.2
 .omega
 .exact⟨g,cap,hv,hn⟩
theorem DmQ.cs {g cap:Nat} (h:DmQ K w0 w val e hv (.slice (some ⟨g,0,none⟩) (ds.length+1) cap) fo s (ds++ [d])):g<w.heap.size/\w0.heap.size<=g/\g≠K.mb/\w.cell? ⟨g,ds.length*4,none⟩=some (.int .i64 d.q)/\w.cell? ⟨g,ds.length*4+1,none⟩=some (.int .i64 d.pc)/\w.cell? ⟨g,ds.length*4+2,none⟩=some d.sv/\w.cell? ⟨g,ds.length*4+3,none⟩=some d.lv/\ ∀j,w.frozen? ⟨g,j,none⟩=false:=by
 have ho:=h.fr;rw[aZ,dM]at ho;obtain⟨g',hg,a0,a1,hc⟩:=aF ho (by omega)
 cases hg
 have ht:(ds++ [d])[ds.length]?=some d:=by simp
 exact⟨a0,a1,λe=>h.nf (by rw[<-e];rfl),hc _ _ (eV (k:=0) ht (by omega)),hc _ _ (eV (k:=1) ht (by omega)),hc _ _ (eV (k:=2) ht (by omega)),hc _ _ (eV (k:=3) ht (by omega)),gU ho⟩
theorem DmQ.pc {g cap:Nat} (h:DmQ K w0 w val e hv (.slice (some ⟨g,0,none⟩) (ds.length+1) cap) fo s (ds++ [d])) (p:Int):DmQ K w0 (w.setCell ⟨g,ds.length*4+1,none⟩ (.int .i64 p)) val e hv (.slice (some ⟨g,0,none⟩) (ds.length+1) cap) fo s (ds++ [{d with pc:=p}]):=by
 have hB:=au w g (ds.length*4+1) (.int .i64 p);have hf:=h.fr;rw[aZ,dM]at hf;refine⟨h.old.next hB (λk hk e=>by have:=ay h.fr g rfl;omega),h.mc.but hB (λe=>h.nf (by rw[e];rfl)),h.len,aj h.hp hB (λg' hg' e=>h.fh (g:=g) rfl (e▸hg')),?_,?_,h.ge⟩
 .have:=iR hf (ds.length*4+1) (.int .i64 p);rw[oE]at this;rw[ik,aZ,dM];exact this
 .refine jv.sub (h.rw.but hB (λa v l g' ha hg e=>(h.rn ha hg).2.2 (by rw[e];rfl))) (λa p' hp=> ?_);exact(nX (d:=d) (d':={d with pc:=p}) (λ_=>⟨rfl,rfl⟩) (λ_=>⟨rfl,rfl⟩)).symm.trans hp
theorem DmQ.zx {g cap:Nat} {w1:World} (h:DmQ K w0 w val e hv (.slice (some ⟨g,0,none⟩) (ds.length+1) cap) fo s (ds++ [d])) {v:Value} {l:List V} (hB1:But (λk=>d.sv.ownBlock=some k) w w1) (ho:w1.ownsRow w0.heap.size 135 2 v l.length (aV l)) (hn: ∀g,v.ownBlock=some g->w.heap.size<=g\/d.sv.ownBlock=some g):
  DmQ K w0 (w1.setCell ⟨g,ds.length*4+2,none⟩ v) val e hv (.slice (some ⟨g,0,none⟩) (ds.length+1) cap) fo s (ds++ [{d with sv:=v,zx:=l}]):=by
 have a0:=au w1 g (ds.length*4+2) v;have hs: ∀{g},d.sv.ownBlock=some g->_:=λ{g} hg=>h.rn ja (v:=d.sv) (g:=g) hg
 have hf:=h.fr;rw[aZ,dM]at hf;have a1:=aj hf hB1 (λg' hg' e=>(hs e).2.2 hg');have hB:But (λk=>d.sv.ownBlock=some k\/k=g) w (w1.setCell ⟨g,ds.length*4+2,none⟩ v):=(hB1.mono (λ_ _ h=>Or.inl h)).trans (a0.mono (λ_ _ h=>Or.inr h));have a2:=aj ho a0 (λg' hg' e=>d7 ho a1 (by decide) hg' (by rw[e];rfl));refine⟨h.old.next hB (λk hk e=> ?_),h.mc.but hB (λe=> ?_),h.len,aj h.hp hB (λg' hg' e=> ?_),?_,?_,h.ge⟩
 .obtain e|rfl:=e
  .have:=ay h.st k e;omega
  .have:=ay h.fr k rfl;omega
 .obtain e|e:=e
  .exact(hs e).1 rfl
  .exact h.nf (by rw[e];rfl)
 .obtain e|e:=e
  .exact(hs e).2.1 hg'
  .exact h.fh (g:=g) rfl (e▸hg')
 .have:=iR a1 (ds.length*4+2) v;rw[oE]at this;rw[ik,aZ,dM];exact this
 .refine h.rw.upd (1,ds.length) hB (λa ha p hp=> ?_) ja (λa v' l' g' ha hv hg hF=> ?_) a2 (λg' hg'=> ?_)
  .exact(nX (d:=d) (d':={d with sv:=v,zx:=l}) (λe=>absurd e ha) (λ_=>⟨rfl,rfl⟩)).symm.trans hp
  .obtain e|e:=hF
   .exact ha (h.rw.sep a _ v' l' _ _ g' hv ja hg e)
   .exact(h.rn hv hg).2.2 (by rw[e];rfl)
  .exact(hn g' hg').imp id (λe=>⟨_,_,ja,e⟩)
theorem DmQ.put {a:Nat×Nat} {v:Value} {l:List V} {g:Nat} {fo:List Value} {s s':Ev} {ds ds':List Fd} (h:DmQ K w0 w val e hv fv fo s ds) (ha:cU s.heap fo ds a=some (v,l)) (hg:v.ownBlock=some g) (j:Nat) (u:V)
  (h1:ds'.length=ds.length/\d9 ds'=d9 ds) (h2:s'.heap.length=s.heap.length/\fC s'.heap fo=fC s.heap fo/\s'.read=s.read/\s'.out=s.out) (h3: ∀b,b≠a->cU s'.heap fo ds' b=cU s.heap fo ds b) (h4:cU s'.heap fo ds' a=some (v,l.set j u)):
  DmQ K w0 ((w.setCell ⟨g,j*2,none⟩ (.int .u8 u.K)).setCell ⟨g,j*2+1,none⟩ (.int .i64 u.N)) val e hv fv fo s' ds':=by
 have hB:But (· =g) w ((w.setCell ⟨g,j*2,none⟩ (.int .u8 u.K)).setCell ⟨g,j*2+1,none⟩ (.int .i64 u.N)):=(au _ _ _ _).trans (au _ _ _ _);obtain⟨n1,n2,n3⟩:=h.rn ha hg;have hr:=h.rw.row _ _ _ ha;refine⟨h.old.next hB (λk hk e=>by have:=ay hr g hg;omega),?_,by rw[h2.1];exact h.len,?_,?_,?_,h.ge⟩
 .rw[h2.2.2.1,h2.2.2.2];exact h.mc.but hB (λe=>n1 e.symm)
 .rw[h2.1,h2.2.1];exact aj h.hp hB (λg' hg' e=>n2 (e▸hg'))
 .rw[h1.1,h1.2];exact aj h.fr hB (λg' hg' e=>n3 (e▸hg'))
 .refine h.rw.upd a hB (λb hb p hp=>(h3 b hb)▸hp) h4 (λb v' l' g' hb hv hg' e=>hb (h.rw.sep b a v' l' v l g hv ha (e▸hg') hg)) ?_ (λg' hg'=>Or.inr ⟨v,l,ha,hg'⟩);rw[List.length_set];exact AT u hr hg
theorem DmQ.setL (h:DmQ K w0 w val e hv fv fo s (ds++ [d])) {g:Nat} (hg:d.lv.ownBlock=some g) (j:Nat) (u:V):DmQ K w0 ((w.setCell ⟨g,j*2,none⟩ (.int .u8 u.K)).setCell ⟨g,j*2+1,none⟩ (.int .i64 u.N)) val e hv fv fo s (ds++ [{d with loc:=d.loc.set j u}]):=
 h.put qj hg j u ⟨by simp,by simp[d9,fdC]⟩ ⟨rfl,rfl,rfl,rfl⟩ (λb hb=>nX (λ_=>⟨rfl,rfl⟩) (λe=>absurd e hb)) qj
theorem DmQ.setF (h:DmQ K w0 w val e hv fv fo s ds) {k:Nat} {ob:Ob} {v:Value} (hk:s.heap[k]?=some ob) (hv':fo[k]?=some v) {g:Nat} (hg:v.ownBlock=some g) (j:Nat) (u:V):DmQ K w0 ((w.setCell ⟨g,j*2,none⟩ (.int .u8 u.K)).setCell ⟨g,j*2+1,none⟩ (.int .i64 u.N)) val e hv fv fo (s.put k j u) ds:=by
 have e1:(s.put k j u).heap=s.heap.set k ⟨ob.cls,ob.fs.set j u⟩:=by simp[Ev.put,(Ev.at hk).1,(Ev.at hk).2]
 have a0:=(bC hk).1;refine h.put (qm hk hv') hg j u ⟨rfl,rfl⟩ ⟨by rw[e1,List.length_set],by rw[e1,uq hk],rfl,rfl⟩ (λb hb=> ?_) (qm (o:=⟨ob.cls,ob.fs.set j u⟩) (by rw[e1,List.getElem?_set_self a0]) hv');obtain⟨a,i⟩:=b;rw[e1]
 match a with
 |0=>simp only[cU];rw[List.getElem?_set_ne (λe=>hb (by rw[e]))]
 |1=>rfl
 |2=>rfl
 |_+3=>rfl
theorem DmQ.ob {w1:World} {hv' vf:Value} {ob:Ob} (h:DmQ K w0 w val e hv fv fo s ds) (hf:w.ownsRow w0.heap.size 135 2 vf ob.fs.length (aV ob.fs)) (hn: ∀g,vf.ownBlock=some g-> ∀a v l,cU s.heap fo ds a=some (v,l)->v.ownBlock≠some g)
  (hB1:But (λk=>hv.ownBlock=some k) w w1) (ho:w1.ownsRow w0.heap.size 265 2 hv' (s.heap.length+1) (fC s.heap fo++ [.int .i64 ob.cls,vf])):
  DmQ K w0 (w1.setCell ⟨K.mb,2,none⟩ hv') val e hv' fv (fo++ [vf]) {s with heap:=s.heap++ [ob]} ds:=by
 have a0:=au w1 K.mb 2 hv';have a1:=h.mc.but hB1 h.nh;refine⟨(h.old.next hB1 (λk hk hf=>by have:=ay h.hp k hf;omega)).next a0 (λk hk e=>by have:=h.ge;omega),a1.set2 hv',by simp[h.len],?_,aj (aj h.fr hB1 (λg hg=>h.fh hg)) a0 (λg hg e=>h.nf (e▸hg)),h.rw.add (0,s.heap.length) (λho=>aj (aj ho hB1 (λg hg=>d7 ho h.hp (by decide) hg)) a0 (λg hg e=>aL ho h.mc (by decide) (e▸hg))) (λa p hp=> ?_) hf hn,h.ge⟩
 .rw[aZ,sy h.len];exact aj ho a0 (λg hg e=>aL ho a1 (by decide) (e▸hg))
 .obtain⟨a,i⟩:=a
  match a with
  |0=>
   obtain hl|hl|hl:=Nat.lt_trichotomy i s.heap.length
   .simp only[cU]at hp⊢;rw[fN hl,fN (by rw[h.len];exact hl)]at hp;exact Or.inl hp
   .subst hl;have e2:(fo++ [vf])[s.heap.length]?=some vf:=by rw[<-h.len];simp
    simp[cU,e2]at hp;exact Or.inr (Or.inl ⟨rfl,hp.symm⟩)
   .simp only[cU]at hp;rw[List.getElem?_eq_none (by simp;omega)]at hp
    cases hp
  |1=>exact Or.inl hp
  |2=>exact Or.inl hp
  |_+3=>cases hp
theorem C6 {α:Type} {l:List α} {x y:α} {i:Nat} (h:(l++ [x])[i]?=some y):l[i]?=some y\/(i=l.length/\y=x):=by
 obtain hl|hl|hl:=Nat.lt_trichotomy i l.length
 .rw[fN hl]at h;exact Or.inl h
 .subst hl;simp at h;exact Or.inr ⟨rfl,h.symm⟩
 .rw[List.getElem?_eq_none (by simp;omega)]at h
  cases h
theorem DmQ.call {w1:World} {fv' vl:Value} {q:Nat} {l:List V} (h:DmQ K w0 w val e hv fv fo s ds) (hf:w.ownsRow w0.heap.size 135 2 vl l.length (aV l)) (hn: ∀g,vl.ownBlock=some g-> ∀a v l,cU s.heap fo ds a=some (v,l)->v.ownBlock≠some g)
  (hB1:But (λk=>fv.ownBlock=some k) w w1) (ho:w1.ownsRow w0.heap.size 121 4 fv' (ds.length+1) (d9 (ds++ [⟨q,0,[],l,S_,vl⟩]))):
  DmQ K w0 (w1.setCell ⟨K.mb,3,none⟩ fv') val e hv fv' fo s (ds++ [⟨q,0,[],l,S_,vl⟩]):=by
 have a0:=au w1 K.mb 3 fv';have a1:=h.mc.but hB1 h.nf;refine⟨(h.old.next hB1 (λk hk hf=>by have:=ay h.fr k hf;omega)).next a0 (λk hk e=>by have:=h.ge;omega),a1.set3 fv',h.len,aj (aj h.hp hB1 (λg hg hf=>h.fh hf hg)) a0 (λg hg e=>h.nh (e▸hg)),?_,h.rw.add (2,ds.length) (λho=>aj (aj ho hB1 (λg hg=>d7 ho h.fr (by decide) hg)) a0 (λg hg e=>aL ho h.mc (by decide) (e▸hg))) (λa p hp=> ?_) hf hn,h.ge⟩
 .rw[aZ];exact aj ho a0 (λg hg e=>aL ho a1 (by decide) (e▸hg))
 .obtain⟨a,i⟩:=a
  match a with
  |0=>exact Or.inl hp
  |1=>
   obtain⟨d,hd,rfl⟩:=Option.map_eq_some_iff.1 hp;obtain hd| ⟨rfl,rfl⟩:=C6 hd
   .exact Or.inl (by simp[cU,hd])
   .exact Or.inr (Or.inr rfl)
  |2=>
   obtain⟨d,hd,rfl⟩:=Option.map_eq_some_iff.1 hp;obtain hd| ⟨rfl,rfl⟩:=C6 hd
   .exact Or.inl (by simp[cU,hd])
   .exact Or.inr (Or.inl ⟨rfl,rfl⟩)
  |_+3=>cases hp
theorem u9 {base ty size g n m cap:Nat} {xs ys:List Value} (h:w.ownsRow base ty size (.slice (some ⟨g,0,none⟩) n cap) n (xs++ys)) (hm:m<=n) (hx:xs.length=m*size):w.ownsRow base ty size (.slice (some ⟨g,0,none⟩) m cap) m xs:=by
 obtain⟨h0,_⟩ | ⟨g',cap',cur,hv,hg,hh,hn,a1,a2,a0⟩:=h.2
 .cases h0
 .injection hv with e1 e2 e3;injection e1 with e1;injection e1 with e1;subst e1 e3;refine⟨hx,.inr ⟨g,cap,cur,rfl,hg,hh,by omega,a1,a2,?_⟩⟩;have:=congrArg (List.take (m*size)) a0
  rwa [List.take_take,Nat.min_eq_left (Nat.mul_le_mul_right _ hm),List.take_left' hx]at this
theorem DmQ.drop {g cap:Nat} (h:DmQ K w0 w val e hv (.slice (some ⟨g,0,none⟩) (ds.length+1) cap) fo s (ds++ [d])):DmQ K w0 (w.setCell ⟨K.mb,3,none⟩ (.slice (some ⟨g,0,none⟩) ds.length cap)) val e hv (.slice (some ⟨g,0,none⟩) ds.length cap) fo s ds:=by
 have hB:=au w K.mb 3 (.slice (some ⟨g,0,none⟩) ds.length cap);have hf:=h.fr;rw[aZ,dM,ik]at hf;have a0:=u9 hf (m:=ds.length) (by omega) (lr ds);refine⟨h.old.next hB (λk hk e=>by have:=h.ge;omega),h.mc.set3 _,h.len,aj h.hp hB (λg hg e=>h.nh (e▸hg)),aj a0 hB (λg hg e=>h.nf (e▸hg)),(h.rw.but hB (λa v l g ha hg e=>(h.rn ha hg).1 e)).sub (λa p hp=> ?_),h.ge⟩;obtain⟨a,i⟩:=a
 match a with
 |0=>exact hp
 |1=>
  obtain⟨x,hx,rfl⟩:=Option.map_eq_some_iff.1 hp;simp[cU,fN (bC hx).1,hx]
 |2=>
  obtain⟨x,hx,rfl⟩:=Option.map_eq_some_iff.1 hp;simp[cU,fN (bC hx).1,hx]
 |_+3=>cases hp
end
end
section
open Go Go.RowKit Sp
attribute [local go_sem ↓] dG dH
theorem oW {zx:List V} (hl:1<=zx.length):zx=bB zx++ [bE zx]/\zx[zx.length-1]?=some (bE zx)/\(bB zx).length=zx.length-1:=by
 have e:zx[zx.length-1]?=some (bE zx):=by
  unfold bE;rw[co,aH (show zx.length-1<zx.length by omega),Option.getD_some]
 refine⟨?_,e,by simp[bB]⟩;obtain⟨h1,h2⟩:=bC e;rw[<-h2,bB,<-iM h1,List.take_of_length_le (by omega)]
section
variable {K:Dk} {w0 w w':World} {val e:Int} {hv fv:Value} {fo:List Value} {s:Ev} {ds:List Fd} {d:Fd} {g cap:Nat}
theorem gv (h:DmQ K w0 w val e hv (.slice (some ⟨g,0,none⟩) (ds.length+1) cap) fo s (ds++ [d])) (hl:1<=d.zx.length) (h4:d.zx.length<=4000):
  Calls prog 175 #[.pointer (some ⟨g,ds.length*4,none⟩)] w λen w'=>en= .returned (dK (bE d.zx))/\But (· =g) w w'/\ ∃sv',DmQ K w0 w' val e hv (.slice (some ⟨g,0,none⟩) (ds.length+1) cap) fo s (ds++ [{d with sv:=sv',zx:=bB d.zx}]):=by
 obtain⟨q,pc,zx,loc,sv,lv⟩:=d;obtain⟨a4,a5,a6,_,_,c2,_,fz⟩:=h.cs;have hs:=h.st;simp only at hl h4 c2 hs⊢;obtain⟨a,c,rfl⟩:=aw hs;obtain⟨gs,rfl,a8,b0,a0⟩:=aF hs (by omega);obtain⟨t1,t2,t3⟩:=oW hl;have q0:w.cell? ⟨gs,(zx.length-1)*2,none⟩=some (.int .u8 (bE zx).K):=a0 _ _ (bK (k:=0) t2 (by omega));have q1:w.cell? ⟨gs,(zx.length-1)*2+1,none⟩=some (.int .i64 (bE zx).N):=a0 _ _ (bK (k:=1) t2 (by omega))
 have a1:zx.length<=c:=by
  obtain⟨h0,_⟩ | ⟨g',cap',cur,hv,_,_,hn,_⟩:=hs.2
  .cases h0
  .injection hv with _ _ e3;omega
 have hp:w.ownsRow w0.heap.size 135 2 (.slice (some ⟨gs,0,none⟩) (bB zx).length c) (bB zx).length (aV (bB zx)):=by
  have e:aV zx=aV (bB zx)++aV [bE zx]:=by
   conv=>lhs;rw[t1]
   simp[aV]
  rw[e]at hs;exact u9 hs (by omega) (kq _)
 rw[t3]at hp;have b1: ¬g=gs:=λe=>(h.rn ja (g:=gs) rfl).2.2 (by rw[e];rfl)
 have HF:=hid (λ(w1:World) (hB:B_ w w1)=>h.zx (w1:=w1) (v:= .slice (some ⟨gs,0,none⟩) (zx.length-1) c) (l:=bB zx) (hB.mono (λ_ _ h=>h.elim)) (by rw[t3];exact aj hp hB (λ_ _ h=>h)) (λg hg=>Or.inr hg));obtain⟨n,hn⟩: ∃n,zx.length=n+1:=⟨zx.length-1,by omega⟩;rw[hn]at q0 q1 c2 a1;rw[hn]at HF;simp only[Nat.add_sub_cancel]at q0 q1 HF;have a3:=fz (ds.length*4+2);generalize a2:bE zx=u at*;have a7:n<=4000:=by omega
 clear a0 t1 t2 t3 hs hp h hl h4 hn fz a2;generalize ds.length*4=o at*;simp only[dK]
 go_in
 go_wp2_with fail;exact Cd results175 rfl rfl (((ag (λ_=>False) _ _).block _ (by simp) (λh=>h)).trans (aB (by simp) _)) ⟨rfl,(au _ _ _ _).trans ((ag _ _ _).trans (ag _ _ _)),_,(HF.out w (But.refl _ _)).new ((ag _ _ _).trans (ag _ _ _))⟩
theorem dT (h:DmQ K w0 w val e hv (.slice (some ⟨g,0,none⟩) (ds.length+1) cap) fo s (ds++ [d])) (u:V) (h4:d.zx.length<=4000):
  Calls prog 177 #[.pointer (some ⟨g,ds.length*4,none⟩),dK u] w λen w'=>en= .returned (.tuple #[])/\ ∃sv',DmQ K w0 w' val e hv (.slice (some ⟨g,0,none⟩) (ds.length+1) cap) fo s (ds++ [{d with sv:=sv',zx:=d.zx++ [u]}]):=by
 obtain⟨q,pc,zx,loc,sv,lv⟩:=d;obtain⟨b3,e5,e6,_,_,c2,_,fz⟩:=h.cs;have hs:=h.st;simp only at h4 c2 hs⊢;obtain⟨a,c,rfl⟩:=aw hs;have HF:=hid (λ(w1:World) (v:Value)=>h.zx (w1:=w1) (v:=v) (l:=zx++ [u]));have ab: ¬(Value.slice a zx.length c).ownBlock=some g:=λe=>(h.rn ja e).2.2 rfl
 have an: ¬(Value.slice a zx.length c).ownBlock=some w.heap.size:=λe=>by have:=aW hs _ e;omega
 have a7:=fz (ds.length*4+2);have e1:=h.old.size;obtain⟨i0,c9,e2,e3,e4⟩:=info_parts xx;generalize hW:w.alloc (.cells #[.int .u8 u.K,.int .i64 u.N] 135)=W;have hB:B_ w W:=by rw[<-hW];exact ag _ _ _
 have a8:W.heap.size=w.heap.size+1:=by rw[<-hW];simp
 have hb:W.heap[w.heap.size]?=some (.cells #[.int .u8 u.K,.int .i64 u.N] 135):=by rw[<-hW];exact aO _ _
 have b0:=ce0 hb;have b1:=ce1 hb;have d2:=hB.kc c2 b3;have dz:=hB.kz a7 b3;have e0:=aj hs hB (λ_ _ h=>h);have a4:g<W.heap.size:=by omega
 have b2:=ae hb;have b6:=hid hW;have a6:=hid a8;clear hW h fz a7 c2 hb a8;generalize b4:zx.length=ns at*;have b5:=hid b4;clear b4;generalize ds.length*4=o at*;simp only[dK]
 go_in
 go_wp2_with fail;rw[b6.out];refine aI (But (λk=>(Value.slice a ns c).ownBlock=some k) W) 8 ?_;have b9:But (λk=>(Value.slice a ns c).ownBlock=some k) W W.drew:=aD _ _
 iterate 6 (refine aQ (v:=?_) rfl b9 ?_ ?_;rotate_left;(focus (intro wS h;have q0:=((h.cell (p:=⟨g,o+2,none⟩) a4 ab).trans d2);have q1:=((h.cell (p:=⟨w.heap.size,0,none⟩) b2 an).trans b0);have q2:=((h.cell (p:=⟨w.heap.size,1,none⟩) b2 an).trans b1);clear h;go_simp;try rfl));dsimp only[Act.put];try simp only[cH])
 refine az rfl ?_;intro KS hKS;go_simp;refine hKS.out _ _ (λ_=>(ag _ _ _).trans (aD _ _)) ?_;clear hKS KS;refine az rfl ?_;intro KS hKS
 refine step_append_lies _ (by rfl) _ _ _ (by rfl) w0.heap.size 135 i0 _ 2 16 (by kernel_rfl) c9 e2 e3 e4 rfl (by omega) _ ns (aV zx) (by rfl) ((e0.alloc _).drew)
         ⟨W.heap.size,0,none⟩ 1 1 [.int .u8 u.K,.int .i64 u.N] (by rfl) (by rfl) (fX (cs:=#[.int .u8 u.K,.int .i64 u.N]) (t:=135) (fr:=(0,0)) (aO W _)) (by simp[Value.oneCell'])
         (by omega) (by unfold maxLen;omega) (by omega) (by have:=a6.out;simp;omega) (W.heap.size+1) (by simp) ?_
 intro gg a5 w2 a2 a1 a3 d6;have a0:But (λk=>(Value.slice a ns c).ownBlock=some k) W w2:=((ag _ _ _).trans (aD _ _)).trans (bc a1);refine hKS.out _ _ (λ_=>a0) ?_;clear hKS KS;have y0:=(a0.cell (p:=⟨g,o+2,none⟩) a4 ab).trans d2;have y1:=(a0.frozen (p:=⟨g,o+2,none⟩) a4 ab).trans dz;have c7:g<w2.heap.size:=bq a4 a0.size;refine iC rfl ?_;go_wp2_with fail;go_end0;refine⟨rfl,_,HF.out w2 (.slice (some ⟨gg,0,none⟩) (ns+1) a5) ((hB.mono (λ_ _ h=>h.elim)).trans a0) ?_ (λg' hg'=> ?_)⟩
 .rw[aZ,b5.out,lU];exact a2
 .simp only[Value.ownBlock,Option.some.injEq]at hg';subst hg';obtain a3|a3:=a3
  .exact Or.inr a3
  .have:=a6.out;left;omega
end
def bz (im:Img) (x:Ins):L_:=
 if x.op.toNat=119\/x.op.toNat=102 then [105]
 else if x.op.toNat=43\/x.op.toNat=45\/x.op.toNat=42\/x.op.toNat=47\/x.op.toNat=60\/x.op.toNat=61 then [105,105]
 else if x.op.toNat=101 then [111,111]
 else if x.op.toNat=103\/x.op.toNat=120 then [111]
 else if x.op.toNat=112 then if(cO im.zz x.a x.b).toNat=105 then [111,105]else [111,111]
 else if x.op.toNat=99 then if(gY im.zj x.b).toNat=105 then [111,105]else [111,111]
 else []
def br (x:Ins):Value:= .agg #[.int .u8 x.op.toNat,.int .i64 x.a,.int .i64 x.b,.int .i64 x.pos]
theorem Eu {α:Type} (n:Nat) (p q:α):(if n=105 then p else q)=if((n:Int)==105)=true then p else q:=by
 by_cases h:n=105
 .subst h;rfl
 .rw[if_neg h,if_neg (by rw[beq_iff_eq];omega)]
section
variable {K:Dk} {w0 w w':World} {val e:Int} {hv fv:Value} {fo:List Value} {s:Ev} {ds:List Fd} {d:Fd} {im:Img} {x:Ins} {nl:Nat}
theorem zE (h:DmQ K w0 w val e hv fv fo s ds) (hI:dX w0 K.bi im) (hx:WfX im.zz im.zj.length nl x):
  Calls prog 109 #[.pointer (some ⟨K.mb,0,none⟩),br x] w λen w'=>en= .returned (.string ⟨(bz im x).toArray⟩)/\B_ w w':=by
 have c0:=h.mc.cs.1;have a6:=h.lt;have a0:=hx.op;simp[cV]at a0;unfold br
 by_cases h112:x.op.toNat=112
 .obtain⟨g,m,cap,fl,d0,hm,hc,a1,a2,lbi,lg⟩:=(hI.but h.old).cls.flds (hx.cls (by omega)) (hx.fld (by omega));have e1:bz im x=if(cO im.zz x.a x.b).toNat=105 then [111,105]else [111,111]:=by simp[bz,h112]
  rw[e1,h112,<-a2];have a3: ∀h,(⟨fl.toArray⟩:ByteArray)[x.b]'h=fl.getD x.b 0:=λh=>by rw[xk fl _ a1];exact yi fl _ a1 _
  have a4:(x.b:Int)<(fl.length:Int):=by omega
  have a7:x.b<(⟨fl.toArray⟩:ByteArray).size:=a1;have a5:(x.a:Int)<(m:Int):=by omega
  generalize fl.getD x.b 0=C at*;clear a2 a0 h112 e1;rw[Eu];obtain⟨b,hb⟩: ∃b,((C.toNat:Int)==105)=b:=⟨_,rfl⟩;rw[hb]
  cases b
  all_goals
   go_in
   go_wp2_with fail
   go_quiet (fail)
   go_wp2_with fail;go_ret;exact⟨rfl,(ag _ _ _).trans (aK _ _ _)⟩
 by_cases h99:x.op.toNat=99
 .obtain⟨g,n,cap,d1,hn,hc,_,lbi,lg⟩:=(hI.but h.old).sig.at (hx.sig (by omega));have e1:bz im x=if(gY im.zj x.b).toNat=105 then [111,105]else [111,111]:=by simp[bz,h99]
  rw[e1,h99];generalize gY im.zj x.b=C at*;clear a0 h112 h99 e1;rw[Eu];obtain⟨b,hb⟩: ∃b,((C.toNat:Int)==105)=b:=⟨_,rfl⟩;rw[hb]
  cases b
  all_goals
   go_in
   go_wp2_with fail
   go_quiet (fail)
   go_wp2_with fail;go_ret;exact⟨rfl,(ag _ _ _).trans (aK _ _ _)⟩
 simp only[h112,h99,or_false,false_or]at a0;obtain h'|h'|h'|h'|h'|h'|h'|h'|h'|h'|h'|h'|h'|h'|h'|h'|h'|h'|h'|h':=a0
 all_goals
  rw[show bz im x=_ from by simp only[bz,h'];rfl,h'];clear h112 h99 h'
  go_in
  go_wp2_with fail;go_ret;exact⟨rfl,ag _ _ _⟩
end
theorem va:((V.z).K:Int)=122:=rfl
theorem vd:(V.z).N=0:=rfl
theorem ve {k:Nat}:((V.o k).K:Int)=111:=rfl
theorem vg {k:Nat}:(V.o k).N=(k:Int):=rfl
theorem nA {n:Int}:((V.i n).K:Int)=105:=rfl
theorem nB {n:Int}:(V.i n).N=n:=rfl
def lu (ts:L_) (zx:List V):Prop:=ts.length<=zx.length/\ ∀(j:Nat) (t:UInt8) v,ts[j]?=some t->zx[zx.length-ts.length+j]?=some v->((t.toNat:Int)==105)=((v.K:Int)==105)
section
variable {K:Dk} {w0 w w':World} {val e:Int} {hv fv:Value} {fo:List Value} {s:Ev} {ds:List Fd} {d:Fd} {g cap:Nat}
theorem wO (h:DmQ K w0 w val e hv (.slice (some ⟨g,0,none⟩) (ds.length+1) cap) fo s (ds++ [d])) (h4:d.zx.length<=4000) (ts:L_) (ht:lu ts d.zx) (a1:ts.length<=2):
  Calls prog 110 #[.pointer (some ⟨g,ds.length*4,none⟩),.string ⟨ts.toArray⟩] w λen w'=>en= .returned (.bool true)/\w'=w:=by
 obtain⟨q,pc,zx,loc,sv,lv⟩:=d;obtain⟨a6,a7,a8,_,_,c2,_,fz⟩:=h.cs;have hs:=h.st;simp only at h4 c2 hs ht⊢;obtain⟨a,c,rfl⟩:=aw hs;obtain⟨m,hm⟩: ∃m,zx.length=m+ts.length:=⟨zx.length-ts.length,by have:=ht.1;omega⟩;have HS:=hid hs;have HT:=hid ht.2;have HM:=hid hm;rw[hm]at c2 h4;clear h hs ht fz hm;generalize ds.length*4=o at*
 go_in
 go_wp2_with fail
 go_loopg [6] ts.length (λmm is wr=> ∃k:Nat,is= .int .i64 k/\k+mm<=ts.length/\ts.length<=k+mm/\wr=w)
 case atStart=>exact⟨0,rfl,by omega,by omega,rfl⟩
 case round=>
  obtain⟨k,rfl,b0,b1,a3⟩:=hrel;rw[a3];clear a3
  by_cases hlt:k<ts.length
  .have a5:(k:Int)<(ts.length:Int):=by omega
   have a1:k<ts.length:=hlt;have a2:m+k<zx.length:=by rw[HM.out];omega
   obtain⟨gs,a4,b3,b4,a0⟩:=aF HS.out (by omega);obtain⟨C,hC⟩: ∃C,ts[k]=C:=⟨_,rfl⟩;obtain⟨v,hv⟩: ∃v,zx[m+k]?=some v:=⟨_,aH a2⟩;have q0:w.cell? ⟨gs,(m+k)*2,none⟩=some (.int .u8 v.K):=a0 _ _ (bK (k:=0) hv (by omega));have kC: ∀h,(⟨ts.toArray⟩:ByteArray)[k]'h=C:=λh=>by rw[<-hC];exact yi ts _ a1 _
   have b5:k<(⟨ts.toArray⟩:ByteArray).size:=a1;have heq:=HT.out k C v (by rw[aH a1,hC]) (by rw[HM.out];simpa using hv);obtain⟨b,hb⟩: ∃b,((v.K:Int)==105)=b:=⟨_,rfl⟩;rw[hb]at heq;subst a4;have b2:(m:Int)+k<(m:Int)+ts.length:=by omega
   clear hC hv a0 a2 a1
   cases b
   all_goals
    go_wp2_with fail
    go_roundg (ts.length-(k+1))
    case measure=>omega
    case rel=>exact⟨k+1,by simp,by omega,by omega,rfl⟩
  .have a5: ¬(k:Int)<(ts.length:Int):=by omega
   go_wp2_with fail;go_ret;exact⟨rfl,rfl⟩
theorem DmQ.obj {k:Nat} {ob:Ob} (h:DmQ K w0 w val e hv fv fo s ds) (hk:s.heap[k]?=some ob): ∃g cap v,hv= .slice (some ⟨g,0,none⟩) s.heap.length cap/\fo[k]?=some v/\g<w.heap.size/\w.cell? ⟨g,k*2,none⟩=some (.int .i64 ob.cls)/\w.cell? ⟨g,k*2+1,none⟩=some v/\w.ownsRow w0.heap.size 135 2 v ob.fs.length (aV ob.fs):=by
 have a1:=(bC hk).1;obtain⟨v,hv'⟩: ∃v,fo[k]?=some v:=⟨_,aH (by rw[h.len];exact a1)⟩;have ho:=h.hp;obtain⟨a,c,rfl⟩:=aw ho;obtain⟨g,rfl,a0,a2,hc⟩:=aF ho (by omega);exact⟨g,c,v,rfl,hv',a0,hc _ _ (pS (j:=0) hk hv' (by omega)),hc _ _ (pS (j:=1) hk hv' (by omega)),h.rw.row _ _ _ (qm hk hv')⟩
theorem CC (h:DmQ K w0 w val e hv fv fo s ds) (y:Nat):
  Calls prog 176 #[.pointer (some ⟨K.mb,0,none⟩),dK .z,.int .i64 y] w λen w'=>en= .returned (.bool true)/\B_ w w':=by
 clear h;simp only[dK,va,vd]
 go_in
 go_wp2_with fail;go_ret;exact⟨rfl,ag _ _ _⟩
theorem CD {im:Img} {k:Nat} {ob:Ob} (h:DmQ K w0 w val e hv fv fo s ds) (hI:dX w0 K.bi im) (hw:WfC im.zz) (hk:s.heap[k]?=some ob) (hc:ob.cls<im.zz.length) (h4:s.heap.length<=4000) (y:Nat):
  Calls prog 176 #[.pointer (some ⟨K.mb,0,none⟩),dK (.o k),.int .i64 y] w λen w'=>en= .returned (.bool (bF im.zz 5 ob.cls y))/\B_ w w':=by
 obtain⟨g,cap,v,rfl,_,a1,q0,_,_⟩:=h.obj hk;obtain⟨c0,_,c2,_⟩:=h.mc.cs;have a3:=h.lt;have a2:(k:Int)<(s.heap.length:Int):=by have:=(bC hk).1;omega
 have HU:=hid (λ(Y:World) (hY:B_ w Y)=>yh K.bi im.zz ob.cls y Y (hI.but (h.old.trans hY)).cls hw (by omega) (by omega));generalize bF im.zz 5 ob.cls y=R at*;generalize ob.cls=oc at*;clear h hk hI hc;generalize s.heap.length=nh at*;simp only[dK,ve,vg];have a0:=hid (λn=>HU.out ((w.alloc (.cells #[.int .u8 111,.int .i64 k] 135)).drewN n) ((ag _ _ _).trans (aK _ _ _)));clear HU
 go_in
 go_wp2_with fail
 go_quiet (exact Calls.quiet_of_same (a0.out _))
 go_wp2_with fail;go_ret;exact⟨rfl,(ag _ _ _).trans (aK _ _ _)⟩
end
def jB (K:Dk) (w0:World) (g cap:Nat) (ds:List Fd) (q:Nat) (s:Ev) (pc:Int) (zx loc:List V) (e:Int) (w':World):Prop:=
 ∃hv fo sv lv,DmQ K w0 w' 0 e hv (.slice (some ⟨g,0,none⟩) (ds.length+1) cap) fo s (ds++ [⟨q,pc,zx,loc,sv,lv⟩])
section
variable {K:Dk} {w0 w w':World} {hv:Value} {fo:List Value} {s:Ev} {ds:List Fd} {d:Fd} {g cap:Nat} {x:Ins}
theorem Ew (h:DmQ K w0 w 0 12 hv (.slice (some ⟨g,0,none⟩) (ds.length+1) cap) fo s (ds++ [d])) (h4:d.zx.length<=4000) (ho:x.op.toNat=107):
  Calls prog 115 #[.pointer (some ⟨K.mb,0,none⟩),.pointer (some ⟨g,ds.length*4,none⟩),br x] w λen w'=>en= .returned (.tuple #[])/\jB K w0 g cap ds d.q s d.pc (d.zx++ [.i x.b]) d.loc 12 w':=by
 have HP:=hid (λY (hY:B_ w Y)=>dT (h.new hY) (.i x.b) h4);clear h;unfold br;rw[ho];clear ho;simp only[dK,V.K,V.N]at HP;generalize ds.length*4=o at*
 go_in
 go_wp2_with fail;refine(HP.out _ (ag _ _ _)).mono ?_;rintro en w1 ⟨rfl,sv,hM⟩;clear HP;go_wp2_with fail;go_end0;exact⟨rfl,_,_,_,_,hM⟩
theorem Ex (h:DmQ K w0 w 0 12 hv (.slice (some ⟨g,0,none⟩) (ds.length+1) cap) fo s (ds++ [d])) (h4:d.zx.length<=4000) (hr:s.read<=4000) (ho:x.op.toNat=114):
  Calls prog 115 #[.pointer (some ⟨K.mb,0,none⟩),.pointer (some ⟨g,ds.length*4,none⟩),br x] w λen w'=>en= .returned (.tuple #[])/\jB K w0 g cap ds d.q {s with read:=s.read+1} d.pc (d.zx++ [.i (jH K.inp s.read)]) d.loc 12 w':=by
 obtain⟨_,_,_,_,c4,c5,_⟩:=h.mc.cs;have a0:=h.lt;have fz:=h.mc.fz 5;have HN:=hid (λY=>wk K.inp s.read (by omega) Y);have HP:=hid (λY (hY:B_ w Y)=>dT ((h.new hY).own (val':=0) (e':=12) (s':={s with read:=s.read+1}) (au Y K.mb 5 (.int .i64 ((s.read:Int)+1))) rfl (by have:=(h.new hY).mc.set5 ((s.read:Int)+1);simpa using this)) (.i (jH K.inp s.read)) h4);clear h;unfold br;rw[ho];clear ho;simp only[dK,V.K,V.N]at HP;generalize ds.length*4=o at*;generalize jH K.inp s.read=nv at*
 go_in
 go_wp2_with fail
 go_quiet (exact Calls.quiet_of_same (HN.out _))
 go_wp2_with fail;refine(HP.out _ ((ag _ _ _).trans (aK _ _ _))).mono ?_;rintro en w1 ⟨rfl,sv,hM⟩;clear HP;go_wp2_with fail;go_end0;exact⟨rfl,_,_,_,_,hM⟩
theorem Ey (h:DmQ K w0 w 0 12 hv (.slice (some ⟨g,0,none⟩) (ds.length+1) cap) fo s (ds++ [d])) (h4:d.zx.length<=4000) (ht:fj w0) (hol:s.out.length<=90000) (hl:1<=d.zx.length) {m:Int} (hm:bE d.zx= .i m) (hm1: -2147483648<=m) (hm2:m<2147483648) (ho:x.op.toNat=119):
  Calls prog 115 #[.pointer (some ⟨K.mb,0,none⟩),.pointer (some ⟨g,ds.length*4,none⟩),br x] w λen w'=>en= .returned (.tuple #[])/\jB K w0 g cap ds d.q (s.say m) d.pc (bB d.zx) d.loc 12 w':=by
 have HP:=hid (λY (hY:B_ w Y)=>gv (h.new hY) hl h4);have a6:=Lib.itoa_length_le m (by omega) (by omega);obtain⟨D,hD⟩: ∃D,Lib.itoa m=D:=⟨_,rfl⟩;have HS:Hid (s.say m={s with out:=s.out++D++ [32]}):=by show _=_;simp[Ev.say,hD]
 have a1:=λw ht=>ur m hm1 hm2 w ht
 rw[hD]at a1 a6;have a2:=hid a1;rw[hm]at HP;clear h a1 hD hm hm1 hm2;unfold br;rw[ho];clear ho;simp only[dK,V.K,V.N]at HP;generalize ds.length*4=o at*
 go_in
 go_wp2_with fail;refine(HP.out _ (ag _ _ _)).mono ?_;rintro en w1 ⟨rfl,a5,sv,hM⟩;clear HP a5;go_wp2_with fail;refine(a2.out _ (ht.but (hM.new (ag _ _ _)).old)).mono ?_;rintro en w2 ⟨rfl,a4⟩;have a0:=(hM.new (ag _ _ _)).new a4;clear a2 hM a4;obtain⟨_,_,_,_,_,_,_,c7,_⟩:=a0.mc.cs;have z7:=a0.mc.fz 7;have b1:=a0.lt;have a8:=fW s.out D;have b0:=gJ (s.out++D) 32;have b2:(⟨s.out.toArray⟩:ByteArray).size+(⟨D.toArray⟩:ByteArray).size<=200000:=by show s.out.toArray.size+D.toArray.size<=200000;simp;omega
 have a7:(⟨(s.out++D).toArray⟩:ByteArray).size+(⟨#[32]⟩:ByteArray).size<=200000:=by show(s.out++D).toArray.size+1<=200000;simp;omega
 have a3:=hid a0;clear a0;go_wp2_with fail;go_end0;rw[HS.out];exact⟨rfl,_,_,_,_,a3.out.own (s':={s with out:=s.out++D++ [32]}) (au _ K.mb 7 (.string ⟨(s.out++(D++ [32])).toArray⟩)) rfl (by rw[List.append_assoc];exact a3.out.mc.set7 _)⟩
theorem Ez (h:DmQ K w0 w 0 12 hv (.slice (some ⟨g,0,none⟩) (ds.length+1) cap) fo s (ds++ [d])) (h4:d.zx.length<=4000) (hl:1<=d.zx.length) (hx:x.b<100) (ho:x.op.toNat=102):
  Calls prog 115 #[.pointer (some ⟨K.mb,0,none⟩),.pointer (some ⟨g,ds.length*4,none⟩),br x] w λen w'=>en= .returned (.tuple #[])/\jB K w0 g cap ds d.q s (if(bE d.zx).N=0 then(x.b:Int)-1 else d.pc) (bB d.zx) d.loc 12 w':=by
 have HP:=hid (λY (hY:B_ w Y)=>gv (h.new hY) hl h4);have a4:=h.cs.1;clear h;unfold br;rw[ho];clear ho;simp only[dK]at HP;generalize hu:bE d.zx=u at*;obtain⟨p,hp⟩: ∃p,(if u.N=0 then(x.b:Int)-1 else d.pc)=p:=⟨_,rfl⟩;rw[hp];have a0:=hid hp;clear hu hp
 go_in
 go_wp2_with fail;refine(HP.out _ (ag _ _ _)).mono ?_;rintro en w1 ⟨rfl,a1,sv,hM⟩;have hi:=(a1.block w.heap.size (by simp) (by show¬w.heap.size=g;omega)).trans (aO w _);have i2:=ce2 hi;have a5:=ae hi;obtain⟨a3,_,_,_,c1,_,_,fz⟩:=hM.cs;have f1:=fz (ds.length*4+1);have HM:=hid hM;have a2:=hid (hM.pc ((x.b:Int)-1));have a6:=er ((x.b:Int)-1) (by omega) (by omega);simp only at c1;clear HP hi fz hM a1;generalize ds.length*4=o at*
 by_cases h0:u.N=0
 .have b0:(u.N==0)=true:=by simp[h0]
  rw[if_pos h0]at a0;clear h0;go_wp2_with fail;go_end0;rw[<-a0.out];exact⟨rfl,_,_,_,_,a2.out.new (ag _ _ _)⟩
 .have b0:(u.N==0)=false:=by simp[h0]
  rw[if_neg h0]at a0;clear h0;go_wp2_with fail;go_end0;rw[<-a0.out];exact⟨rfl,_,_,_,_,HM.out.new (ag _ _ _)⟩
end
end
end Go.Proofs.YtpfkkmacakjmbaaGreatDoor
